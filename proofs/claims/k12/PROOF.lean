import PyProof.Rows.All
import Wide.All
import OpenK.AllK
import Wide.FinOn
import PySem.Challenge.RW_curvepieces_k12_whole_division_and_commo
import HandS.Comp
import HandS.Ends
import HandS.Dict
import HandS.Iter
import HandS.Words
import HandS.IsInst
import HandS.Gcd
import HandS.Zip
import HandS.WideBits
import PyProof.ReprRoads
import PyProof.ReprBulk
import PyProof.CallFns
import HandS.TupAny
import HandS.TryOnly
import HandS.Style
import KE.GoesEnum
import KE.GoesMore
set_option Elab.async false
set_option linter.all false
set_option maxRecDepth 100000
set_option maxHeartbeats 4400000
/-! Defs that may call repr: the layer's promise, said again with one more fact of what runs around (no repr is under way). -/
namespace Kr
open PySem PySem.Spec
open PyProof.Rows L2

/-- no repr runs around -/
abbrev Quiet (A : Around) : Prop := A.guards = some []

structure FnG (P : Program) (w : World) (K : PySem.W.Frag)
    (mg : Str → Option Value) (base : Heap) (CX : CXT) (k : Nat)
    (f : Addr) (fd : FuncData) (ps : List Str) (sp : Sp) : Prop where
  len : ∀ (vs : List V) (H : Hp) (Q : VK) (E : XK), sp vs H Q E →
    vs.length = ps.length
  run : ∀ (A : Around) (out : List Env) (s : Shared) (H : Hp) (args : Args)
    (us : List Value) (vs : List V) (Q : VK) (E : XK), Quiet A → Room k A →
    Env0 P w K mg base A out s H → BindsTo s fd args (ps.zip us) →
    Vals vs us → sp vs H Q E →
    codeAny (model P w) A (.call (.ref f) args) (CR CX out P w H s Q E) s

/-- a def of the text that may be called by its name -/
structure Cl (P : Program) (w : World) (K : PySem.W.Frag)
    (mg : Str → Option Value) (base : Heap) (CX : CXT) (k : Nat)
    (x : Str) (st : Stmt) (ps : List Str) (sp : Sp) : Prop where
  ex : ∃ (f : Addr) (fd : FuncData), Fun K x x st f fd ∧
    mg x = some (.ref f) ∧ Binds K fd ps [] ∧ FnG P w K mg base CX k f fd ps sp

section
variable {X : Cx} {CX : CXT} {k j : Nat} {x : Str} {st : Stmt} {ps ks : List Str} {sp : Sp}
  {E : XK} {p pos : Pos} {e : Expr} {es : List Expr} {t tk : TA} {kws : List Keyword}

theorem runs_end {pins : List (Addr × Obj)} {σ : L2.St} {H : Hp} {s s' : Shared} {Q : VK}
    {r : Result} (hx : Passes CX X E) (I : Inv X pins σ H s)
    (hq : CR CX X.stack X.prog X.w H s Q E r s') :
    match r with
    | .ok (.ret u) => EP X pins σ Q u s'
    | .ok _ => False
    | .error e => X.xe e s' := by
  match r, hq with
  | .error e, hq => exact hx pins σ H s e s' I hq
  | .ok (.ret u), hq => exact I.after hq
  | .ok .next, hq => exact hq
  | .ok .brk, hq => exact hq
  | .ok .cont, hq => exact hq

theorem calls_u {pins : List (Addr × Obj)} {σ : L2.St} {H : Hp} {s : Shared} {Q : VK}
    {us : List Value} {vs : List V} {f : Addr} {fd : FuncData}
    (F : FnG X.prog X.w X.K X.mg X.base CX k f fd ps sp) (hG : Quiet X.A)
    (hr : Room k X.A) (hb : Binds X.K fd ps []) (hx : Passes CX X E)
    (I : Inv X pins σ H s) (r : Vals vs us) (h : sp vs H Q E) :
    wpAny (model X.prog X.w) X.A (call (.ref f) us)
      (EP X pins σ Q) X.xe s := by
  have hl : us.length = ps.length := r.length ▸ F.len _ _ _ _ h
  have hbt : BindsTo s fd ⟨us, []⟩ (ps.zip us) := by
    have z := hb s us I.kIn (by rw [List.append_nil]; exact hl)
    rwa [List.append_nil] at z
  have z := F.run X.A X.stack s H ⟨us, []⟩ us vs Q E hG hr I.env0 hbt r h
  refine wpAny_call (codeAny_mono z fun rr s' hq => ?_)
  have y := runs_end hx I hq
  cases rr with
  | error e => exact y
  | ok fl => cases fl <;> exact y

/-- f(e, ..) -/
theorem pe_u (c : Cl X.prog X.w X.K X.mg X.base CX k x st ps sp) (hG : Quiet X.A)
    (hr : Room j X.A) (hk : k ≤ j) (hg : Gl X x) (hx : Passes CX X E) (ha : PA X (e :: es) t)
    (hdb : (x == ("__debug__" : Str)) = false := by decide)
    (he : starEach (e :: es) X.env = (false, eval e X.env) :: starEach es X.env := by rfl)
    (hpl : (backTo pos (starEach es X.env)).any (·.1) = false := by rfl) :
    PE X (.Call (.Name x p) (e :: es) [] pos) (tCall sp [] E t) := by
  obtain ⟨f, fd, F, hm, hb, G⟩ := c.ex
  refine ⟨fun pins s σ H Q I h => wpAny_Call_Name_kw (ld_glob I hg hm ?_ hdb)⟩
  have q0 := ha.run pos pins s σ H _ I h
  refine PySem.W.callWith_K (h₀ := X.base) I.ok.mod.kin F.kp (thn q0 ?_) he hpl
  intro us s1 ⟨vs, H1, I1, r, q⟩
  have q : sp (vs ++ []) H1 Q E := q
  rw [List.append_nil] at q
  exact ⟨I1.kIn, calls_u G hG (hr.mono hk) hb hx I1 r q⟩

/-- how the names of a call's keywords lie among the parameters -/
structure KwB (K : PySem.W.Frag) (fd : FuncData) (ps ks : List Str)
    (g : List Value → List Value) (gV : List V → List V) : Prop where
  to : ∀ (s : Shared) (ws : List Value), K.In s.heap → (g ws).length = ps.length →
    BindsTo s fd ⟨[], ks.zip ws⟩ (ps.zip (g ws))
  rel : ∀ {zs : List V} {ws : List Value}, Vals zs ws → Vals (gV zs) (g ws)
def tCallU (sp : Sp) (gV : List V → List V) (E : XK) (tk : TA) : TE :=
  fun σ H Q => tk σ H fun zs H1 => sp (gV zs) H1 Q E
/-- f(k = v, ..) -/
theorem pe_uk {g : List Value → List Value} {gV : List V → List V}
    (c : Cl X.prog X.w X.K X.mg X.base CX k x st ps sp)
    (hkb : ∀ {f : Addr} {fd : FuncData}, Fun X.K x x st f fd → KwB X.K fd ps ks g gV)
    (hG : Quiet X.A) (hr : Room j X.A) (hk : k ≤ j) (hg : Gl X x) (hx : Passes CX X E)
    (hkw : PK X kws tk)
    (hall : (backToKw pos (keywordEach kws X.env)).all (·.1.isSome) = true := by rfl)
    (hks : (backToKw pos (keywordEach kws X.env)).filterMap (·.1) = ks := by rfl)
    (hdb : (x == ("__debug__" : Str)) = false := by decide)
    (hpl : ((backTo pos (starEach [] X.env)).any (·.1) ||
      (backToKw pos (keywordEach kws X.env)).any (·.1.isNone)) = false := by rfl) :
    PE X (.Call (.Name x p) [] kws pos) (tCallU sp gV E tk) := by
  obtain ⟨f, fd, F, hm, hb, G⟩ := c.ex
  have B := hkb F
  refine ⟨fun pins s σ H Q I h => wpAny_Call_Name_kw (ld_glob I hg hm ?_ hdb)⟩
  have q0 := hkw.run pos pins s σ H _ I h
  refine PySem.W.callWith_KW0 (h₀ := X.base) I.ok.mod.kin F.kp hall (thn q0 ?_) hpl
  intro ws s1 ⟨zs, H1, I1, r, q⟩
  refine ⟨I1.kIn, ?_⟩
  rw [hks]
  have r2 := B.rel r
  have hl : (g ws).length = ps.length := r2.length ▸ G.len _ _ _ _ q
  have z := G.run X.A X.stack s1 H1 ⟨[], ks.zip ws⟩ (g ws) (gV zs) Q E hG
    (hr.mono hk) I1.env0 (B.to s1 ws I1.kIn hl) r2 q
  refine wpAny_call (codeAny_mono z fun rr s' hq => ?_)
  have y := runs_end hx I1 hq
  cases rr with
  | error e => exact y
  | ok fl => cases fl <;> exact y
end

/-! a def by its body -/
section
variable {P : Program} {w : World} {K : PySem.W.Frag}
  {mg : Str → Option Value} {base : Heap}
theorem body_g {CX : CXT} {x : Str} {st : Stmt} {f : Addr} {fd : FuncData} {N ps : List Str}
    {k : Nat} {sp : Sp} (F : Fun K x x st f fd) (S : FnScope N ps (defScope st))
    (len : ∀ (vs : List V) (H : Hp) (Q : VK) (E : XK), sp vs H Q E →
      vs.length = ps.length)
    (hb : ∀ (cdv : Value) (A : Around) (out : List Env) (s : Shared) (H : Hp) (vs : List V)
      (Q : VK) (E : XK), Quiet (A.deeper (envOfC x (defScope st) s.heap.objs.size f cdv)) →
      Room k (A.deeper (envOfC x (defScope st) s.heap.objs.size f cdv)) → sp vs H Q E →
      ∃ t, PSs (cxOf CX P w K mg base N x (defScope st) f cdv A out s H E) (defBody st) t ∧
        t { nx := fun _ H' => Q .non H', rt := Q } (start N vs) H) :
    FnG P w K mg base CX (k + 1) f fd ps sp := by
  obtain ⟨c0, d0, kw0, dc0, pm0, an0, cdv, ct0, sl0, rfl, lk, hcd⟩ := F.ex
  refine ⟨len, fun A out s H args us vs Q E hG hr e0 hbt r hsp => ?_⟩
  have hl := len _ _ _ _ hsp
  have kin : ∀ b o, base.get? b = some o → s.heap.get? b = some o := fun b o e => (e0.bs b o e).1
  have KX : K.In s.heap := e0.mod.kin.keeps kin
  have lim : s.heap.NoLimit := e0.mod.nolimit.keeps kin
  have par : ∀ y ∈ ps.zip us, (defScope st).names.lookup y.1 = some .local ∨
      ((defScope st).names.lookup y.1 = some .cell ∧
       ((cellsFrom (s.heap.objs.size + 1) (defScope st).names []).lookup y.1).isSome = true) := by
    rintro ⟨n, v⟩ hy
    cases S.par n (List.of_mem_zip hy).1 with
    | inl q => exact .inl q
    | inr q => exact .inr ⟨q, PySem.W.cellsFrom_some _ _ _ (.inl q)⟩
  refine codeAny_call_function hr.depth (KX _ _ lk) rfl S.co S.gen rfl
    (PySem.W.codeRec_of KX hcd) (hbt _ _ _ _ ?_)
  refine wpAny_newFunctionEnv_cells S.kind par fun env he s1 y => ?_
  subst he
  refine ⟨lim.keeps y.toInCall.keep, codeAny_func ?_⟩
  obtain ⟨t, ht, hq⟩ := hb cdv A out s H vs Q E hG (hr.deeper _) hsp
  have J0 : Inv (cxOf CX P w K mg base N x (defScope st) f cdv A out s H E) []
      (start N vs) H s1 := inv_start S hr.hd e0 hl r y
  refine wpAny_mono (ht.run [] s1 (start N vs) H _ J0 hq) ?_ (fun e s' hs => hs)
  intro fl s' hs
  match fl, hs with
  | .ret u, ⟨v, σ', H', J, rv, q⟩ =>
    exact (show CE out P w H s Q u s' from ⟨v, H', J.os, J.bare, J.base, J.hok, rv, q⟩)
  | .next, ⟨σ', H', J, q⟩ =>
    exact (show CE out P w H s Q .none s' from ⟨.non, H', J.os, J.bare, J.base, J.hok, rfl, q⟩)
  | .brk, ⟨_, _, _, q⟩ => exact False.elim q
  | .cont, ⟨_, _, _, q⟩ => exact False.elim q
/-- .. that lets no exception out -/
theorem body_0 {x : Str} {st : Stmt} {f : Addr} {fd : FuncData} {N ps : List Str}
    {k : Nat} {sp : Sp} (F : Fun K x x st f fd) (S : FnScope N ps (defScope st))
    (len : ∀ (vs : List V) (H : Hp) (Q : VK) (E : XK), sp vs H Q E →
      vs.length = ps.length)
    (hb : ∀ (cdv : Value) (A : Around) (out : List Env) (s : Shared) (H : Hp) (vs : List V)
      (Q : VK) (E : XK), Quiet (A.deeper (envOfC x (defScope st) s.heap.objs.size f cdv)) →
      Room k (A.deeper (envOfC x (defScope st) s.heap.objs.size f cdv)) → sp vs H Q E →
      ∃ t, PSs (cxOf CX0 P w K mg base N x (defScope st) f cdv A out s H E).nox
          (defBody st) t ∧ t { nx := fun _ H' => Q .non H', rt := Q } (start N vs) H) :
    FnG P w K mg base CX0 (k + 1) f fd ps sp :=
  body_g F S len fun cdv A out s H vs Q E hG hr h =>
    let ⟨t, ht, q⟩ := hb cdv A out s H vs Q E hG hr h
    ⟨t, ht.nox, q⟩
end

/-! repr of data -/
section
variable {X : Cx}
theorem call_repr (hG : Quiet X.A) (hu : X.A.units + 64 < cLine) :
    CallR X (.builtin "repr") (fun xs H Q => ∃ a d, xs = [.ref a] ∧ Dp X.K H (.ref a) d ∧
      d.showable = true ∧ d.hasDict = false ∧ d.depth ≤ 60 ∧ d.shown.length ≤ sizeLine ∧
      Q (.str d.shown) H) := by
  intro pins s σ H zs us Q I r h
  obtain ⟨a, d, rfl, hd, hs, hn, h60, hz, q⟩ := h
  obtain ⟨u', rfl, rx⟩ := vals1 r
  obtain rfl : u' = Value.ref a := rx
  obtain ⟨as, hr⟩ := Dp.reads I d (.ref a) (.ref a) hd rfl
  refine repr_of_reads' hr hs (fun z => ?_) hG ?_ (fun _ _ e => e) (fun h' u tk kk => ?_) hz
  · rw [hn] at z; cases z
  · exact Nat.lt_of_le_of_lt (Nat.add_le_add_left (show d.depth + 1 ≤ 64 by omega) _) hu
  · exact ⟨.str d.shown, H, I.kept (fun b o e => kk b o e), ⟨u, rfl⟩, q⟩
end
end Kr
namespace Kr
open PySem PySem.Spec
open PyProof.Rows L2

theorem hu64 {A : Around} {k : Nat} (hr : Room k A) : A.units + 64 < cLine := hr.units

/-- a def of the text under its name -/
structure Df (K : PySem.W.Frag) (mg : Str → Option Value) (x : Str) (st : Stmt)
    (ps : List Str) : Prop where
  ex : ∃ (f : Addr) (fd : FuncData), Fun K x x st f fd ∧ mg x = some (.ref f) ∧ Binds K fd ps []
theorem Df.cl {P : Program} {w : World} {K : PySem.W.Frag} {mg : Str → Option Value} {base : Heap}
    {CX : CXT} {k : Nat} {x : Str} {st : Stmt} {ps : List Str} {sp : Sp} (D : Df K mg x st ps)
    (h : ∀ (f : Addr) (fd : FuncData), Fun K x x st f fd → FnG P w K mg base CX k f fd ps sp) :
    Cl P w K mg base CX k x st ps sp := by
  obtain ⟨f, fd, F, g, b⟩ := D.ex
  exact ⟨f, fd, F, g, b, h f fd F⟩

/-! the head of a law's walk, for such defs -/
theorem callG {P : Program} {w : World} {K : PySem.W.Frag} {mg mb : Str → Option Value} {k : Nat}
    {fa a : Addr} {fd : FuncData} {x : Str} {sp : Sp} {s₁ : Shared} {vs : List Value} {ns : List Int}
    (KX : K.In s₁.heap) (hns : s₁.heap.Ns mainGlobals mg) (hb : s₁.heap.Ns builtinsNs mb)
    (hbb : ∀ x : Str, x ≠ "__name__" → mb x = bootBuiltins x) (hlim : s₁.heap.NoLimit)
    (hg : s₁.gens = #[]) (ha : s₁.heap.get? a = some { cls := .type "list", data := .seq vs.toArray })
    (hi : IntsAre vs ns) (hl : ns.length ≤ sizeLine) (hr : Room k callerA)
    (F : ∀ base : Heap, K.In base → base.Ns mainGlobals mg → FnG P w K mg base CX0 k fa fd [x] sp)
    (hbind : ∀ (s : Shared) (u : Value), BindsTo s fd ⟨[u], []⟩ [(x, u)])
    (hsp : ∀ H : Hp, SqL K H a (ns.map V.int) → sp [.ref a] H (fun v _ => v = .bl true) fun _ _ _ => False) :
    codeAny (model P w) callerA (.call (.ref fa) ⟨[.ref a], []⟩)
      (fun r s' => r = .ok (.ret (.bool true)) ∧ OldK s₁.heap s'.heap ∧ s'.os = s₁.os ∧ AllBare s'.gens) s₁ := by
  have rv := vals_ints hi
  have lenV := hi.length
  have main : ∀ H : Hp, (∀ b u, H b = some u → b = a ∧ ∃ o ys, u = .frz o (.lst ys)) →
      SqL K H a (ns.map V.int) → HOk P w H s₁.heap → (H a ≠ none → K.lookup a = none) →
      codeAny (model P w) callerA (.call (.ref fa) ⟨[.ref a], []⟩)
        (fun r s' => r = .ok (.ret (.bool true)) ∧ OldK s₁.heap s'.heap ∧ s'.os = s₁.os ∧ AllBare s'.gens) s₁ := by
    intro H hA hS hok hK
    have dict0 : ∀ {b : Addr} {o : Obj} {es : Array DictEntry} {ep : Nat},
        s₁.heap.get? b = some o → o.data = .dict es ep → H b = none := by
      intro b o es ep e d
      match q : H b with
      | none => rfl
      | some u =>
        obtain ⟨e1, _⟩ := hA b u q
        rw [e1, ha] at e
        cases e
        exact nomatch (show Data.seq vs.toArray _ = Data.dict es ep from d)
    have nsT : ∀ {b : Addr} {m : Str → Option Value}, s₁.heap.Ns b m → (hidT s₁.heap H).Ns b m :=
      fun {b m} ⟨o, es, ep, e, d, r⟩ => ⟨o, es, ep, hidT_get e (dict0 e d), d, r⟩
    have kB : K.In (hidT s₁.heap H) := by
      intro b o e
      refine hidT_get (KX b o e) ?_
      match q : H b with
      | none => rfl
      | some u =>
        obtain ⟨e1, _⟩ := hA b u q
        subst e1
        rw [hK (by rw [q]; exact fun z => nomatch z)] at e
        cases e
    have M : Mod K mg (hidT s₁.heap H) :=
      ⟨kB, nsT hns, ⟨mb, nsT hb, hbb⟩, hlim.elim fun mc z => ⟨mc, nsT z.1, z.2⟩⟩
    have e0 : Env0 P w K mg (hidT s₁.heap H) callerA [] s₁ H :=
      ⟨rfl, M, fun b o e => of_hidT e, Nat.le_of_eq (hidT_size _ _), trivial,
        fun b z => absurd (show b ∈ ([] : List Addr) from z) List.not_mem_nil, hok, .of_eq hg⟩
    have z := (F _ kB (nsT hns)).run callerA [] s₁ H ⟨[.ref a], []⟩ [.ref a] [.ref a] _ _ rfl hr e0
      (hbind s₁ (.ref a)) (.cons rfl .nil) (hsp H hS)
    refine codeAny_mono z fun r s' h => ?_
    match r, h with
    | .error e, h => exact False.elim h
    | .ok .next, h => exact False.elim h
    | .ok .brk, h => exact False.elim h
    | .ok .cont, h => exact False.elim h
    | .ok (.ret u), ⟨v, H', os, bare, un, hok', r', q⟩ =>
      obtain rfl : v = .bl true := q
      obtain rfl : u = Value.bool true := by exact r'
      refine ⟨rfl, OldK.of_keep (fun b o e => ?_), os, bare⟩
      match q : H b with
      | none => exact un.keep b o e q (fun z => absurd (show b ∈ ([] : List Addr) from z) List.not_mem_nil) List.not_mem_nil
      | some u =>
        obtain ⟨_, ob, ys, rfl⟩ := hA b u q
        have y2 := un.frzs b ob _ q
        have e1 := (hok b _ q).1
        have e2 := (hok' b _ y2).1
        rw [e] at e1
        cases e1
        exact e2
  match hk : K.lookup a with
  | some o =>
    have e := KX a o hk
    rw [ha] at e
    cases e
    refine main (fun _ => none) (fun b u z => nomatch z) (.inr ?_) (fun b u z => nomatch z) fun z => absurd rfl z
    exact ⟨_, vs.toArray, _, hk, rfl, rfl, rfl, by rw [List.size_toArray, lenV]; exact hl, rv⟩
  | none =>
    let fz : HO := .frz { cls := .type "list", data := .seq vs.toArray } (.lst (ns.map V.int))
    refine main (upd (fun _ => none) a fz) ?_ (.inl (.inr ⟨_, upd_same⟩)) ?_ fun _ => hk
    · intro b u z
      by_cases hb : b = a
      · subst hb
        rw [upd_same] at z
        cases z
        exact ⟨rfl, _, _, rfl⟩
      · rw [upd_ne hb] at z
        cases z
    · intro b u z
      by_cases hb : b = a
      · subst hb
        rw [upd_same] at z
        cases z
        exact ⟨ha, (by rw [List.length_map]; exact hl), vs, _, rv, ha⟩
      · rw [upd_ne hb] at z
        cases z

/-- where a law's walk begins: its last def keeps its promise -/
theorem walkG {l : PySem.W.OpenLaw} {n k : Nat} {q : Program} {loose : List Str}
    {XP : (Str → Option Value) → Heap → Prop} {YP : World → Heap → Prop} {d : DefRec}
    {K : Params → PySem.W.Frag} {sp : PySem.W.Frag → Sp} {x : Str}
    (hn : l.most = some n) (hn2 : n ≤ sizeLine)
    (hdf : d.params.defaults = []) (hr : Room k callerA)
    (hY : ∀ (v : World) (h : Heap), YP v h → (K v.params).In h)
    (F : ∀ (w : World) (mg : Str → Option Value) (fa : Addr) (h : Heap), (K w.params).In h →
      h.Ns mainGlobals mg → mg d.name = some (.ref fa) →
      ∃ fd : FuncData, (∀ (s' : Shared) (u : Value), BindsTo s' fd ⟨[u], []⟩ [(x, u)]) ∧
        ∀ base : Heap, (K w.params).In base → base.Ns mainGlobals mg →
          FnG l.prog w (K w.params) mg base CX0 k fa fd [x] (sp (K w.params)))
    (hsp : ∀ (K : PySem.W.Frag) (H : Hp) (a : Addr) (ns : List Int), ns.length ≤ n →
      SqL K H a (ns.map V.int) → sp K [.ref a] H (fun v _ => v = .bl true) fun _ _ _ => False) :
    PySem.W.WalkO q loose XP YP l.row.toRowW d []
      (fun f vs => PySem.call f vs) := by
  refine Att.attach_call hn hdf ?_
  intro w s₀ s₁ mg mb fa o pm cd doc a vs ns G Y ho hd hcd hmg hobj hints hlen hg
  have KX := hY w _ Y
  obtain ⟨fd, hb, hF⟩ := F w mg fa _ KX (G.T.g) hmg
  exact callG KX G.T.g G.T.b G.T.builtins G.T.nolimit hg hobj hints (Nat.le_trans hlen hn2) hr hF hb
    fun H hS => hsp _ H a ns hlen hS

/-! heaps that change at one place alone -/
def Chg (a : Addr) (H H' : Hp) : Prop := ∀ b o, b ≠ a → H b = some o → H' b = some o
theorem Chg.rfl' {a : Addr} {H : Hp} : Chg a H H := fun _ _ _ h => h
theorem Chg.trans {a : Addr} {H H1 H2 : Hp} (x : Chg a H H1) (y : Chg a H1 H2) : Chg a H H2 :=
  fun b o n h => y b o n (x b o n h)
theorem Chg.of {a : Addr} {H H' : Hp} (s : Same H H') : Chg a H H' := fun b o _ h => s b o h
theorem Chg.seq {K : PySem.W.Frag} {a b : Addr} {H H' : Hp} {xs : List V} (c : Chg a H H') (n : b ≠ a)
    (h : SqL K H b xs) : SqL K H' b xs := by
  rcases h with (h | ⟨oo, h⟩) | h
  · exact .inl (.inl (c _ _ n h))
  · exact .inl (.inr ⟨oo, c _ _ n h⟩)
  · exact .inr h
theorem Same.put {H : Hp} {p : Addr} {o : HO} (h : H p = none) : Same H (upd H p o) := by
  intro b x e
  rw [upd_ne (ne_of_none e h)]
  exact e
theorem Same.tseq {K : PySem.W.Frag} {a : Addr} {H H' : Hp} {xs : List V} (e : Same H H')
    (h : SqT K H a xs) : SqT K H' a xs := by
  rcases h with (h | ⟨oo, h⟩) | h
  · exact .inl (.inl (e _ _ h))
  · exact .inl (.inr ⟨oo, e _ _ h⟩)
  · exact .inr h

/-! what a law draws from -/
def PotAt (H : Hp) (a : Addr) : Prop :=
  ∃ P R : Int, H a = some (.lst [.int P, .int R]) ∧ 0 ≤ P ∧ 0 ≤ R ∧ R < 2147483648
theorem Same.pot {H H' : Hp} {a : Addr} (s : Same H H') (p : PotAt H a) : PotAt H' a := by
  obtain ⟨P, R, h, r⟩ := p
  exact ⟨P, R, s _ _ h, r⟩
theorem PotAt.ne {H : Hp} {a p : Addr} (x : PotAt H a) (h : H p = none) : p ≠ a := by
  obtain ⟨P, R, e, _⟩ := x
  exact (ne_of_none e h).symm
def spPot (K : PySem.W.Frag) : Sp := fun vs H Q _ => ∃ (a : Addr) (ns : List Int) (k : Int),
  vs = [.ref a, .int k] ∧ SqL K H a (ns.map V.int) ∧ 0 ≤ k ∧ k ≤ 63 ∧
  ∀ H' p, Same H H' → H p = none → PotAt H' p → Q (.ref p) H'
def spDraw : Sp := fun vs H Q _ => ∃ (a : Addr) (m : Int), vs = [.ref a, .int m] ∧ PotAt H a ∧
  0 < m ∧ m < 1073741824 ∧
  ∀ H' d, Chg a H H' → PotAt H' a → 0 ≤ d → d < m → Q (.int d) H'
def spPick (K : PySem.W.Frag) : Sp := fun vs H Q _ => ∃ (a b : Addr) (xs : List V),
  vs = [.ref a, .ref b] ∧ PotAt H a ∧ b ≠ a ∧ SqL K H b xs ∧ xs ≠ [] ∧ xs.length ≤ 1000 ∧
  ∀ H' x, Chg a H H' → PotAt H' a → x ∈ xs → Q x H'
/-- a drawn line -/
def spLine : Sp := fun vs H Q _ => ∃ (a : Addr) (n : Nat) (w : Int),
  vs = [.ref a, .int n, .int w] ∧ PotAt H a ∧ n ≤ 60 ∧ 2 ≤ w ∧ w ≤ 1000000 ∧
  ∀ H' p (ns : List Int), Chg a H H' → PotAt H' a → H p = none → p ≠ a →
    H' p = some (.lst (ns.map V.int)) → ns.length = n + 1 →
    (∀ z ∈ ns, -w - 3 ≤ z ∧ z ≤ w + 3) → (∀ z, ns.getLast? = some z → z ≠ 0) → Q (.ref p) H'
def spLaw (K : PySem.W.Frag) : Sp := fun vs H Q _ => ∃ (a : Addr) (ns : List Int),
  vs = [.ref a] ∧ SqL K H a (ns.map V.int) ∧ ns.length ≤ 63 ∧ ∀ H', Q (.bl true) H'
end Kr
/-! Any value: its kind, whether it is a line. -/
namespace Kr
open PySem PySem.Spec
open PyProof.Rows L2

theorem ifF {c : Bool} {A B : Prop} (e : c = false) (h : B) : if c = true then A else B := by
  subst e; exact iteF h
theorem ifT {c : Bool} {A B : Prop} (e : c = true) (h : A) : if c = true then A else B := by
  subst e; exact iteT h

theorem yesT {σ : L2.St} {H : Hp} {A B : Hp → Prop} (h : A H) :
    tYes σ H (fun b H3 => if b = true then A H3 else B H3) := by
  show if true = true then A H else B H
  rw [if_pos rfl]; exact h

inductive Kd (H : Hp) : V → String → Prop where
  | non : Kd H .non "NoneType"
  | bl (b : Bool) : Kd H (.bl b) "bool"
  | int (i : Int) : Kd H (.int i) "int"
  | str (x : Str) : Kd H (.str x) "str"
  | lst {a : Addr} {xs : List V} : H a = some (.lst xs) → Kd H (.ref a) "list"
  | tup {a : Addr} {xs : List V} : H a = some (.tup xs) → Kd H (.ref a) "tuple"
  | dct {a : Addr} {kvs : List (Key × V)} : H a = some (.dK kvs) → Kd H (.ref a) "dict"
theorem Kd.same {H H' : Hp} {v : V} {k : String} (s : Same H H') (x : Kd H v k) : Kd H' v k := by
  cases x with
  | non => exact .non
  | bl b => exact .bl b
  | int i => exact .int i
  | str y => exact .str y
  | lst e => exact .lst (s _ _ e)
  | tup e => exact .tup (s _ _ e)
  | dct e => exact .dct (s _ _ e)
theorem Kd.ty {K : PySem.W.Frag} {H : Hp} {v : V} {k : String} (x : Kd H v k) : TyX K H v (.type k) := by
  cases x with
  | non => exact .base .non
  | bl b => exact .base (.bl b)
  | int i => exact .base (.int i)
  | str y => exact .base (.str y)
  | lst e => exact .base (.lst e)
  | tup e => exact .base (.tup e)
  | dct e => exact .base (.dK e)
def isI : V → Bool
  | .int _ => true
  | _ => false
theorem isI_int {v : V} (h : isI v = true) : ∃ i, v = .int i := by
  cases v with
  | int i => exact ⟨i, rfl⟩
  | _ => cases h
/-- a list or a tuple -/
def isLT (k : String) : Bool := k == "list" || k == "tuple"
theorem kit_int {K : PySem.W.Frag} {H : Hp} {v : V} {k : String} (x : Kd H v k) :
    PySem.W.kitOne K (.type k) (.type "int") = some (k == "int" || k == "bool") := by
  cases x <;> exact kit_ty (by decide +kernel)
theorem kit_bool {K : PySem.W.Frag} {H : Hp} {v : V} {k : String} (x : Kd H v k) :
    PySem.W.kitOne K (.type k) (.type "bool") = some (k == "bool") := by
  cases x <;> exact kit_ty (by decide +kernel)
theorem Kd.isI {H : Hp} {v : V} {k : String} (x : Kd H v k) : Kr.isI v = ((k == "int" || k == "bool") && !(k == "bool")) := by
  cases x <;> rfl
theorem kit_lt {K : PySem.W.Frag} {H : Hp} {v : V} {k : String} (x : Kd H v k) :
    PySem.W.kitAny K (.type k) [.type "list", .type "tuple"] = some (isLT k) := by
  cases x with
  | lst e => exact kitAny_cons (b := true) (kit_ty (by decide +kernel)) (fun z => nomatch z) fun _ => rfl
  | tup e => exact kitAny_cons (b := false) (kit_ty (by decide +kernel)) (fun _ => kitAny_cons (b := true) (kit_ty (by decide +kernel)) (fun z => nomatch z) fun _ => rfl) fun z => nomatch z
  | _ => exact kitAny_cons (b := false) (kit_ty (by decide +kernel)) (fun _ => kitAny_cons (b := false) (kit_ty (by decide +kernel)) (fun _ => kitAny_nil) fun z => nomatch z) fun z => nomatch z

/-- 0 to 13 INTEGERS, the last one not 0 -/
def lineB (xs : List V) : Bool :=
  decide (xs.length ≤ 13) && xs.all isI && (xs.isEmpty || !decide (xs.getLast? = some (.int 0)))
inductive Val (H : Hp) : V → Bool → Prop where
  | lst {a : Addr} {xs : List V} : H a = some (.lst xs) → (∀ x ∈ xs, ∃ k, Kd H x k) →
      xs.length ≤ 1000 → Val H (.ref a) (lineB xs)
  | tup {a : Addr} {xs : List V} : H a = some (.tup xs) → (∀ x ∈ xs, ∃ k, Kd H x k) →
      xs.length ≤ 1000 → Val H (.ref a) (lineB xs)
  | oth {v : V} {k : String} : Kd H v k → isLT k = false → Val H v false
theorem Val.same {H H' : Hp} {v : V} {b : Bool} (s : Same H H') (x : Val H v b) : Val H' v b := by
  cases x with
  | lst e h l => exact .lst (s _ _ e) (fun x m => (h x m).elim fun k z => ⟨k, z.same s⟩) l
  | tup e h l => exact .tup (s _ _ e) (fun x m => (h x m).elim fun k z => ⟨k, z.same s⟩) l
  | oth k e => exact .oth (k.same s) e
theorem Val.kd {H : Hp} {v : V} {b : Bool} (x : Val H v b) : ∃ k, Kd H v k := by
  cases x with
  | lst e _ _ => exact ⟨_, .lst e⟩
  | tup e _ _ => exact ⟨_, .tup e⟩
  | oth k _ => exact ⟨_, k⟩
def spIsInt : Sp := fun vs H Q _ => ∃ (v : V) (k : String), vs = [v] ∧ Kd H v k ∧ Q (.bl (isI v)) H
def spIsList : Sp := fun vs H Q _ => ∃ (v : V) (k : String), vs = [v] ∧ Kd H v k ∧
  ∀ H', Same H H' → Q (.bl (isLT k)) H'
def spNumber : Sp := fun vs H Q _ => ∃ i : Int, vs = [.int i] ∧ Q .non H
def spIsLine : Sp := fun vs H Q _ => ∃ (v : V) (b : Bool), vs = [v] ∧ Val H v b ∧
  ∀ H', Same H H' → Q (.bl b) H'
theorem take_snoc {α : Type} {xs : List α} {i : Nat} {x : α} (h : xs[i]? = some x) : xs.take (i + 1) = xs.take i ++ [x] := by
  rw [List.take_add_one, h]; rfl
theorem lineB_long {xs : List V} (h : ¬ xs.length ≤ 13) : lineB xs = false := by
  unfold lineB; rw [decide_eq_false h]; rfl
theorem lineB_odd {xs : List V} (h : xs.all isI = false) : lineB xs = false := by
  unfold lineB; rw [h, Bool.and_false, Bool.false_and]
theorem lineB_end {xs : List V} (l : xs.length ≤ 13) (h : xs.all isI = true) :
    lineB xs = (xs.isEmpty || !decide (xs.getLast? = some (.int 0))) := by
  unfold lineB; rw [h, decide_eq_true l]; rfl
/-- what an own list of truth values holds while it grows -/
theorem all_id (xs : List V) : (xs.map isI).all id = xs.all isI := by
  rw [List.all_map]; rfl
theorem last_at1 {xs : List V} (h : xs ≠ []) : ∃ v, atI xs (-1) = some v ∧ xs.getLast? = some v ∧ v ∈ xs := by
  refine ⟨xs.getLast h, ?_, List.getLast?_eq_getLast h, List.getLast_mem h⟩
  have e : xs = xs.dropLast ++ [xs.getLast h] := (List.dropLast_concat_getLast h).symm
  have z := atI_last xs.dropLast (xs.getLast h)
  rwa [← e] at z
/-- the last look of a line's test -/
theorem last_look {xs : List V} (l : xs.length ≤ 13) (hI : xs.all isI = true) (hne : xs ≠ []) :
    ∃ v, atI xs (-1) = some v ∧ scal v (.int 0) = true ∧ (!decide (v = .int 0)) = lineB xs := by
  obtain ⟨v, h1, h2, h3⟩ := last_at1 hne
  obtain ⟨i, rfl⟩ := isI_int (List.all_eq_true.mp hI v h3)
  refine ⟨_, h1, rfl, ?_⟩
  rw [lineB_end l hI, h2]
  have e : xs.isEmpty = false := by cases xs with | nil => exact absurd rfl hne | cons _ _ => rfl
  rw [e]
  simp
end Kr
/-! repr of any value. -/
namespace Kr
open PySem PySem.Spec
open PyProof.Rows L2

/-- ints, and dicts of nothing, in a row -/
inductive OddAll (H : Hp) : List V → List PyData → Prop where
  | nil : OddAll H [] []
  | int {vs : List V} {ds : List PyData} (i : Int) : i.natAbs.log2 < 1920 → OddAll H vs ds → OddAll H (.int i :: vs) (.int i :: ds)
  | dct {b : Addr} {vs : List V} {ds : List PyData} : H b = some (.dK []) → OddAll H vs ds →
      OddAll H (.ref b :: vs) (.dict [] :: ds)
theorem OddAll.same {H H' : Hp} (s : Same H H') : ∀ {vs : List V} {ds : List PyData}, OddAll H vs ds → OddAll H' vs ds
  | _, _, .nil => .nil
  | _, _, .int i z r => .int i z (r.same s)
  | _, _, .dct e r => .dct (s _ _ e) (r.same s)
theorem OddAll.showable {H : Hp} : ∀ {vs : List V} {ds : List PyData}, OddAll H vs ds → PyData.showableAll ds = true
  | _, _, .nil => by simp only [PyData.showableAll]
  | _, _, .int i z r => by simp [PyData.showableAll, PyData.showable, r.showable, z]
  | _, _, .dct e r => by simp [PyData.showableAll, PyData.showable, PyData.showableKv, r.showable]
theorem OddAll.depth {H : Hp} : ∀ {vs : List V} {ds : List PyData}, OddAll H vs ds → PyData.depthAll ds ≤ 1
  | _, _, .nil => by simp [PyData.depthAll]
  | _, _, .int i _ r => by
    have z := r.depth
    simp [PyData.depthAll, PyData.depth]; omega
  | _, _, .dct e r => by
    have z := r.depth
    simp [PyData.depthAll, PyData.depth, PyData.depthKv]; omega
section
variable {X : Cx} {pins : List (Addr × Obj)} {σ : L2.St}
  {H : Hp} {s : Shared}
theorem dict0_reads (I : Inv X pins σ H s) {b : Addr} (e : H b = some (.dK [])) :
    Reads s.heap (.ref b) (.dict []) [b] ∧ b ≠ sysModules := by
  obtain ⟨_, hs, vs, kv, o, es, ep, h1, h2, h3, _, hp, _⟩ : ObjOk X.prog X.w H s.heap b (.dK []) := I.hok b _ e
  cases kv
  cases hl : es.toList with
  | nil =>
    refine ⟨?_, by simpa using hs⟩
    have z := Reads.dict (h := s.heap) (kvs := []) h1 h2.1 h3 (as := []) (bs := []) (by rw [hl]; exact .nil) (by rw [hl]; exact .nil)
    simpa using z
  | cons x r =>
    rw [hl] at hp
    cases hp
theorem dict1_reads (I : Inv X pins σ H s) {b : Addr} {i j : Int} (e : H b = some (.dK [(.inl i, .int j)])) :
    Reads s.heap (.ref b) (.dict [(.int i, .int j)]) [b] ∧ b ≠ sysModules := by
  obtain ⟨_, hs, vs, kv, o, es, ep, h1, h2, h3, _, hp, _⟩ : ObjOk X.prog X.w H s.heap b (.dK [(.inl i, .int j)]) := I.hok b _ e
  match vs, kv with
  | [(qk, qv)], .cons k1 .nil =>
    obtain ⟨k2, tj, rfl⟩ : Sum.inl i = qk ∧ ∃ t, qv = Value.int j t := k1
    subst k2
    cases hl : es.toList with
    | nil => rw [hl] at hp; cases hp
    | cons x r =>
      rw [hl] at hp
      cases hp with
      | cons a1 a2 a3 =>
        cases a3
        refine ⟨?_, by simpa using hs⟩
        obtain ⟨hh, key, val⟩ := x
        obtain ⟨ti, rfl⟩ := Value.isInt_shape (k := i) (v := key) a1
        obtain rfl : val = Value.int j tj := a2
        have z := Reads.dict (h := s.heap) (kvs := [(.int i, .int j)]) h1 h2.1 h3 (as := [] ++ []) (bs := [] ++ []) (by rw [hl]; exact .cons (.int i ti) .nil) (by rw [hl]; exact .cons (.int j tj) .nil)
        simpa using z
theorem OddAll.reads (I : Inv X pins σ H s) : ∀ {vs : List V} {ds : List PyData} {us : List Value}, OddAll H vs ds → Vals vs us →
    ∃ as, ReadsAll s.heap us ds as ∧ sysModules ∉ as
  | _, _, _, .nil, .nil => ⟨[], .nil, by simp⟩
  | _, _, _, .int i _ r, .cons rv rr => by
    obtain ⟨t, rfl⟩ := rv
    obtain ⟨as, z, n⟩ := r.reads I rr
    exact ⟨[] ++ as, .cons (.int i t) z, by simpa using n⟩
  | _, _, _, .dct (b := b) e r, .cons rv rr => by
    obtain rfl := rv
    obtain ⟨as, z, n⟩ := r.reads I rr
    obtain ⟨z1, n1⟩ := dict0_reads I e
    exact ⟨[b] ++ as, .cons z1 z, by simp [n, Ne.symm n1]⟩
end
/-- a list's repr, its items told -/
theorem repr_items {prog : Program} {w : World} {h₀ : Heap} {a : Addr} {o : Obj} {l : List Value} {n : Nat} {ds : List PyData} {as : List Addr}
    {A : Around} {E : Value → Shared → Prop} {s : Shared} {Q : Value → Shared → Prop}
    (h1 : h₀.get? a = some o) (h2 : o.cls = .type "list") (h3 : o.data = .seq l.toArray n) (h4 : ReadsAll h₀ l ds as) (hl : l ≠ [])
    (hs : PyData.showableAll ds = true) (hsm : sysModules ∉ as) (hg : A.guards = some [])
    (hd : PyData.depthAll ds ≤ 40) (hu : A.units + 64 < cLine) (hk : ∀ b o, h₀.get? b = some o → s.heap.get? b = some o)
    (hQ : ∀ h' u tk, (∀ b o, s.heap.get? b = some o → h'.get? b = some o) →
      Q (.str (PyData.shown (.list ds)) u) { s with heap := h', toks := tk })
    (hz : (PyData.shown (.list ds)).length ≤ sizeLine) :
    wpAny (model prog w) A (call (.builtin "repr") [.ref a]) Q E s := by
  have hz' : (listText (PyData.shownAll ds)).length ≤ sizeLine := by simpa only [PyData.shown] using hz
  obtain ⟨bs, hb, kk⟩ := ReprAllK.of_readsAll (prog := prog) (w := w) h4 hs (fun _ => hsm)
    (fun t ht => Nat.le_trans (listText_mem_le ht) hz')
  have R : Reads h₀ (.ref a) (.list ds) (a :: as) := .list h1 h2 h3 h4
  have nb : a ∉ bs := not_mem_of_deeper R (by simp only [PyData.depth]; omega) hb
  refine call_repr_slot (by omega) ⟨o, hk _ _ h1, h2⟩ F.slot_list_repr.toG ?_
  match l, hl with
  | x :: l, _ =>
    refine call_list_reprK h1 h2 h3 nb (by simpa using kk.length_eq) (fun i y e => kk.item i y (by simpa using e)) hg
      (fun b _ => Clear.nil b) (by show A.units + 1 + (PyData.depthAll ds + 1) < cLine; omega) hk (fun h' u tk z => ⟨_, _, rfl, ?_⟩) hz'
    have y := hQ h' u tk z
    simp only [PyData.shown] at y
    exact y

/-- the text that repr tells of a value -/
inductive Sh (K : PySem.W.Frag) (H : Hp) : V → Str → Prop where
  | non : Sh K H .non "None"
  | bl (b : Bool) : Sh K H (.bl b) (if b = true then "True" else "False")
  | int (i : Int) : i.natAbs.log2 < 1920 → Sh K H (.int i) (toString i)
  | str (x : Str) : (reprText x).length ≤ sizeLine → Sh K H (.str x) (reprText x)
  | dat {a : Addr} {d : PyData} : Dp K H (.ref a) d → d.showable = true → d.hasDict = false → d.depth ≤ 60 →
      d.shown.length ≤ sizeLine → Sh K H (.ref a) d.shown
  | d0 {a : Addr} : H a = some (.dK []) → Sh K H (.ref a) (PyData.shown (.dict []))
  | d1 {a : Addr} (i j : Int) : H a = some (.dK [(.inl i, .int j)]) →
      i.natAbs.log2 < 1920 ∧ j.natAbs.log2 < 1920 → (PyData.shown (.dict [(.int i, .int j)])).length ≤ sizeLine →
      Sh K H (.ref a) (PyData.shown (.dict [(.int i, .int j)]))
  | odd {a : Addr} {xs : List V} {ds : List PyData} : H a = some (.lst xs) → xs ≠ [] → OddAll H xs ds →
      (PyData.shown (.list ds)).length ≤ sizeLine → Sh K H (.ref a) (PyData.shown (.list ds))
mutual
theorem dp_same {K : PySem.W.Frag} {H H' : Hp} (s : Same H H') : ∀ {d : PyData} {v : V}, Dp K H v d → Dp K H' v d
  | _, _, .non => .non
  | _, _, .bl b => .bl b
  | _, _, .int i => .int i
  | _, _, .str x => .str x
  | _, _, .lst h r => .lst (s.seq h) (dps_same s r)
  | _, _, .tup h r => .tup (Same.tseq s h) (dps_same s r)
theorem dps_same {K : PySem.W.Frag} {H H' : Hp} (s : Same H H') : ∀ {ds : List PyData} {vs : List V}, DpAll K H vs ds → DpAll K H' vs ds
  | _, _, .nil => .nil
  | _, _, .cons h r => .cons (dp_same s h) (dps_same s r)
end
theorem Sh.same {K : PySem.W.Frag} {H H' : Hp} {v : V} {t : Str} (s : Same H H') (x : Sh K H v t) : Sh K H' v t := by
  cases x with
  | non => exact .non
  | bl b => exact .bl b
  | int i h => exact .int i h
  | str y h => exact .str y h
  | dat h a b c e => exact .dat (dp_same s h) a b c e
  | d0 h => exact .d0 (s _ _ h)
  | d1 i j h y z => exact .d1 i j (s _ _ h) y z
  | odd h n r z => exact .odd (s _ _ h) n (r.same s) z
section
variable {X : Cx}
theorem call_shown (hG : Quiet X.A) (hu : X.A.units + 64 < cLine) :
    CallR X (.builtin "repr") (fun xs H Q => ∃ v t, xs = [v] ∧ Sh X.K H v t ∧ Q (.str t) H) := by
  intro pins s σ H zs us Q I r h
  obtain ⟨v, t, rfl, hv, q⟩ := h
  obtain ⟨u', rfl, rx⟩ := vals1 r
  have fin : ∀ h' u tk, (∀ b o, s.heap.get? b = some o → h'.get? b = some o) →
      EP X pins σ Q (.str t u) { s with heap := h', toks := tk } :=
    fun h' u tk kk => ⟨.str t, H, I.kept (fun b o e => kk b o e), ⟨u, rfl⟩, q⟩
  cases hv with
  | non => obtain rfl := rx; exact PySem.P.repr_of_none ⟨.str _, H, I.tok _, ⟨_, rfl⟩, q⟩
  | bl b => obtain rfl := rx; exact PySem.P.repr_of_bool ⟨.str _, H, I.tok _, ⟨_, rfl⟩, q⟩
  | int i h => obtain ⟨t, rfl⟩ := rx; exact PySem.P.repr_of_int h ⟨.str _, H, I.tok _, ⟨_, rfl⟩, q⟩
  | str x h => obtain ⟨t, rfl⟩ := rx; exact PySem.P.repr_of_str ⟨.str _, H, I.tok _, ⟨_, rfl⟩, q⟩ h
  | @dat a d hd hs hn h60 hz =>
    exact call_repr hG hu pins s σ H _ _ Q I (.cons rx .nil) ⟨a, d, rfl, hd, hs, hn, h60, hz, q⟩
  | @d0 a h =>
    obtain rfl := rx
    obtain ⟨R, n⟩ := dict0_reads I h
    refine repr_of_reads' R (by decide) (fun _ => by simpa using Ne.symm n) hG ?_ (fun _ _ e => e) fin (by decide +kernel)
    exact Nat.lt_of_le_of_lt (Nat.add_le_add_left (by decide) _) hu
  | @d1 a i j h y z =>
    obtain rfl := rx
    obtain ⟨R, n⟩ := dict1_reads I h
    refine repr_of_reads' R (by simp [PyData.showable, PyData.showableKv, y]) (fun _ => by simpa using Ne.symm n) hG ?_ (fun _ _ e => e) fin z
    refine Nat.lt_of_le_of_lt (Nat.add_le_add_left ?_ _) hu
    simp [PyData.depth, PyData.depthKv]
  | @odd a xs ds h nx ho z =>
    obtain rfl := rx
    obtain ⟨_, its, n, rv, e⟩ : ObjOk X.prog X.w H s.heap a (.lst xs) := I.hok a _ h
    obtain ⟨as, R, n⟩ := ho.reads I rv
    refine repr_items e rfl rfl R (fun z => ?_) ho.showable n hG (Nat.le_trans ho.depth (by decide)) hu (fun _ _ e => e) fin z
    subst z
    cases rv
    exact nx rfl
end
end Kr
/-! Values that are made in a row: each is looked at as a line, and shown. -/
namespace Kr
open PySem PySem.Spec
open PyProof.Rows L2

def Good (K : PySem.W.Frag) (H : Hp) (v : V) : Prop := ∃ b t, Val H v b ∧ Sh K H v t
theorem Good.same {K : PySem.W.Frag} {H H' : Hp} {v : V} (s : Same H H') : Good K H v → Good K H' v
  | ⟨b, t, x, y⟩ => ⟨b, t, x.same s, y.same s⟩
/-- such a value comes, whatever else has come -/
def GE (K : PySem.W.Frag) (te : TE) (σ : L2.St) (H : Hp) : Prop :=
  ∀ H1, Same H H1 → ∀ Q : VK, (∀ v H2, Same H1 H2 → Good K H2 v → Q v H2) → te σ H1 Q
def GA (K : PySem.W.Frag) (ta : TA) (n : Nat) (σ : L2.St) (H : Hp) : Prop :=
  ∀ H1, Same H H1 → ∀ Q : List V → Hp → Prop,
    (∀ vs H2, Same H1 H2 → vs.length = n → (∀ v ∈ vs, Good K H2 v) → Q vs H2) → ta σ H1 Q
theorem ga_nil {K : PySem.W.Frag} {σ : L2.St} {H : Hp} : GA K tNil 0 σ H :=
  fun H1 s Q q => q [] H1 (Same.refl _) rfl fun v h => nomatch h
theorem ga_cons {K : PySem.W.Frag} {σ : L2.St} {H : Hp} {te : TE} {ta : TA} {n : Nat} (h : GE K te σ H) (r : GA K ta n σ H) :
    GA K (tCons te ta) (n + 1) σ H := fun H1 s Q q =>
  h H1 s _ fun v H2 s2 gv => r H2 (s.trans s2) _ fun vs H3 s3 l gs => q (v :: vs) H3 (s2.trans s3) (by rw [List.length_cons, l]) fun y hy => by
    rcases List.mem_cons.mp hy with e | hy
    · rw [e]; exact gv.same s3
    · exact gs y hy
theorem GA.use {K : PySem.W.Frag} {σ : L2.St} {H : Hp} {ta : TA} {n : Nat} {Q : List V → Hp → Prop} (g : GA K ta n σ H)
    (q : ∀ vs H2, Same H H2 → vs.length = n → (∀ v ∈ vs, Good K H2 v) → Q vs H2) : ta σ H Q := g H (Same.refl _) Q q

theorem GA.lst {K : PySem.W.Frag} {σ : L2.St} {H : Hp} {ta : TA} {n : Nat} {Q : VK} (g : GA K ta n σ H) (hn : n ≤ 1000)
    (q : ∀ vs H2 r, Same H H2 → vs.length = n → (∀ v ∈ vs, Good K H2 v) → H2 r = none → Q (.ref r) (upd H2 r (.lst vs))) : tLst ta σ H Q :=
  g.use fun vs H2 s l gs => ⟨Nat.le_of_lt (small1000 (by omega)), fun r nr => q vs H2 r s l gs nr⟩

/-- an item that is small -/
def It (K : PySem.W.Frag) (H : Hp) (x : V) : Prop := ∃ d k, Dp K H x d ∧ Kd H x k ∧ d.showable = true ∧ d.hasDict = false ∧
  d.depth ≤ 5 ∧ d.leavesShort 13 = true ∧ d.bulk ≤ 100
theorem It.same {K : PySem.W.Frag} {H H' : Hp} {x : V} (s : Same H H') : It K H x → It K H' x
  | ⟨d, k, a, b, r⟩ => ⟨d, k, dp_same s a, b.same s, r⟩
theorem log2_small {n : Nat} (h : n ≤ 1000000000) : n.log2 < 1920 := by
  by_cases z : n = 0
  · subst z; decide
  · exact (Nat.log2_lt z).mpr (Nat.lt_of_le_of_lt h (Nat.lt_of_lt_of_le (show 1000000000 < 2 ^ 40 by decide) (Nat.pow_le_pow_right (by decide) (by decide))))
theorem it_int {K : PySem.W.Frag} {H : Hp} {z : Int} (h : z.natAbs ≤ 1000000000) : It K H (.int z) :=
  ⟨.int z, "int", .int z, .int z, by simpa [PyData.showable] using log2_small h, by simp [PyData.hasDict], by simp [PyData.depth],
    by simpa only [PyData.leavesShort, decide_eq_true_eq] using PyData.shown_int_le2 (by omega) (by omega), by simp [PyData.bulk]⟩
theorem it_bl {K : PySem.W.Frag} {H : Hp} (b : Bool) : It K H (.bl b) := ⟨.bool b, "bool", .bl b, .bl b, by cases b <;> decide, by cases b <;> decide, by cases b <;> decide, by cases b <;> decide, by cases b <;> decide⟩
theorem it_non {K : PySem.W.Frag} {H : Hp} : It K H .non := ⟨.none, "NoneType", .non, .non, by decide, by decide, by decide, by decide, by decide⟩
theorem it_str1 {K : PySem.W.Frag} {H : Hp} : It K H (.str "1") := ⟨.str "1", "str", .str _, .str _, by decide, by decide, by decide, by decide +kernel, by decide +kernel⟩
theorem it_lst0 {K : PySem.W.Frag} {H : Hp} {a : Addr} (e : H a = some (.lst [])) : It K H (.ref a) :=
  ⟨.list [], "list", .lst (SqL.of e) .nil, .lst e, by decide, by decide, by decide, by decide, by decide⟩
theorem it_lst1 {K : PySem.W.Frag} {H : Hp} {a : Addr} (e : H a = some (.lst [.int 1])) : It K H (.ref a) :=
  ⟨.list [.int 1], "list", .lst (SqL.of e) (.cons (.int 1) .nil), .lst e, by decide, by decide, by decide, by decide +kernel, by decide⟩
theorem it_tup0 {K : PySem.W.Frag} {H : Hp} {a : Addr} (e : H a = some (.tup [])) : It K H (.ref a) :=
  ⟨.tuple [], "tuple", .tup (SqT.of e) .nil, .tup e, by decide, by decide, by decide, by decide, by decide⟩
/-- .. all of them together -/
theorem its_all {K : PySem.W.Frag} {H : Hp} : ∀ {xs : List V}, (∀ x ∈ xs, It K H x) → ∃ ds, DpAll K H xs ds ∧ PyData.showableAll ds = true ∧
    PyData.hasDictAll ds = false ∧ PyData.depthAll ds ≤ 5 ∧ PyData.leavesShortAll 13 ds = true ∧ PyData.bulkAll ds ≤ 101 * xs.length
  | [], _ => ⟨[], .nil, by simp [PyData.showableAll], by simp [PyData.hasDictAll], by simp [PyData.depthAll], by simp [PyData.leavesShortAll], by simp [PyData.bulkAll]⟩
  | x :: xs, h => by
    obtain ⟨ds, h1, h2, h3, h4, h5, h6⟩ := its_all (xs := xs) fun y hy => h y (List.mem_cons_of_mem _ hy)
    obtain ⟨d, k, a1, _, a2, a3, a4, a5, a6⟩ := h x List.mem_cons_self
    refine ⟨d :: ds, .cons a1 h1, by simp [PyData.showableAll, a2, h2], by simp [PyData.hasDictAll, a3, h3], ?_, by simp [PyData.leavesShortAll, a5, h5], ?_⟩
    · simp only [PyData.depthAll]; omega
    · simp only [PyData.bulkAll, List.length_cons]; omega
theorem pow20 : (2 : Nat) ^ 20 = 1048576 := by decide
theorem good_lst {K : PySem.W.Frag} {H : Hp} {a : Addr} {xs : List V} (e : H a = some (.lst xs)) (h : ∀ x ∈ xs, It K H x)
    (l : xs.length ≤ 40) : Good K H (.ref a) := by
  obtain ⟨ds, h1, h2, h3, h4, h5, h6⟩ := its_all h
  refine ⟨_, _, .lst e (fun x hx => ?_) (by omega), .dat (d := .list ds) (.lst (SqL.of e) h1) (by simpa [PyData.showable] using h2) (by simpa [PyData.hasDict] using h3) (by simp only [PyData.depth]; omega) ?_⟩
  · obtain ⟨d, k, _, hk, _⟩ := h x hx
    exact ⟨k, hk⟩
  · exact PyData.shown_fits_bulk (B := 13) (by decide) (by decide) (by simpa [PyData.leavesShort] using h5) (by simp only [PyData.bulk]; rw [pow20]; omega)
theorem good_tup {K : PySem.W.Frag} {H : Hp} {a : Addr} {xs : List V} (e : H a = some (.tup xs)) (h : ∀ x ∈ xs, It K H x)
    (l : xs.length ≤ 40) : Good K H (.ref a) := by
  obtain ⟨ds, h1, h2, h3, h4, h5, h6⟩ := its_all h
  refine ⟨_, _, .tup e (fun x hx => ?_) (by omega), .dat (d := .tuple ds) (.tup (SqT.of e) h1) (by simpa [PyData.showable] using h2) (by simpa [PyData.hasDict] using h3) (by simp only [PyData.depth]; omega) ?_⟩
  · obtain ⟨d, k, _, hk, _⟩ := h x hx
    exact ⟨k, hk⟩
  · exact PyData.shown_fits_bulk (B := 13) (by decide) (by decide) (by simpa [PyData.leavesShort] using h5) (by simp only [PyData.bulk]; rw [pow20]; omega)
/-- a value of another kind, or small -/
def OddV (K : PySem.W.Frag) (H : Hp) (v : V) : Prop := It K H v ∨ ∃ b, v = .ref b ∧ H b = some (.dK [])
theorem OddV.same {K : PySem.W.Frag} {H H' : Hp} {x : V} (s : Same H H') : OddV K H x → OddV K H' x
  | .inl h => .inl (h.same s)
  | .inr ⟨b, e, h⟩ => .inr ⟨b, e, s _ _ h⟩
/-- small ints -/
def SI (x : V) : Prop := ∃ z : Int, x = .int z ∧ z.natAbs ≤ 1000000000
theorem SI.it {K : PySem.W.Frag} {H : Hp} {x : V} : SI x → It K H x
  | ⟨z, e, h⟩ => by rw [e]; exact it_int h
theorem shortInts : ∀ {H : Hp} {xs : List V} {b : Addr}, H b = some (.dK []) → ∀ ys : List V, (∀ x ∈ xs, SI x) → (∀ x ∈ ys, SI x) →
    ∃ ds, OddAll H (xs ++ [.ref b] ++ ys) ds ∧ PyData.leavesShortAll 13 ds = true ∧ PyData.bulkAll ds ≤ 101 * (xs.length + ys.length + 1) := by
  intro H xs b e ys hx hy
  have rowI : ∀ zs : List V, (∀ x ∈ zs, SI x) → ∀ {us : List V} {ds : List PyData}, OddAll H us ds → PyData.leavesShortAll 13 ds = true →
      ∃ es, OddAll H (zs ++ us) es ∧ PyData.leavesShortAll 13 es = true ∧ PyData.bulkAll es ≤ 101 * zs.length + PyData.bulkAll ds := by
    intro zs
    induction zs with
    | nil => exact fun _ us ds h l => ⟨ds, h, l, by simp⟩
    | cons z zs ih =>
      intro h us ds ho l
      obtain ⟨es, h1, h2, h3⟩ := ih (fun x hx => h x (List.mem_cons_of_mem _ hx)) ho l
      obtain ⟨i, rfl, hi⟩ := h z List.mem_cons_self
      refine ⟨.int i :: es, .int i (log2_small hi) h1, ?_, ?_⟩
      · have y : PyData.leavesShort 13 (.int i) = true := by simpa only [PyData.leavesShort, decide_eq_true_eq] using PyData.shown_int_le2 (by omega) (by omega)
        simp [PyData.leavesShortAll, y, h2]
      · simp only [PyData.bulkAll, PyData.bulk, List.length_cons]; omega
  obtain ⟨ds, h1, h2, h3⟩ := rowI ys hy (us := []) (ds := []) .nil (by simp [PyData.leavesShortAll])
  rw [List.append_nil] at h1
  have z : OddAll H (.ref b :: ys) (.dict [] :: ds) := .dct e h1
  obtain ⟨es, g1, g2, g3⟩ := rowI xs hx z (by simp [PyData.leavesShortAll, PyData.leavesShort, PyData.leavesShortKv, h2])
  refine ⟨es, by simpa using g1, g2, ?_⟩
  simp only [PyData.bulkAll, PyData.bulk, PyData.bulkKv] at g3 h3
  omega
theorem good_odd {K : PySem.W.Frag} {H : Hp} {a : Addr} {xs ys : List V} {v : V} (e : H a = some (.lst (xs ++ [v] ++ ys)))
    (hv : OddV K H v) (hx : ∀ x ∈ xs, SI x) (hy : ∀ x ∈ ys, SI x) (l : xs.length + ys.length ≤ 30) : Good K H (.ref a) := by
  rcases hv with hv | ⟨b, rfl, hb⟩
  · refine good_lst e (fun x hm => ?_) (by simp; omega)
    simp only [List.mem_append, List.mem_cons, List.not_mem_nil, or_false] at hm
    rcases hm with (hm | hm) | hm
    · exact (hx x hm).it
    · rw [hm]; exact hv
    · exact (hy x hm).it
  · obtain ⟨ds, h1, h2, h3⟩ := shortInts hb ys hx hy
    refine ⟨_, _, .lst e (fun x hm => ?_) (by simp; omega), .odd e (by simp) h1 ?_⟩
    · simp only [List.mem_append, List.mem_cons, List.not_mem_nil, or_false] at hm
      rcases hm with (hm | hm) | hm
      · obtain ⟨z, rfl, _⟩ := hx x hm; exact ⟨_, .int z⟩
      · rw [hm]; exact ⟨_, .dct hb⟩
      · obtain ⟨z, rfl, _⟩ := hy x hm; exact ⟨_, .int z⟩
    · exact PyData.shown_fits_bulk (B := 13) (by decide) (by decide) (by simpa [PyData.leavesShort] using h2) (by simp only [PyData.bulk]; rw [pow20]; omega)
theorem cut_mem {xs : List V} {lo hi : Option Int} {x : V} (h : x ∈ cutV xs lo hi) : x ∈ xs :=
  List.mem_of_mem_drop (List.mem_of_mem_take h)
theorem cut_si {xs : List V} {lo hi : Option Int} (h : ∀ x ∈ xs, SI x) : ∀ x ∈ cutV xs lo hi, SI x := fun x hx => h x (cut_mem hx)
theorem rep_si {xs : List V} {n : Nat} (h : ∀ x ∈ xs, SI x) : ∀ x ∈ (List.replicate n xs).flatten, SI x := fun x hx => by
  obtain ⟨l, h1, h2⟩ := List.mem_flatten.mp hx
  rw [List.eq_of_mem_replicate h1] at h2
  exact h x h2
theorem si_one (z : Int) (h : z.natAbs ≤ 1000000000) : ∀ x ∈ [V.int z], SI x := fun x hx => by
  have e : x = .int z := by simpa using hx
  exact ⟨z, e, h⟩
theorem si_app {xs ys : List V} (h1 : ∀ x ∈ xs, SI x) (h2 : ∀ x ∈ ys, SI x) : ∀ x ∈ xs ++ ys, SI x := fun x hx =>
  (List.mem_append.mp hx).elim (h1 x) (h2 x)
theorem si_map {ns : List Int} (h : ∀ z ∈ ns, z.natAbs ≤ 1000000000) : ∀ x ∈ ns.map V.int, SI x := fun x hx => by
  obtain ⟨z, hz, rfl⟩ := List.mem_map.mp hx
  exact ⟨z, rfl, h z hz⟩
theorem good_si {K : PySem.W.Frag} {H : Hp} {a : Addr} {xs : List V} (e : H a = some (.lst xs)) (h : ∀ x ∈ xs, SI x)
    (l : xs.length ≤ 40) : Good K H (.ref a) := good_lst e (fun x hx => (h x hx).it) l
theorem good_sc {K : PySem.W.Frag} {H : Hp} {v : V} {k : String} {t : Str} (hk : Kd H v k) (e : isLT k = false) (h : Sh K H v t) : Good K H v :=
  ⟨false, t, .oth hk e, h⟩
end Kr
/-! Polynomials as lists of ints, their numbers as functions. -/
namespace Kr
abbrev Fn := Nat → Int
def co (p : List Int) : Fn := fun i => p.getD i 0
/-- no nought at the end -/
def Cn (p : List Int) : Prop := ∀ z, p.getLast? = some z → z ≠ 0
theorem co_nil : co [] = fun _ => 0 := by funext i; simp [co]
theorem co_big {p : List Int} {i : Nat} (h : p.length ≤ i) : co p i = 0 := by simp [co, List.getD, List.getElem?_eq_none h]
theorem co_at {p : List Int} {i : Nat} (h : i < p.length) : co p i = p[i] := by simp [co, List.getD, h]
theorem co_0 (a : Int) (p : List Int) : co (a :: p) 0 = a := by simp [co]
theorem co_s (a : Int) (p : List Int) (i : Nat) : co (a :: p) (i + 1) = co p i := by simp [co]
theorem cn_last {p : List Int} (c : Cn p) (h : p ≠ []) : co p (p.length - 1) ≠ 0 := by
  have l : 0 < p.length := List.length_pos_iff.mpr h
  rw [co_at (by omega)]
  refine c _ ?_
  rw [List.getLast?_eq_some_getLast h, List.getLast_eq_getElem]
theorem co_ext {p q : List Int} (cp : Cn p) (cq : Cn q) (h : ∀ i, co p i = co q i) : p = q := by
  have key : ∀ {p q : List Int}, Cn q → (∀ i, co p i = co q i) → ¬ p.length < q.length := by
    intro p q cq h l
    have hq : q ≠ [] := by intro e; rw [e] at l; exact absurd l (Nat.not_lt_zero _)
    have := cn_last cq hq
    rw [← h, co_big (by omega)] at this
    exact this rfl
  have l1 := key cq h
  have l2 := key cp fun i => (h i).symm
  refine List.ext_getElem (by omega) fun i h1 h2 => ?_
  have := h i
  rwa [co_at h1, co_at h2] at this
theorem cn_nil : Cn [] := fun z h => nomatch h
theorem cn_of {p : List Int} (h : p ≠ [] → co p (p.length - 1) ≠ 0) : Cn p := fun z hz => by
  have hp : p ≠ [] := by intro e; rw [e] at hz; cases hz
  have l : 0 < p.length := List.length_pos_iff.mpr hp
  have := h hp
  rw [co_at (by omega)] at this
  rw [List.getLast?_eq_some_getLast hp, List.getLast_eq_getElem] at hz
  exact Option.some.inj hz ▸ this

/-! sums -/
def trim : List Int → List Int
  | [] => []
  | a :: p => if trim p = [] ∧ a = 0 then [] else a :: trim p
theorem co_trim : ∀ (p : List Int) (i : Nat), co (trim p) i = co p i
  | [], i => rfl
  | a :: p, i => by
    have ih := co_trim p
    unfold trim
    split
    · rename_i h
      cases i with
      | zero => rw [co_0, h.2]; simp [co]
      | succ i => rw [co_s, ← ih, h.1]; simp [co]
    · cases i with
      | zero => rw [co_0, co_0]
      | succ i => rw [co_s, co_s, ih]
theorem cn_trim : ∀ p : List Int, Cn (trim p)
  | [] => cn_nil
  | a :: p => by
    have ih := cn_trim p
    unfold trim
    split
    · exact cn_nil
    · rename_i h
      intro z hz
      by_cases e : trim p = []
      · rw [e] at hz
        have : a = z := by simpa using hz
        intro z0
        exact h ⟨e, by omega⟩
      · rw [List.getLast?_cons, List.getLast?_eq_some_getLast e] at hz
        refine ih z ?_
        rw [List.getLast?_eq_some_getLast e]
        simpa using hz
theorem trim_length : ∀ p : List Int, (trim p).length ≤ p.length
  | [] => Nat.le_refl _
  | a :: p => by
    have ih := trim_length p
    unfold trim
    split
    · exact Nat.zero_le _
    · simp only [List.length_cons]; omega
theorem trim_cn {p : List Int} (c : Cn p) : trim p = p := co_ext (cn_trim p) c fun i => co_trim p i
theorem trim_ext {p q : List Int} (h : ∀ i, co p i = co q i) : trim p = trim q :=
  co_ext (cn_trim p) (cn_trim q) fun i => by rw [co_trim, co_trim, h]
theorem trim_mem : ∀ {p : List Int} {z : Int}, z ∈ trim p → z ∈ p
  | a :: p, z, h => by
    unfold trim at h
    split at h
    · cases h
    · rcases List.mem_cons.mp h with e | e
      · rw [e]; exact List.mem_cons_self
      · exact List.mem_cons_of_mem _ (trim_mem e)
def addF : List Int → List Int → List Int
  | [], q => q
  | a :: p, [] => a :: p
  | a :: p, b :: q => (a + b) :: addF p q
theorem co_add : ∀ (p q : List Int) (i : Nat), co (addF p q) i = co p i + co q i
  | [], q, i => by simp [addF, co]
  | a :: p, [], i => by simp [addF, co]
  | a :: p, b :: q, 0 => by simp [addF, co]
  | a :: p, b :: q, i + 1 => by simp only [addF, co_s]; exact co_add p q i
theorem addF_length : ∀ (p q : List Int), (addF p q).length = max p.length q.length
  | [], q => by simp [addF]
  | a :: p, [] => by simp [addF]
  | a :: p, b :: q => by simp only [addF, List.length_cons, addF_length p q]; omega
theorem addF_comm : ∀ (p q : List Int), addF p q = addF q p
  | [], [] => rfl
  | [], b :: q => rfl
  | a :: p, [] => rfl
  | a :: p, b :: q => by simp only [addF, addF_comm p q, Int.add_comm]
/-- as the program does it: the longer one ahead -/
theorem addF_zip : ∀ (p q : List Int), q.length ≤ p.length → addF p q = (List.zipWith (· + ·) p q) ++ p.drop q.length
  | [], [], _ => rfl
  | a :: p, [], _ => rfl
  | a :: p, b :: q, h => by
    simp only [addF, List.zipWith_cons_cons, List.length_cons, List.drop_succ_cons, List.cons_append]
    rw [addF_zip p q (by simpa using h)]
def sclF (c : Int) (p : List Int) : List Int := p.map (c * ·)
theorem co_scl (c : Int) : ∀ (p : List Int) (i : Nat), co (sclF c p) i = c * co p i
  | [], i => by simp [sclF, co]
  | a :: p, 0 => by simp [sclF, co]
  | a :: p, i + 1 => by
    show co (c * a :: sclF c p) (i + 1) = _
    rw [co_s, co_s, co_scl c p i]
theorem cn_scl {c : Int} {p : List Int} (hc : c ≠ 0) (h : Cn p) : Cn (sclF c p) := cn_of fun hp => by
  have e : (sclF c p).length = p.length := by simp [sclF]
  have hp2 : p ≠ [] := by intro z; rw [z] at hp; exact hp rfl
  rw [co_scl, e]
  exact Int.mul_ne_zero hc (cn_last h hp2)

/-! products -/
def cv : Fn → Fn → Fn
  | f, g, 0 => f 0 * g 0
  | f, g, i + 1 => f 0 * g (i + 1) + cv (fun n => f (n + 1)) g i
theorem cv_add_l : ∀ (i : Nat) (f f' g : Fn), cv (fun n => f n + f' n) g i = cv f g i + cv f' g i
  | 0, f, f', g => by simp only [cv]; grind
  | i + 1, f, f', g => by
    simp only [cv]
    have := cv_add_l i (fun n => f (n + 1)) (fun n => f' (n + 1)) g
    rw [this]; grind
theorem cv_scl_l (c : Int) : ∀ (i : Nat) (f g : Fn), cv (fun n => c * f n) g i = c * cv f g i
  | 0, f, g => by simp only [cv]; grind
  | i + 1, f, g => by
    simp only [cv]
    have := cv_scl_l c i (fun n => f (n + 1)) g
    rw [this]; grind
theorem cv_add_r : ∀ (i : Nat) (f g g' : Fn), cv f (fun n => g n + g' n) i = cv f g i + cv f g' i
  | 0, f, g, g' => by simp only [cv]; grind
  | i + 1, f, g, g' => by
    simp only [cv]
    rw [cv_add_r i (fun n => f (n + 1)) g g']; grind
theorem cv_right : ∀ (i : Nat) (f g : Fn), cv f g (i + 1) = f (i + 1) * g 0 + cv f (fun n => g (n + 1)) i
  | 0, f, g => by simp only [cv]; grind
  | i + 1, f, g => by
    have := cv_right i (fun n => f (n + 1)) g
    rw [cv, this]
    simp only [cv]; grind
theorem cv_comm : ∀ (i : Nat) (f g : Fn), cv f g i = cv g f i
  | 0, f, g => by simp only [cv]; grind
  | i + 1, f, g => by
    rw [cv_right i g f, cv, cv_comm i (fun n => f (n + 1)) g]; grind
theorem cv_assoc : ∀ (i : Nat) (f g h : Fn), cv (cv f g) h i = cv f (cv g h) i
  | 0, f, g, h => by simp only [cv]; grind
  | i + 1, f, g, h => by
    have e : (fun n => cv f g (n + 1)) = fun n => f 0 * g (n + 1) + cv (fun n => f (n + 1)) g n := by funext n; rfl
    have ih := cv_assoc i (fun n => f (n + 1)) g h
    rw [cv, e, cv_add_l i (fun n => f 0 * g (n + 1)) (cv (fun n => f (n + 1)) g) h, cv_scl_l (f 0) i (fun n => g (n + 1)) h, ih]
    simp only [cv]; grind
theorem cv_zero : ∀ (i : Nat) (g : Fn), cv (fun _ => 0) g i = 0
  | 0, g => by simp [cv]
  | i + 1, g => by simp [cv, cv_zero i g]
def dv (f : Fn) : Fn := fun i => ((i : Int) + 1) * f (i + 1)
theorem cv_slope : ∀ (i : Nat) (f g : Fn), dv (cv f g) i = cv (dv f) g i + cv f (dv g) i
  | 0, f, g => by simp only [dv, cv]; grind
  | i + 1, f, g => by
    have ih := cv_slope i (fun n => f (n + 1)) g
    have e : (fun n => dv f (n + 1)) = fun n => dv (fun n => f (n + 1)) n + f (n + 2) := by
      funext n
      show (((n + 1 : Nat) : Int) + 1) * f (n + 2) = ((n : Int) + 1) * f (n + 2) + f (n + 2)
      grind
    have a1 : cv (dv f) g (i + 1) = dv f 0 * g (i + 1) + cv (fun n => dv f (n + 1)) g i := rfl
    have a2 : cv f (dv g) (i + 1) = f 0 * dv g (i + 1) + cv (fun n => f (n + 1)) (dv g) i := rfl
    rw [a1, a2, e, cv_add_l i (dv fun n => f (n + 1)) (fun n => f (n + 2)) g]
    have a3 : cv (fun n => f (n + 1)) g (i + 1) = f 1 * g (i + 1) + cv (fun n => f (n + 2)) g i := rfl
    have a4 : dv (cv f g) (i + 1) = (((i + 1 : Nat) : Int) + 1) * (f 0 * g (i + 2) + cv (fun n => f (n + 1)) g (i + 1)) := rfl
    have a5 : dv (cv (fun n => f (n + 1)) g) i = ((i : Int) + 1) * cv (fun n => f (n + 1)) g (i + 1) := rfl
    have a6 : dv f 0 = f 1 := by simp [dv]
    have a7 : dv g (i + 1) = (((i + 1 : Nat) : Int) + 1) * g (i + 2) := rfl
    rw [a5] at ih
    rw [a4, a6, a7]
    grind
theorem cv_vanish : ∀ (a b : Nat) (f g : Fn), (∀ k, a < k → f k = 0) → (∀ k, b < k → g k = 0) →
    cv f g (a + b) = f a * g b ∧ ∀ k, a + b < k → cv f g k = 0
  | 0, b, f, g, hf, hg => by
    have z : (fun n => f (n + 1)) = fun _ => 0 := by funext n; exact hf _ (Nat.succ_pos n)
    have all : ∀ k, cv f g k = f 0 * g k := by
      intro k
      cases k with
      | zero => rfl
      | succ k => rw [cv, z, cv_zero, Int.add_zero]
    exact ⟨by rw [Nat.zero_add, all], fun k hk => by rw [all, hg k (by omega), Int.mul_zero]⟩
  | a + 1, b, f, g, hf, hg => by
    obtain ⟨h1, h2⟩ := cv_vanish a b (fun n => f (n + 1)) g (fun k hk => hf _ (by omega)) hg
    refine ⟨?_, fun k hk => ?_⟩
    · rw [show a + 1 + b = (a + b) + 1 by omega, cv, h1, hg _ (by omega), Int.mul_zero, Int.zero_add]
    · obtain ⟨k, rfl⟩ : ∃ j, k = j + 1 := ⟨k - 1, by omega⟩
      rw [cv, h2 k (by omega), hg _ (by omega)]; simp
/-- the product of two lists, as the program lays it -/
def mulF (p q : List Int) : List Int := if p = [] ∨ q = [] then [] else (List.range (p.length + q.length - 1)).map (cv (co p) (co q))
theorem co_van (p : List Int) : ∀ k, p.length - 1 < k → co p k = 0 := fun k h => co_big (by omega)
theorem co_tab (f : Fn) (n : Nat) (h : ∀ k, n ≤ k → f k = 0) : co ((List.range n).map f) = f := by
  funext i
  by_cases l : i < n
  · rw [co_at (by simpa using l)]; simp
  · rw [co_big (by simp; omega), h i (by omega)]
theorem co_mul (p q : List Int) : co (mulF p q) = cv (co p) (co q) := by
  unfold mulF
  split
  · rename_i h
    funext i
    rcases h with h | h
    · rw [h, co_nil, cv_zero]
    · rw [h, cv_comm, co_nil, cv_zero]
  · rename_i h
    have hp : 0 < p.length := List.length_pos_iff.mpr fun e => h (.inl e)
    have hq : 0 < q.length := List.length_pos_iff.mpr fun e => h (.inr e)
    exact co_tab _ _ fun k hk => (cv_vanish _ _ _ _ (co_van p) (co_van q)).2 k (by omega)
theorem mulF_length {p q : List Int} (hp : p ≠ []) (hq : q ≠ []) : (mulF p q).length = p.length + q.length - 1 := by
  unfold mulF
  rw [if_neg (fun h => h.elim hp hq)]; simp
theorem mulF_le (p q : List Int) : (mulF p q).length ≤ p.length + q.length - 1 := by
  unfold mulF
  split <;> simp
theorem cn_mul {p q : List Int} (cp : Cn p) (cq : Cn q) : Cn (mulF p q) := cn_of fun h => by
  have hp : p ≠ [] := by intro e; rw [e] at h; exact h rfl
  have hq : q ≠ [] := by intro e; rw [e] at h; unfold mulF at h; exact h (by simp)
  have lp : 0 < p.length := List.length_pos_iff.mpr hp
  have lq : 0 < q.length := List.length_pos_iff.mpr hq
  rw [mulF_length hp hq, co_mul, show p.length + q.length - 1 - 1 = (p.length - 1) + (q.length - 1) by omega,
    (cv_vanish _ _ _ _ (co_van p) (co_van q)).1]
  exact Int.mul_ne_zero (cn_last cp hp) (cn_last cq hq)
theorem mulF_comm {p q : List Int} (cp : Cn p) (cq : Cn q) : mulF p q = mulF q p :=
  co_ext (cn_mul cp cq) (cn_mul cq cp) fun i => by rw [co_mul, co_mul, cv_comm]
theorem mulF_assoc {p q r : List Int} (cp : Cn p) (cq : Cn q) (cr : Cn r) : mulF (mulF p q) r = mulF p (mulF q r) :=
  co_ext (cn_mul (cn_mul cp cq) cr) (cn_mul cp (cn_mul cq cr)) fun i => by rw [co_mul, co_mul, co_mul, co_mul, cv_assoc]
theorem mulF_distrib {p q r : List Int} (cp : Cn p) (cq : Cn q) (cr : Cn r) : mulF p (trim (addF q r)) = trim (addF (mulF p q) (mulF p r)) :=
  co_ext (cn_mul cp (cn_trim _)) (cn_trim _) fun i => by
    have e : co (trim (addF q r)) = fun n => co q n + co r n := by funext n; rw [co_trim, co_add]
    rw [co_mul, e, cv_add_r, co_trim, co_add, co_mul, co_mul]
theorem mul_one_num {p : List Int} (c : Int) : mulF p [c] = if p = [] then [] else sclF c p := by
  by_cases h : p = []
  · simp [mulF, h]
  rw [if_neg h]
  have lp : 0 < p.length := List.length_pos_iff.mpr h
  refine List.ext_getElem (by rw [mulF_length h (by simp)]; simp [sclF]) fun i h1 h2 => ?_
  rw [← co_at h1, ← co_at h2, co_mul, co_scl, cv_comm]
  cases i with
  | zero => simp [cv, co]
  | succ i =>
    have z : (fun n => co [c] (n + 1)) = fun _ => 0 := by funext n; simp [co]
    rw [cv, z, cv_zero]; simp [co]

/-! slopes -/
def slF (p : List Int) : List Int := (List.range (p.length - 1)).map (dv (co p))
theorem co_sl (p : List Int) : co (slF p) = dv (co p) := co_tab _ _ fun k h => by
  show ((k : Int) + 1) * co p (k + 1) = 0
  rw [co_big (by omega), Int.mul_zero]
theorem slF_length (p : List Int) : (slF p).length = p.length - 1 := by simp [slF]
theorem cn_sl {p : List Int} (h : Cn p) : Cn (slF p) := cn_of fun hs => by
  have l : 0 < (slF p).length := List.length_pos_iff.mpr hs
  rw [slF_length] at l
  have hp : p ≠ [] := by intro e; rw [e] at l; exact absurd l (by simp)
  rw [slF_length, co_sl]
  show (((p.length - 1 - 1 : Nat) : Int) + 1) * co p (p.length - 1 - 1 + 1) ≠ 0
  rw [show p.length - 1 - 1 + 1 = p.length - 1 by omega]
  exact Int.mul_ne_zero (by omega) (cn_last h hp)
theorem sl_mul {p q : List Int} (cp : Cn p) (cq : Cn q) : slF (mulF p q) = trim (addF (mulF (slF p) q) (mulF p (slF q))) :=
  co_ext (cn_sl (cn_mul cp cq)) (cn_trim _) fun i => by
    rw [co_sl, co_mul, cv_slope, co_trim, co_add, co_mul, co_mul, co_sl, co_sl]

/-! values -/
def ev (x : Int) : List Int → Int
  | [] => 0
  | a :: p => a + x * ev x p
theorem ev_add (x : Int) : ∀ p q : List Int, ev x (addF p q) = ev x p + ev x q
  | [], q => by simp [addF, ev]
  | a :: p, [] => by simp [addF, ev]
  | a :: p, b :: q => by simp only [addF, ev, ev_add x p q]; grind
theorem ev_scl (x c : Int) : ∀ p : List Int, ev x (sclF c p) = c * ev x p
  | [] => by simp [sclF, ev]
  | a :: p => by
    have ih := ev_scl x c p
    show ev x (c * a :: sclF c p) = _
    simp only [ev, ih]; grind
theorem ev_zero (x : Int) : ∀ p : List Int, (∀ i, co p i = 0) → ev x p = 0
  | [], _ => rfl
  | a :: p, h => by
    have h0 := h 0
    rw [co_0] at h0
    simp only [ev, h0, ev_zero x p fun i => by have := h (i + 1); rwa [co_s] at this]
    grind
theorem ev_ext (x : Int) : ∀ p q : List Int, (∀ i, co p i = co q i) → ev x p = ev x q
  | [], q, h => by rw [ev_zero x q fun i => by rw [← h]; simp [co]]; rfl
  | a :: p, [], h => by rw [ev_zero x (a :: p) fun i => by rw [h]; simp [co]]; rfl
  | a :: p, b :: q, h => by
    have h0 := h 0
    rw [co_0, co_0] at h0
    simp only [ev, h0, ev_ext x p q fun i => by have := h (i + 1); rwa [co_s, co_s] at this]
theorem ev_trim (x : Int) (p : List Int) : ev x (trim p) = ev x p := ev_ext x _ _ (co_trim p)
theorem ev_mul (x : Int) : ∀ p q : List Int, ev x (mulF p q) = ev x p * ev x q
  | [], q => by simp [mulF, ev]
  | a :: p, q => by
    have ih := ev_mul x p q
    have e : ev x (mulF (a :: p) q) = ev x (addF (sclF a q) (0 :: mulF p q)) := ev_ext x _ _ fun i => by
      rw [co_mul, co_add, co_scl]
      cases i with
      | zero => rw [co_0, cv, co_0, Int.add_zero]
      | succ i =>
        have z : (fun n => co (a :: p) (n + 1)) = co p := by funext n; exact co_s a p n
        rw [co_s, cv, z, co_0, co_mul]
    rw [e, ev_add, ev_scl]
    simp only [ev, ih]; grind
/-- from behind, as the program reckons it -/
theorem ev_back (x : Int) (p : List Int) : p.reverse.foldl (fun v n => v * x + n) 0 = ev x p := by
  rw [List.foldl_reverse]
  induction p with
  | nil => rfl
  | cons a p ih => simp only [List.foldr_cons, ev, ih]; grind

/-! plain ones -/
def cnt (p : List Int) : Nat := p.foldr (fun z g => Nat.gcd z.natAbs g) 0
theorem cnt_dvd : ∀ {p : List Int} {z : Int}, z ∈ p → (cnt p : Int) ∣ z
  | a :: p, z, h => by
    rcases List.mem_cons.mp h with e | e
    · rw [e]; exact Int.dvd_natAbs.mp (Int.natCast_dvd_natCast.mpr (Nat.gcd_dvd_left _ _))
    · exact Int.dvd_trans (Int.natCast_dvd_natCast.mpr (Nat.gcd_dvd_right _ _)) (cnt_dvd e)
theorem cnt_scl (c : Int) : ∀ p : List Int, cnt (sclF c p) = c.natAbs * cnt p
  | [] => by simp [sclF, cnt]
  | a :: p => by
    have ih := cnt_scl c p
    show Nat.gcd (c * a).natAbs (cnt (sclF c p)) = c.natAbs * Nat.gcd a.natAbs (cnt p)
    rw [ih, Int.natAbs_mul, Nat.gcd_mul_left]
theorem cnt_zero : ∀ {p : List Int}, cnt p = 0 → ∀ z ∈ p, z = 0
  | a :: p, h, z, hz => by
    have h' : Nat.gcd a.natAbs (cnt p) = 0 := h
    obtain ⟨h1, h2⟩ := Nat.gcd_eq_zero_iff.mp h'
    rcases List.mem_cons.mp hz with e | e
    · rw [e]; omega
    · exact cnt_zero h2 z e
theorem cnt_pos {p : List Int} (c : Cn p) (h : p ≠ []) : 0 < cnt p := by
  apply Nat.pos_of_ne_zero
  intro e
  have l : 0 < p.length := List.length_pos_iff.mpr h
  have := cn_last c h
  rw [co_at (by omega)] at this
  exact this (cnt_zero e _ (List.getElem_mem _))
theorem cnt_le : ∀ {p : List Int} {z : Int}, z ∈ p → z ≠ 0 → cnt p ≤ z.natAbs := fun h h0 =>
  Nat.le_of_dvd (by omega) (Int.natCast_dvd_natCast.mp (Int.dvd_natAbs.mpr (cnt_dvd h)))
/-- by what a plain one is divided -/
def sgc (p : List Int) : Int := if co p (p.length - 1) < 0 then -(cnt p : Int) else cnt p
def plF (p : List Int) : List Int := p.map fun z => z.fdiv (sgc p)
theorem sgc_abs (p : List Int) : (sgc p).natAbs = cnt p := by unfold sgc; split <;> omega
theorem sgc_dvd {p : List Int} {z : Int} (h : z ∈ p) : sgc p ∣ z := by
  have := cnt_dvd h
  unfold sgc
  split
  · exact Int.neg_dvd.mpr this
  · exact this
theorem sgc_ne {p : List Int} (c : Cn p) (h : p ≠ []) : sgc p ≠ 0 := by
  have := cnt_pos c h
  have := sgc_abs p
  omega
theorem pl_scl {p : List Int} (c : Cn p) : sclF (sgc p) (plF p) = p := by
  by_cases h : p = []
  · rw [h]; rfl
  unfold sclF plF
  rw [List.map_map]
  refine (List.map_congr_left fun z hz => ?_).trans (List.map_id p)
  show sgc p * z.fdiv (sgc p) = z
  have := sgc_dvd hz
  obtain ⟨k, hk⟩ := this
  rw [hk, Int.mul_fdiv_cancel_left k (sgc_ne c h)]
theorem plF_length (p : List Int) : (plF p).length = p.length := by simp [plF]
theorem scl_inj {c : Int} (hc : c ≠ 0) {p q : List Int} (h : sclF c p = sclF c q) : p = q := by
  have l : p.length = q.length := by have := congrArg List.length h; simpa [sclF] using this
  refine List.ext_getElem l fun i h1 h2 => ?_
  have e : co (sclF c p) i = co (sclF c q) i := by rw [h]
  rw [co_scl, co_scl, co_at h1, co_at h2] at e
  exact Int.eq_of_mul_eq_mul_left hc e
theorem cn_pl {p : List Int} (c : Cn p) : Cn (plF p) := cn_of fun h0 e => by
  have hp : p ≠ [] := by intro z; rw [z] at h0; exact h0 rfl
  have l : 0 < p.length := List.length_pos_iff.mpr hp
  refine cn_last c hp ?_
  have z : co (sclF (sgc p) (plF p)) (p.length - 1) = co p (p.length - 1) := by rw [pl_scl c]
  rw [← z, co_scl, ← plF_length p, e, Int.mul_zero]
theorem pl_cnt {p : List Int} (c : Cn p) (h : p ≠ []) : cnt (plF p) = 1 := by
  have e := cnt_scl (sgc p) (plF p)
  rw [pl_scl c, sgc_abs] at e
  have := cnt_pos c h
  exact Nat.eq_of_mul_eq_mul_left this (by rw [Nat.mul_one]; exact e.symm)
theorem pl_lead {p : List Int} (c : Cn p) (h : p ≠ []) : 0 < co (plF p) (p.length - 1) := by
  have l : 0 < p.length := List.length_pos_iff.mpr h
  have z : sgc p * co (plF p) (p.length - 1) = co p (p.length - 1) := by rw [← co_scl, pl_scl c]
  have n0 := cn_last c h
  have cp := cnt_pos c h
  by_cases s : co p (p.length - 1) < 0
  · have e : sgc p = -(cnt p : Int) := if_pos s
    rw [e] at z
    apply Int.lt_of_not_ge
    intro w
    have : 0 ≤ -(cnt p : Int) * co (plF p) (p.length - 1) := Int.mul_nonneg_of_nonpos_of_nonpos (by omega) w
    omega
  · have e : sgc p = (cnt p : Int) := if_neg s
    rw [e] at z
    apply Int.lt_of_not_ge
    intro w
    have : (cnt p : Int) * co (plF p) (p.length - 1) ≤ 0 := Int.mul_nonpos_of_nonneg_of_nonpos (by omega) w
    omega
/-- one that is plain -/
theorem pl_of {p : List Int} (h1 : p ≠ [] → cnt p = 1 ∧ 0 < co p (p.length - 1)) : plF p = p := by
  by_cases h : p = []
  · rw [h]; rfl
  obtain ⟨a, b⟩ := h1 h
  have e : sgc p = 1 := by
    unfold sgc
    rw [if_neg (by omega), a]; rfl
  unfold plF
  rw [e]
  refine (List.map_congr_left fun z hz => ?_).trans (List.map_id p)
  exact Int.fdiv_one z
theorem pl_pl {p : List Int} (c : Cn p) : plF (plF p) = plF p := pl_of fun h => by
  have hp : p ≠ [] := by intro z; rw [z] at h; exact h rfl
  exact ⟨pl_cnt c hp, by rw [plF_length]; exact pl_lead c hp⟩
/-- plain ones that are a number times each other are alike -/
theorem pl_uniq {p q : List Int} {c d : Int} (cp : Cn p) (cq : Cn q) (hc : c ≠ 0) (hd : d ≠ 0) (e : sclF c p = sclF d q) (h0 : p ≠ [])
    (p1 : cnt p = 1) (p2 : 0 < co p (p.length - 1)) (q1 : cnt q = 1) (q2 : 0 < co q (q.length - 1)) : p = q := by
  have l : p.length = q.length := by have := congrArg List.length e; simpa [sclF] using this
  have a := cnt_scl c p
  rw [e, cnt_scl, p1, q1] at a
  have z : c * co p (p.length - 1) = d * co q (p.length - 1) := by rw [← co_scl, ← co_scl, e]
  rw [l] at z p2
  have cd : c = d := by
    rcases Int.lt_trichotomy c 0 with s | s | s
    · have : c * co p (q.length - 1) < 0 := Int.mul_neg_of_neg_of_pos s p2
      rcases Int.lt_trichotomy d 0 with t | t | t
      · omega
      · exact absurd t hd
      · have := Int.mul_pos t q2; omega
    · exact absurd s hc
    · have := Int.mul_pos s p2
      rcases Int.lt_trichotomy d 0 with t | t | t
      · have : d * co q (q.length - 1) < 0 := Int.mul_neg_of_neg_of_pos t q2
        omega
      · exact absurd t hd
      · omega
  rw [cd] at e
  exact scl_inj hd e
theorem pl_times {p : List Int} {c : Int} (cp : Cn p) (hc : c ≠ 0) : plF (sclF c p) = plF p := by
  by_cases h : p = []
  · rw [h]; rfl
  have ce := cn_scl hc cp
  have hs : sclF c p ≠ [] := by intro z; exact h (List.map_eq_nil_iff.mp z)
  have hp : plF (sclF c p) ≠ [] := by intro z; exact hs (List.map_eq_nil_iff.mp z)
  have e : sclF (sgc (sclF c p)) (plF (sclF c p)) = sclF (c * sgc p) (plF p) := by
    rw [pl_scl ce]
    conv => lhs; rw [← pl_scl cp]
    unfold sclF
    rw [List.map_map]
    exact List.map_congr_left fun z _ => by show c * (sgc p * z) = c * sgc p * z; rw [Int.mul_assoc]
  exact pl_uniq (cn_pl ce) (cn_pl cp) (sgc_ne ce hs) (Int.mul_ne_zero hc (sgc_ne cp h)) e hp (pl_cnt ce hs) (by rw [plF_length]; exact pl_lead ce hs) (pl_cnt cp h) (by rw [plF_length]; exact pl_lead cp h)

/-! bounds -/
def Bd (k : Nat) (p : List Int) : Prop := ∀ z ∈ p, z.natAbs < 2 ^ k
theorem Bd.mono {k j : Nat} {p : List Int} (h : Bd k p) (l : k ≤ j) : Bd j p := fun z hz => Nat.lt_of_lt_of_le (h z hz) (Nat.pow_le_pow_right (by decide) l)
theorem Bd.co {k : Nat} {p : List Int} (h : Bd k p) (i : Nat) : (co p i).natAbs < 2 ^ k := by
  by_cases l : i < p.length
  · rw [co_at l]; exact h _ (List.getElem_mem l)
  · rw [co_big (by omega)]; exact Nat.two_pow_pos k
theorem bd_of {k : Nat} {p : List Int} (h : ∀ i, (Kr.co p i).natAbs < 2 ^ k) : Bd k p := fun z hz => by
  obtain ⟨i, l, rfl⟩ := List.mem_iff_getElem.mp hz
  rw [← co_at l]; exact h i
theorem bd_trim {k : Nat} {p : List Int} (h : Bd k p) : Bd k (trim p) := fun z hz => h z (trim_mem hz)
theorem bd_add {k : Nat} {p q : List Int} (h : Bd k p) (g : Bd k q) : Bd (k + 1) (addF p q) := bd_of fun i => by
  rw [co_add]
  have := h.co i
  have := g.co i
  have := Int.natAbs_add_le (co p i) (co q i)
  rw [Nat.pow_succ]; omega
theorem bd_scl {k j : Nat} {c : Int} {p : List Int} (hc : c.natAbs < 2 ^ j) (h : Bd k p) : Bd (j + k) (sclF c p) := bd_of fun i => by
  rw [co_scl, Int.natAbs_mul, Nat.pow_add]
  have h2 := h.co i
  have a : c.natAbs * (co p i).natAbs ≤ c.natAbs * 2 ^ k := Nat.mul_le_mul_left _ (Nat.le_of_lt h2)
  have b : c.natAbs * 2 ^ k < 2 ^ j * 2 ^ k := Nat.mul_lt_mul_of_pos_right hc (Nat.two_pow_pos k)
  omega
theorem cv_bd {k j : Nat} : ∀ (i : Nat) (f g : Fn), (∀ n, (f n).natAbs < 2 ^ k) → (∀ n, (g n).natAbs < 2 ^ j) → (cv f g i).natAbs ≤ (i + 1) * 2 ^ (k + j)
  | 0, f, g, hf, hg => by
    rw [cv, Int.natAbs_mul, Nat.pow_add, Nat.zero_add, Nat.one_mul]
    exact Nat.mul_le_mul (Nat.le_of_lt (hf 0)) (Nat.le_of_lt (hg 0))
  | i + 1, f, g, hf, hg => by
    have ih := cv_bd i (fun n => f (n + 1)) g (fun n => hf _) hg
    have := Int.natAbs_add_le (f 0 * g (i + 1)) (cv (fun n => f (n + 1)) g i)
    have h1 : (f 0 * g (i + 1)).natAbs ≤ 2 ^ (k + j) := by
      rw [Int.natAbs_mul, Nat.pow_add]
      exact Nat.mul_le_mul (Nat.le_of_lt (hf 0)) (Nat.le_of_lt (hg _))
    rw [cv, Nat.add_mul (i + 1) 1, Nat.one_mul]
    omega
theorem bd_mul {k j n : Nat} {p q : List Int} (h : Bd k p) (g : Bd j q) (l : p.length + q.length ≤ 2 ^ n) : Bd (n + k + j) (mulF p q) := by
  by_cases e : p = [] ∨ q = []
  · unfold mulF; rw [if_pos e]; exact fun z hz => nomatch hz
  have hp : 0 < p.length := List.length_pos_iff.mpr fun z => e (.inl z)
  have hq : 0 < q.length := List.length_pos_iff.mpr fun z => e (.inr z)
  refine bd_of fun i => ?_
  by_cases li : i < p.length + q.length - 1
  · rw [co_mul]
    have b := cv_bd i (co p) (co q) h.co g.co
    have c : (i + 1) * 2 ^ (k + j) < 2 ^ n * 2 ^ (k + j) := Nat.mul_lt_mul_of_pos_right (by omega) (Nat.two_pow_pos _)
    rw [Nat.add_assoc, Nat.pow_add]
    omega
  · rw [co_big (Nat.le_trans (mulF_le p q) (by omega))]
    exact Nat.two_pow_pos _
theorem ev_bd {k j : Nat} (x : Int) (hx : x.natAbs < 2 ^ j) : ∀ p : List Int, Bd k p → (ev x p).natAbs < 2 ^ (k + p.length * (j + 1))
  | [], _ => by simp [ev]; exact Nat.two_pow_pos _
  | a :: p, h => by
    have ih := ev_bd x hx p fun z hz => h z (List.mem_cons_of_mem _ hz)
    have ha := h a List.mem_cons_self
    have t := Int.natAbs_add_le a (x * ev x p)
    have b : (x * ev x p).natAbs < 2 ^ (k + p.length * (j + 1) + j) := by
      rw [Int.natAbs_mul, Nat.add_comm _ j, Nat.pow_add]
      have a1 : x.natAbs * (ev x p).natAbs ≤ x.natAbs * 2 ^ (k + p.length * (j + 1)) := Nat.mul_le_mul_left _ (Nat.le_of_lt ih)
      have a2 : x.natAbs * 2 ^ (k + p.length * (j + 1)) < 2 ^ j * 2 ^ (k + p.length * (j + 1)) := Nat.mul_lt_mul_of_pos_right hx (Nat.two_pow_pos _)
      omega
    have c : (2 : Nat) ^ k ≤ 2 ^ (k + p.length * (j + 1) + j) := Nat.pow_le_pow_right (by decide) (by omega)
    have e : k + (a :: p).length * (j + 1) = (k + p.length * (j + 1) + j) + 1 := by
      rw [List.length_cons, Nat.add_mul]; omega
    show (a + x * ev x p).natAbs < _
    rw [e, Nat.pow_succ]
    omega
theorem bd_sl {k n : Nat} {p : List Int} (h : Bd k p) (l : p.length ≤ 2 ^ n) : Bd (n + k) (slF p) := by
  refine bd_of fun i => ?_
  rw [co_sl]
  by_cases li : i + 1 < p.length
  · show (((i : Int) + 1) * co p (i + 1)).natAbs < _
    rw [Int.natAbs_mul, Nat.pow_add]
    have h2 := h.co (i + 1)
    have a : ((i : Int) + 1).natAbs * (co p (i + 1)).natAbs ≤ ((i : Int) + 1).natAbs * 2 ^ k := Nat.mul_le_mul_left _ (Nat.le_of_lt h2)
    have b : ((i : Int) + 1).natAbs * 2 ^ k < 2 ^ n * 2 ^ k := Nat.mul_lt_mul_of_pos_right (by omega) (Nat.two_pow_pos k)
    omega
  · show (((i : Int) + 1) * co p (i + 1)).natAbs < _
    rw [co_big (by omega), Int.mul_zero]
    exact Nat.two_pow_pos _
theorem bd_pl {k : Nat} {p : List Int} (c : Cn p) (h : Bd k p) : Bd k (plF p) := fun z hz => by
  obtain ⟨i, l, rfl⟩ := List.mem_iff_getElem.mp hz
  rw [plF_length] at l
  have hp : p ≠ [] := by intro e; rw [e] at l; exact absurd l (Nat.not_lt_zero _)
  have l2 : i < (plF p).length := by rw [plF_length]; exact l
  have e : sgc p * co (plF p) i = co p i := by rw [← co_scl, pl_scl c]
  rw [← co_at l2]
  have b := h.co i
  rw [← e, Int.natAbs_mul, sgc_abs] at b
  have := Nat.mul_le_mul_right (co (plF p) i).natAbs (cnt_pos c hp)
  omega
end Kr
/-! Lists and tuples alike: k tells which. -/
namespace Kr
open PySem PySem.Spec
open PyProof.Rows L2

def Sq (K : PySem.W.Frag) (k : Bool) (H : Hp) (a : Addr) (xs : List V) : Prop :=
  match k with | true => SqT K H a xs | false => SqL K H a xs
theorem Same.sq {K : PySem.W.Frag} {k : Bool} {a : Addr} {H H' : Hp} {xs : List V} (e : Same H H') (h : Sq K k H a xs) : Sq K k H' a xs := by
  cases k with
  | true => exact Same.tseq e h
  | false => exact e.seq h
theorem Sq.or {K : PySem.W.Frag} {k : Bool} {a : Addr} {H : Hp} {xs : List V} (h : Sq K k H a xs) : SqL K H a xs ∨ SqT K H a xs := by
  cases k with
  | true => exact .inr h
  | false => exact .inl h
def Iat (k : Bool) (h : Heap) (it a : Addr) (i : Nat) : Prop :=
  match k with | true => h.IsTupleIter it a i | false => h.IsListIter it a i
def Sat (k : Bool) (h : Heap) (a : Addr) (items : Array Value) : Prop :=
  match k with | true => h.IsTuple a items | false => h.IsList a items
theorem Iat.at {k : Bool} {h h' : Heap} {it a : Addr} {i : Nat} (x : Iat k h it a i) (e : ∀ o, h.get? it = some o → h'.get? it = some o) : Iat k h' it a i := by
  cases k with
  | true => exact Heap.IsTupleIter.at x e
  | false => exact Heap.IsListIter.at x e
theorem Iat.obj {k : Bool} {h : Heap} {it a : Addr} {i : Nat} (x : Iat k h it a i) : ∃ o, h.get? it = some o ∧ ∃ n vs, o.cls = .type n ∧ o.data = .fields vs ∧
    (["enumerate", "zip", "dict_itemiterator", "dict_reverseitemiterator", "odict_iterator", "itertools.zip_longest", "itertools.pairwise"].contains n) = false := by
  cases k with
  | true => obtain ⟨o, e, c, d⟩ := x; exact ⟨o, e, _, _, c, d, by decide⟩
  | false => obtain ⟨o, e, c, d⟩ := x; exact ⟨o, e, _, _, c, d, by decide⟩
theorem Iat.nocell {k : Bool} {h : Heap} {it a : Addr} {i : Nat} (x : Iat k h it a i) : ∃ o, h.get? it = some o ∧ ∀ v, o.data ≠ .cell v := by
  obtain ⟨o, e, n, vs, _, d, _⟩ := x.obj
  exact ⟨o, e, fun v z => by rw [d] at z; cases z⟩
section
variable {X : Cx} {pins : List (Addr × Obj)} {σ : L2.St} {H : Hp} {s : Shared}
theorem Sq.is {k : Bool} {a : Addr} {xs : List V} (I : Inv X pins σ H s) (h : Sq X.K k H a xs) : ∃ its : List Value, Vals xs its ∧ Sat k s.heap a its.toArray ∧ xs.length ≤ sizeLine := by
  cases k with
  | true => obtain ⟨its, r, p, z⟩ := I.tuple h; exact ⟨its, r, p, z⟩
  | false => obtain ⟨its, r, p, z⟩ := I.list h; exact ⟨its, r, p.isList, z⟩
theorem Sq.inj {k : Bool} {a : Addr} {xs ys : List V} (I : Inv X pins σ H s) (h : Sq X.K k H a xs) (g : Sq X.K k H a ys) : xs = ys := by
  cases k with
  | true => exact I.tuple_inj h g
  | false => exact I.list_inj h g
end
theorem Sat.lt {k : Bool} {h : Heap} {a : Addr} {items : Array Value} (x : Sat k h a items) : a < h.objs.size := by
  cases k with
  | true => obtain ⟨o, e, _⟩ := x; exact Heap.lt_size e
  | false => obtain ⟨o, e, _⟩ := x; exact Heap.lt_size e
theorem Iat.ne {k : Bool} {h : Heap} {it a : Addr} {i : Nat} {items : Array Value} (x : Iat k h it a i) (p : Sat k h a items) : a ≠ it := fun e => by
  obtain ⟨oo, qq, n, vs, c, d, _⟩ := x.obj
  cases k with
  | true => obtain ⟨o2, e2, c2, n2, d2⟩ := p; rw [e, qq] at e2; cases e2; rw [d] at d2; cases d2
  | false => obtain ⟨o2, e2, c2, n2, d2⟩ := p; rw [e, qq] at e2; cases e2; rw [d] at d2; cases d2
theorem drawsS {prog : Program} {w : World} {A : Around} (hh : A.handled = none) (k : Bool) (it a : Addr) (hne : a ≠ it) (items : Array Value) :
    Draws prog w A it [it, a] items.size (fun i v => items[i]? = some v) (fun i h => Iat k h it a i ∧ Sat k h a items) := by
  cases k with
  | true => exact Draws.tuple hh it a hne items
  | false => exact Draws.list hh it a hne items
def itO (k : Bool) (a : Addr) : Obj :=
  { cls := .type (match k with | true => "tuple_iterator" | false => "list_iterator"), data := .fields #[.ref a, .int 0 0] }
theorem beginsS (k : Bool) (a : Addr) (items : Array Value) : Begins (.ref a) (itO k a) fun h => Sat k h a items := by
  cases k with
  | true => exact begins_tuple a items
  | false => exact begins_list a items
theorem itO_at {k : Bool} {h : Heap} {it a : Addr} (e : h.get? it = some (itO k a)) : Iat k h it a 0 := by
  cases k with
  | true => exact ⟨_, e, rfl, rfl⟩
  | false => exact ⟨_, e, rfl, rfl⟩

/-! ### one by one -/
def ItS (K : PySem.W.Frag) (k : Bool) (a : Addr) : L2.It :=
  match k with | true => Itt K a | false => Itl K a
def iSq (K : PySem.W.Frag) (tl : TE) : TI := fun σ H R => tl σ H fun x H1 => ∃ k a, x = .ref a ∧ (∃ xs, Sq K k H1 a xs) ∧ R (ItS K k a) H1
theorem pi_sq {X : Cx} {tg l : Expr} {tl : TE} (hl : PE X l tl) : PI X tg l (iSq X.K tl) := by
  refine ⟨fun pins s σ H R I h => ?_⟩
  refine thn (hl.run pins s σ H _ I h) fun v s1 ⟨x, H1, I1, r1, k, a, e, ⟨xs, hq⟩, q⟩ => ?_
  subst e
  cases r1
  cases k with
  | true =>
    obtain ⟨its, rv, p, hz⟩ := I1.tuple hq
    refine wpAny_pyIter_tuple (show s1.heap.IsTuple a its.toArray from p) ⟨s1.heap.objs.size, [s1.heap.objs.size], _, _, H1, rfl, I1.kept (t' := s1.toks) fun b o e => Heap.get?_push_of_some _ e, turn_tuple a _, ⟨_, Heap.get?_push_size _ rfl, rfl, rfl⟩, fun b hb => ?_, q⟩
    rw [show b = s1.heap.objs.size by simpa using hb]
    exact I1.fpOk (Nat.le_refl _) (I1.hok.fresh (Nat.le_refl _))
  | false =>
    obtain ⟨its, rv, p, hz⟩ := I1.list hq
    refine wpAny_pyIter_list p.isList ⟨s1.heap.objs.size, [s1.heap.objs.size], _, _, H1, rfl, I1.kept (t' := s1.toks) fun b o e => Heap.get?_push_of_some _ e, turn_list a _, ⟨_, Heap.get?_push_size _ rfl, rfl, rfl⟩, fun b hb => ?_, q⟩
    rw [show b = s1.heap.objs.size by simpa using hb]
    exact I1.fpOk (Nat.le_refl _) (I1.hok.fresh (Nat.le_refl _))
theorem for_sq {K : PySem.W.Frag} {k : Bool} {a : Addr} {xs : List V} {g : TG} {tb : TS} {D : Ends} {σ : L2.St} {H : Hp} (Pv : Nat → L2.St → Hp → Prop) (h0 : Pv 0 σ H)
    (hl : ∀ i σ H, i ≤ xs.length → Pv i σ H → Sq K k H a xs)
    (hs : ∀ i x σ H, xs[i]? = some x → Pv i σ H → g x σ H fun σ2 H2 => tb { D with nx := Pv (i + 1), ct := Pv (i + 1), bk := D.nx } σ2 H2)
    (hd : ∀ σ H, Pv xs.length σ H → D.nx σ H) :
    ∃ W : Nat → Nat → L2.St → Hp → Prop, (∃ m, W 0 m σ H) ∧ ∀ i m σ H, W i m σ H →
      ((ItS K k a).stop i H ∧ D.nx σ H) ∨ ((ItS K k a).go i H ∧ ∃ N : L2.St → Hp → Prop, (∀ σ' H', N σ' H' → ∃ m', m' < m ∧ W (i + 1) m' σ' H') ∧
        ∀ x H', (ItS K k a).yld i H x H' → g x σ H' fun σ2 H2 => tb { D with nx := N, ct := N, bk := D.nx } σ2 H2) := by
  cases k with
  | true => exact for_tup Pv h0 hl hs hd
  | false => exact for_list Pv h0 hl hs hd

/-! ### with their places -/
def IteS (K : PySem.W.Frag) (k : Bool) (a : Addr) : L2.It :=
  ⟨fun i H => ∃ (xs : List V) (x : V), Sq K k H a xs ∧ xs[i]? = some x,
   fun i H v H' => ∃ T x, v = .ref T ∧ H T = none ∧ H' = upd H T (.tup [.int (i : Nat), x]) ∧ ∀ xs, Sq K k H a xs → xs[i]? = some x,
   fun i H => ∃ xs : List V, Sq K k H a xs ∧ xs.length = i⟩
theorem turn_enumS {P : Program} {w : World} {K : PySem.W.Frag} {elts : List Expr} {kk : Nat} {tpos : Pos} {k : Bool} (a e it : Addr)
    (hei : e ≠ it) (hea : e ≠ a) (hia : a ≠ it) :
    Turn P w K (.Tuple elts kk tpos) (IteS K k a) [e, it] e (fun i h => (∃ old, IsEnum h e it ((i : Nat) : Int) old) ∧ Iat k h it a i) where
  mem := List.mem_cons_self
  obj := fun i h ⟨⟨old, he⟩, hi⟩ b hb => by
    rcases List.mem_cons.mp hb with z | z
    · subst z; exact ⟨_, he, fun v q => nomatch q⟩
    · rw [show b = it by simpa using z]; exact hi.nocell
  keep := fun i h h' ⟨⟨old, he⟩, hi⟩ kp => ⟨⟨old, kp e (by simp) _ he⟩, hi.at fun o q => kp it (by simp) o q⟩
  item := by
    rintro X rfl rfl rfl hc i pins s σ H E I hf ⟨⟨old, he⟩, hit⟩ ⟨xs, x, hq, hx⟩
    obtain ⟨its, rv, p, hz⟩ := Sq.is I hq
    obtain ⟨u, hu, ru⟩ := rv.get hx
    have hel : e < s.heap.objs.size := Heap.lt_size he
    have hil : it < s.heap.objs.size := by obtain ⟨_, q, _⟩ := hit.nocell; exact Heap.lt_size q
    have hu' : its.toArray[i]? = some u := by simpa using hu
    have hlt : i < its.toArray.size := (Array.getElem?_eq_some_iff.mp hu').1
    refine wpAny_pyNext_enum_itemD (drawsS (show X.A.in1.handled = none from I.ok.hd hc) k it a hia its.toArray) he ⟨hit, p⟩ hlt hei (by simp [hei, hea]) fun y h' tk hy ho st' hT hsz hk => ?_
    have ey : y = u := by rw [hu'] at hy; exact (Option.some.inj hy).symm
    subst ey
    refine ⟨_, rfl, wpAny_letOwnedTupleGo_enum (s := { s with heap := h', toks := tk + 1 }) ho fun h'' he' sb => ?_⟩
    have hT2 := (sb.2 _ (Nat.ne_of_gt hel)).trans hT
    have new : ObjOk X.prog X.w (upd H s.heap.objs.size (.tup [.int (i : Nat), x])) h'' s.heap.objs.size (.tup [.int (i : Nat), x]) :=
      ⟨by show 2 ≤ sizeLine; decide, [.int i tk, y], .cons ⟨_, rfl⟩ (.cons ru .nil), ⟨_, hT2, rfl, _, rfl⟩⟩
    have I1 : Inv X pins σ (upd H s.heap.objs.size (.tup [.int (i : Nat), x])) { s with heap := h'', toks := tk + 1 } :=
      I.turnedNew (ch := [e, it]) (fun b ob hb q => (sb.2 b fun z => hb (by simp [z])).trans (hk b ob (fun z => hb (by simp [z])) (fun z => hb (by simp [z])) q)) hf (Nat.le_refl _) new
    refine ⟨.ref s.heap.objs.size, _, I1, rfl, ⟨_, x, rfl, I.hok.fresh (Nat.le_refl _), rfl, fun ys hys => by rw [Sq.inj I hys hq]; exact hx⟩, ⟨⟨y, ?_⟩, st'.1.at fun o q => (sb.2 it hei.symm).trans q⟩, fun b hb => ?_⟩
    · rw [show ((i + 1 : Nat) : Int) = (i : Int) + 1 by omega]; exact he'
    · have hb' : b < s.heap.objs.size := by
        rcases List.mem_cons.mp hb with z | z
        · rw [z]; exact hel
        · rw [show b = it by simpa using z]; exact hil
      rw [upd_ne (Nat.ne_of_lt hb')]
      exact (hf b hb).1
  done := by
    rintro X rfl rfl rfl hc i pins s σ H E I hf ⟨⟨old, he⟩, hit⟩ ⟨xs, hq, hx⟩
    obtain ⟨its, rv, p, hz⟩ := Sq.is I hq
    obtain ⟨f0, f1, f2, f3, f4, f5⟩ := hf it (by simp)
    have hn : its.toArray.size = i := by rw [List.size_toArray, ← rv.length, hx]
    exact wpAny_pyNext_enum_endD (drawsS (show X.A.in1.handled = none from I.ok.hd hc) k it a hia its.toArray) he (by rw [hn]; exact ⟨hit, p⟩) fun h' eb => ⟨rfl, I.turned (t' := s.toks) (fun b o hb q => eb b o hb q) f0 f1 f3 f4 f5⟩
  self := fun A i s Q E ⟨⟨_, he⟩, _⟩ h => wpAny_pyIter_enum he h
set_option maxHeartbeats 8000000 in
theorem enum_new1 {v : Value} {o : Obj} {B : Heap → Prop} (b : Begins v o B) : Meets (Builtin.«enumerate.__new__» ⟨[.type "enumerate", v], []⟩) (fun _ R s => B s.heap ∧
      R (.ok (.ret (.ref (s.heap.push o).objs.size))) { s with heap := (s.heap.push o).push { cls := .type "enumerate", data := .fields #[.none, .bool false, .ref s.heap.objs.size, rawInt 0, .none, .none] } }) :=
  .of_wp fun prog w A R s ⟨h1, h⟩ => by
    have hsub := sub_enumerate
    obtain ⟨hp, g, d, tk, os⟩ := s
    have q1 : ∀ {A' : Around} {E Q : Value → Shared → Prop}, Q (.ref hp.objs.size) ⟨hp.push o, g, d, tk, os⟩ → wpAny (model prog w) A' (pyIter v) Q E ⟨hp, g, d, tk, os⟩ := fun q => b.iter prog w _ _ ⟨hp, g, d, tk, os⟩ _ h1 q
    wp_walk using q1
    refine wpAny_stack_any fun st => wpAny_pure ?_
    split
    · rename_i c _ _ _ _ _
      cases (c == Value.type "enumerate") <;> (wp_walk using q1; exact ⟨_, rfl, h⟩)
    · wp_walk using q1; exact ⟨_, rfl, h⟩
theorem enum_begins1 {prog : Program} {w : World} {A : Around} {E : Value → Shared → Prop} {s : Shared} {v : Value} {o : Obj} {B : Heap → Prop} {Q : Value → Shared → Prop} (b : Begins v o B) (h1 : B s.heap)
    (h : ∀ h', IsEnum h' (s.heap.objs.size + 1) s.heap.objs.size 0 .none → h'.get? s.heap.objs.size = some o → (∀ b o, s.heap.get? b = some o → h'.get? b = some o) → Q (.ref (s.heap.objs.size + 1)) { s with heap := h' }) :
    wpAny (model prog w) A (call (.type "enumerate") [v]) Q E s := by
  refine callType_new F.called_enumerate (by decide) (F.typeCall_enumerate_1 _) (F.newCall_enumerate_1 _) (fun obj => F.args_object_init_2 obj _) F.entry_enumerate_new (enum_new1 b) ⟨h1, ?_⟩
  have hz : (s.heap.push o).objs.size = s.heap.objs.size + 1 := Heap.size_push ..
  show _ ∧ _
  rw [hz]
  have he : IsEnum ((s.heap.push o).push { cls := .type "enumerate", data := .fields #[.none, .bool false, .ref s.heap.objs.size, rawInt 0, .none, .none] }) (s.heap.objs.size + 1) s.heap.objs.size 0 .none := by
    rw [← hz]; exact Heap.get?_push_size _ rfl
  exact ⟨⟨_, he, rfl⟩, h _ he (Heap.get?_push_of_some _ (Heap.get?_push_size _ b.free)) fun c u x => Heap.get?_push_of_some _ (Heap.get?_push_of_some _ x)⟩
def iEnumS (K : PySem.W.Frag) (ta : TA) : TI := fun σ H R => ta σ H fun vs H1 => ∃ k a xs, vs = [.ref a] ∧ Sq K k H1 a xs ∧ R (IteS K k a) H1
theorem pi_enumS {X : Cx} {e : Expr} {ta : TA} {p pos tpos : Pos} {elts : List Expr} {kk : Nat} (hg : Gl X "enumerate") (hm : X.mg "enumerate" = none) (ha : PA X [e] ta)
    (hs : starEach [e] X.env = [(false, eval e X.env)] := by rfl) : PI X (.Tuple elts kk tpos) (.Call (.Name "enumerate" p) [e] [] pos) (iEnumS X.K ta) := by
  refine ⟨fun pins s σ H R I h => Call_ (ld_blt I hg hm boot_enumerate (PyProof.Rows.callWith_type1 (thn (ha.run pos pins s σ H _ I h) fun us s1 ⟨vs, H1, I1, r1, k, a, xs, ex, hq, q⟩ => ?_) hs rfl))⟩
  subst ex
  cases r1 with
  | cons r rr =>
    cases rr
    cases r
    obtain ⟨its, rv, p', hz⟩ := Sq.is I1 hq
    have la := p'.lt
    refine enum_begins1 (beginsS k a its.toArray) p' fun h' he hit hk => wpAny_pyIter_enum he ?_
    have I2 : Inv X pins σ H1 { s1 with heap := h' } := I1.kept (t' := s1.toks) hk
    refine ⟨s1.heap.objs.size + 1, [s1.heap.objs.size + 1, s1.heap.objs.size], _, _, H1, rfl, I2, turn_enumS (k := k) a (s1.heap.objs.size + 1) s1.heap.objs.size (Nat.succ_ne_self _) (Nat.ne_of_gt (Nat.lt_succ_of_lt la)) (Nat.ne_of_lt la), ⟨⟨.none, he⟩, itO_at hit⟩, fun b hb => ?_, q⟩
    have hle : s1.heap.objs.size ≤ b := by
      rcases List.mem_cons.mp hb with z | z
      · rw [z]; exact Nat.le_succ _
      · rw [show b = s1.heap.objs.size by simpa using z]; exact Nat.le_refl _
    exact I1.fpOk hle (I1.hok.fresh hle)
theorem for_enumS {K : PySem.W.Frag} {k : Bool} {a : Addr} {xs : List V} {g : TG} {tb : TS} {D : Ends} {σ : L2.St} {H : Hp} (Pv : Nat → L2.St → Hp → Prop) (h0 : Pv 0 σ H)
    (hl : ∀ i σ H, i ≤ xs.length → Pv i σ H → Sq K k H a xs)
    (hs : ∀ (i : Nat) (x : V) (T : Addr) σ H, xs[i]? = some x → Pv i σ H → H T = none → g (.ref T) σ (upd H T (.tup [.int (i : Nat), x])) fun σ2 H2 => tb { D with nx := Pv (i + 1), ct := Pv (i + 1), bk := D.nx } σ2 H2)
    (hd : ∀ σ H, Pv xs.length σ H → D.nx σ H) :
    ∃ W : Nat → Nat → L2.St → Hp → Prop, (∃ m, W 0 m σ H) ∧ ∀ i m σ H, W i m σ H →
      ((IteS K k a).stop i H ∧ D.nx σ H) ∨ ((IteS K k a).go i H ∧ ∃ N : L2.St → Hp → Prop, (∀ σ' H', N σ' H' → ∃ m', m' < m ∧ W (i + 1) m' σ' H') ∧
        ∀ x H', (IteS K k a).yld i H x H' → g x σ H' fun σ2 H2 => tb { D with nx := N, ct := N, bk := D.nx } σ2 H2) := by
  refine ⟨fun i m σ H => m = xs.length - i ∧ i ≤ xs.length ∧ Pv i σ H, ⟨xs.length, by simp, Nat.zero_le _, h0⟩, ?_⟩
  rintro i m σ H ⟨rfl, hi, p⟩
  have q := hl i σ H hi p
  by_cases hlt : i < xs.length
  · refine .inr ⟨⟨xs, xs[i], q, List.getElem?_eq_getElem hlt⟩, Pv (i + 1), fun σ' H' p' => ⟨xs.length - (i + 1), by omega, rfl, hlt, p'⟩, ?_⟩
    rintro _ _ ⟨T, x, rfl, nT, rfl, y⟩
    exact hs i x T σ _ (y xs q) p nT
  · obtain rfl : i = xs.length := by omega
    exact .inl ⟨⟨xs, q, rfl⟩, hd σ H p⟩

/-! ### two at a time -/
def ItzS (K : PySem.W.Frag) (k j : Bool) (a b : Addr) : L2.It :=
  ⟨fun i H => ∃ (xs ys : List V) (x y : V), Sq K k H a xs ∧ Sq K j H b ys ∧ xs[i]? = some x ∧ ys[i]? = some y,
   fun i H v H' => ∃ T x y, v = .ref T ∧ H T = none ∧ H' = upd H T (.tup [x, y]) ∧ (∀ xs, Sq K k H a xs → xs[i]? = some x) ∧ ∀ ys, Sq K j H b ys → ys[i]? = some y,
   fun i H => ∃ xs ys : List V, Sq K k H a xs ∧ Sq K j H b ys ∧ i ≤ xs.length ∧ i ≤ ys.length ∧ (xs.length = i ∨ ys.length = i)⟩
theorem turn_zipS {P : Program} {w : World} {K : PySem.W.Frag} {elts : List Expr} {kk : Nat} {tpos : Pos} {k j : Bool} {a b z TI TO i1 i2 : Addr} (D : ZipSep2 z TI TO i1 i2 [i1, a] [i2, b]) :
    Turn P w K (.Tuple elts kk tpos) (ItzS K k j a b) [z, TI, TO, i1, i2] z (fun i h => IsZip h z TI TO .none ∧ IsTupOf2 h TI (.ref i1) (.ref i2) ∧ (∃ x y, IsTupOf2 h TO x y) ∧ Iat k h i1 a i ∧ Iat j h i2 b i) where
  mem := List.mem_cons_self
  obj := fun i h ⟨hz, hTI, ⟨x, y, hTO⟩, h1, h2⟩ c hc => by
    have e' : c = z ∨ c = TI ∨ c = TO ∨ c = i1 ∨ c = i2 := by simpa using hc
    rcases e' with rfl | rfl | rfl | rfl | rfl
    · exact ⟨_, hz, fun v q => nomatch q⟩
    · exact ⟨_, hTI, fun v q => nomatch q⟩
    · exact ⟨_, hTO, fun v q => nomatch q⟩
    · exact h1.nocell
    · exact h2.nocell
  keep := fun i h h' ⟨hz, hTI, ⟨x, y, hTO⟩, h1, h2⟩ kp =>
    ⟨kp z (by simp) _ hz, kp TI (by simp) _ hTI, ⟨x, y, kp TO (by simp) _ hTO⟩, h1.at fun o q => kp i1 (by simp) o q, h2.at fun o q => kp i2 (by simp) o q⟩
  item := by
    rintro X rfl rfl rfl hc i pins s σ H E I hf ⟨hz, hTI, ⟨x0, y0, hTO⟩, h1, h2⟩ ⟨xs, ys, x, y, hqx, hqy, hx, hy⟩
    obtain ⟨its, rv, p, _⟩ := Sq.is I hqx
    obtain ⟨its2, rv2, p2, _⟩ := Sq.is I hqy
    obtain ⟨u, hu, ru⟩ := rv.get hx
    obtain ⟨u2, hu2, ru2⟩ := rv2.get hy
    have hu' : its.toArray[i]? = some u := by simpa using hu
    have hu2' : its2.toArray[i]? = some u2 := by simpa using hu2
    have hzl : z < s.heap.objs.size := Heap.lt_size hz
    have l1 : i1 < s.heap.objs.size := by obtain ⟨_, q, _⟩ := h1.nocell; exact Heap.lt_size q
    have l2 : i2 < s.heap.objs.size := by obtain ⟨_, q, _⟩ := h2.nocell; exact Heap.lt_size q
    have n1 : a ≠ i1 := h1.ne p
    have n2 : b ≠ i2 := h2.ne p2
    have hn : X.A.in1.handled = none := I.ok.hd hc
    refine wpAny_pyNext_zipD2_item D (drawsS hn k i1 a n1 its.toArray) (drawsS hn j i2 b n2 its2.toArray) hz hTI hTO ⟨h1, p⟩ ⟨h2, p2⟩ (Array.getElem?_eq_some_iff.mp hu').1 (Array.getElem?_eq_some_iff.mp hu2').1 fun v1 v2 h' tk e1 e2 z' TO' h1' h2' hT hsz hk => ?_
    have e1 : its.toArray[i]? = some v1 := e1
    have e2 : its2.toArray[i]? = some v2 := e2
    rw [hu'] at e1
    rw [hu2'] at e2
    cases e1
    cases e2
    refine ⟨_, rfl, wpAny_letOwnedTupleGo_zip (s := { s with heap := h', toks := tk }) z' fun h'' z'' sb => ?_⟩
    have hT2 := (sb.2 _ (Nat.ne_of_gt hzl)).trans hT
    have new : ObjOk X.prog X.w (upd H s.heap.objs.size (.tup [x, y])) h'' s.heap.objs.size (.tup [x, y]) :=
      ⟨by show 2 ≤ sizeLine; decide, [u, u2], .cons ru (.cons ru2 .nil), ⟨_, hT2, rfl, _, rfl⟩⟩
    have I1 : Inv X pins σ (upd H s.heap.objs.size (.tup [x, y])) { s with heap := h'', toks := tk } :=
      I.turnedNew (ch := [z, TI, TO, i1, i2]) (fun c o hb q => (sb.2 c fun q' => hb (by simp [q'])).trans (hk c o (fun q' => hb (by simp [q'])) (fun q' => hb (by simp [q'])) (fun q' => hb (by simp [q'])) (fun q' => hb (by simp [q'])) q)) hf (Nat.le_refl _) new
    refine ⟨.ref s.heap.objs.size, _, I1, rfl, ⟨_, x, y, rfl, I.hok.fresh (Nat.le_refl _), rfl, fun l hl => by rw [Sq.inj I hl hqx]; exact hx, fun l hl => by rw [Sq.inj I hl hqy]; exact hy⟩, ⟨z'', ?_, ⟨u, u2, ?_⟩, ?_, ?_⟩, fun c hcm => ?_⟩
    · exact (sb.2 _ D.TIz).trans (hk _ _ D.TIz D.TITO D.TIi1 D.TIi2 hTI)
    · exact (sb.2 _ D.TOz).trans TO'
    · exact h1'.1.at fun o q => (sb.2 _ D.zi1.symm).trans q
    · exact h2'.1.at fun o q => (sb.2 _ D.zi2.symm).trans q
    · have hlt : c < s.heap.objs.size := by
        have e' : c = z ∨ c = TI ∨ c = TO ∨ c = i1 ∨ c = i2 := by simpa using hcm
        rcases e' with q | q | q | q | q
        · rw [q]; exact hzl
        · rw [q]; exact Heap.lt_size hTI
        · rw [q]; exact Heap.lt_size hTO
        · rw [q]; exact l1
        · rw [q]; exact l2
      rw [upd_ne (Nat.ne_of_lt hlt)]
      exact (hf c hcm).1
  done := by
    rintro X rfl rfl rfl hc i pins s σ H E I hf ⟨hz, hTI, ⟨x0, y0, hTO⟩, h1, h2⟩ ⟨xs, ys, hqx, hqy, e1, e2, hend⟩
    obtain ⟨its, rv, p, _⟩ := Sq.is I hqx
    obtain ⟨its2, rv2, p2, _⟩ := Sq.is I hqy
    have l1 := rv.length
    have l2 := rv2.length
    have s1 : its.toArray.size = xs.length := by rw [List.size_toArray, l1]
    have s2 : its2.toArray.size = ys.length := by rw [List.size_toArray, l2]
    have n1 : a ≠ i1 := h1.ne p
    have n2 : b ≠ i2 := h2.ne p2
    have hn : X.A.in1.handled = none := I.ok.hd hc
    exact wpAny_pyNext_zipD2_end D (drawsS hn k i1 a n1 its.toArray) (drawsS hn j i2 b n2 its2.toArray) hz hTI hTO ⟨h1, p⟩ ⟨h2, p2⟩ (by omega) (by omega) (by omega) fun h' tk hk => ⟨rfl, I.turnedL (t' := tk) (ch := [z, TI, TO, i1, i2]) (fun c o hb q =>
      hk c o (fun q' => hb (by simp [q'])) (fun q' => hb (by simp [q'])) (fun q' => hb (by simp [q'])) (fun q' => hb (by simp [q'])) q) hf⟩
  self := fun A i s Q E st h => wpAny_pyIter_zip st.1 h
def iZipS (K : PySem.W.Frag) (ta : TA) : TI := fun σ H R => ta σ H fun vs H1 => ∃ k j a b xs ys, vs = [.ref a, .ref b] ∧ Sq K k H1 a xs ∧ Sq K j H1 b ys ∧ R (ItzS K k j a b) H1
theorem pi_zipS {X : Cx} {e e2 : Expr} {ta : TA} {p pos tpos : Pos} {elts : List Expr} {kk : Nat} (hg : Gl X "zip") (hm : X.mg "zip" = none) (ha : PA X [e, e2] ta)
    (hs : starEach [e, e2] X.env = (false, eval e X.env) :: starEach [e2] X.env := by rfl)
    (hpl : (backTo pos (starEach [e2] X.env)).any (·.1) = false := by rfl) : PI X (.Tuple elts kk tpos) (.Call (.Name "zip" p) [e, e2] [] pos) (iZipS X.K ta) := by
  refine ⟨fun pins s σ H R I h => Call_ (ld_blt I hg hm PyProof.Rows.boot_zip (PyProof.Rows.callWith_type1 (thn (ha.run pos pins s σ H _ I h) fun us s1 ⟨vs, H1, I1, r1, k, j, a, b, xs, ys, ex, hqx, hqy, q⟩ => ?_) hs hpl))⟩
  subst ex
  cases r1 with
  | cons r rr =>
    cases rr with
    | cons r' rr =>
      cases rr
      cases r
      cases r'
      obtain ⟨its, rv, p1, _⟩ := Sq.is I1 hqx
      obtain ⟨its2, rv2, p2, _⟩ := Sq.is I1 hqy
      have la := p1.lt
      have lb := p2.lt
      refine zip_begins2 (beginsS k a its.toArray) (beginsS j b its2.toArray) p1 p2 fun h' hz hTI hTO h1 h2 hsz hk => wpAny_pyIter_zip hz ?_
      have I2 : Inv X pins σ H1 { s1 with heap := h' } := I1.kept (t' := s1.toks) hk
      refine ⟨s1.heap.objs.size + 4, [s1.heap.objs.size + 4, s1.heap.objs.size + 2, s1.heap.objs.size + 3, s1.heap.objs.size, s1.heap.objs.size + 1], _, _, H1, rfl, I2,
        turn_zipS (k := k) (j := j) (zip_sep2 (fp1 := [a]) (fp2 := [b]) (fun c hc => by rw [show c = a by simpa using hc]; exact la) (fun c hc => by rw [show c = b by simpa using hc]; exact lb)),
        ⟨hz, hTI, ⟨_, _, hTO⟩, itO_at h1, itO_at h2⟩, fun c hcm => ?_, q⟩
      have e' : c = s1.heap.objs.size + 4 ∨ c = s1.heap.objs.size + 2 ∨ c = s1.heap.objs.size + 3 ∨ c = s1.heap.objs.size ∨ c = s1.heap.objs.size + 1 := by simpa using hcm
      have hle : s1.heap.objs.size ≤ c := by
        rcases e' with e | e | e | e | e <;> rw [e] <;> first | exact Nat.le_refl _ | exact Nat.le_add_right _ _
      exact I1.fpOk hle (I1.hok.fresh hle)
theorem for_zipS {K : PySem.W.Frag} {k j : Bool} {a b : Addr} {xs ys : List V} {g : TG} {tb : TS} {D : Ends} {σ : L2.St} {H : Hp} (n : Nat) (hn : n = min xs.length ys.length) (Pv : Nat → L2.St → Hp → Prop) (h0 : Pv 0 σ H)
    (hl : ∀ i σ H, i ≤ n → Pv i σ H → Sq K k H a xs ∧ Sq K j H b ys)
    (hs : ∀ (i : Nat) (x y : V) (T : Addr) σ H, xs[i]? = some x → ys[i]? = some y → Pv i σ H → H T = none → g (.ref T) σ (upd H T (.tup [x, y])) fun σ2 H2 => tb { D with nx := Pv (i + 1), ct := Pv (i + 1), bk := D.nx } σ2 H2)
    (hd : ∀ σ H, Pv n σ H → D.nx σ H) :
    ∃ W : Nat → Nat → L2.St → Hp → Prop, (∃ m, W 0 m σ H) ∧ ∀ i m σ H, W i m σ H →
      ((ItzS K k j a b).stop i H ∧ D.nx σ H) ∨ ((ItzS K k j a b).go i H ∧ ∃ N : L2.St → Hp → Prop, (∀ σ' H', N σ' H' → ∃ m', m' < m ∧ W (i + 1) m' σ' H') ∧
        ∀ x H', (ItzS K k j a b).yld i H x H' → g x σ H' fun σ2 H2 => tb { D with nx := N, ct := N, bk := D.nx } σ2 H2) := by
  refine ⟨fun i m σ H => m = n - i ∧ i ≤ n ∧ Pv i σ H, ⟨n, by simp, Nat.zero_le _, h0⟩, ?_⟩
  rintro i m σ H ⟨rfl, hi, p⟩
  obtain ⟨q1, q2⟩ := hl i σ H hi p
  by_cases hlt : i < n
  · have l1 : i < xs.length := by omega
    have l2 : i < ys.length := by omega
    refine .inr ⟨⟨xs, ys, xs[i], ys[i], q1, q2, List.getElem?_eq_getElem l1, List.getElem?_eq_getElem l2⟩, Pv (i + 1), fun σ' H' p' => ⟨n - (i + 1), by omega, rfl, hlt, p'⟩, ?_⟩
    rintro _ _ ⟨T, x, y, rfl, nT, rfl, y1, y2⟩
    exact hs i x y T σ _ (y1 xs q1) (y2 ys q2) p nT
  · obtain rfl : i = n := by omega
    exact .inl ⟨⟨xs, ys, q1, q2, by omega, by omega, by omega⟩, hd σ H p⟩

/-! ### parts -/
def rSlS (K : PySem.W.Frag) : V → Option Int → Option Int → Hp → VK → Prop := fun x lo hi H Q => ∃ k a xs, x = .ref a ∧ Sq K k H a xs ∧
  ∀ H' p, Same H H' → Sq K k H' p (cutV xs lo hi) → Q (.ref p) H'
theorem sl_sq {X : Cx} : SlR X (rSlS X.K) := by
  intro pins s σ H x v vl vu lo hi sl Q I rx hs pl pu ⟨k, a, xs, ex, hx, q⟩
  cases k with
  | false => exact sl_list pins s σ H x v vl vu lo hi sl Q I rx hs pl pu ⟨a, xs, ex, hx, fun p np => q _ p (Same.put np) (SqL.of upd_same)⟩
  | true =>
    refine sl_tupA pins s σ H x v vl vu lo hi sl Q I rx hs pl pu ⟨a, xs, ex, hx, fun hw => q H a (Same.refl _) ?_, fun _ p np => q _ p (Same.put np) (SqT.of upd_same)⟩
    have e : cutV xs lo hi = xs := by
      unfold cutV
      rw [hw.1, hw.2, List.drop_zero, Nat.sub_zero, List.take_length]
    show SqT X.K H a (cutV xs lo hi)
    rw [e]; exact hx
/-- from behind -/
def tRevS (K : PySem.W.Frag) (te : TE) : TE := fun σ H Q => te σ H fun x H1 => ∃ k a xs, x = .ref a ∧ Sq K k H1 a xs ∧ ∀ H' p, Same H1 H' → Sq K k H' p xs.reverse → Q (.ref p) H'
theorem cut_back {prog : Program} {w : World} {A : Around} {E : Value → Shared → Prop} {s : Shared} {t sl : Addr} {items : Array Value} {vs : Value} {Q : Value → Shared → Prop} (ht : IsTup s.heap t items)
    (hs : s.heap.IsSliceOf sl .none .none vs) (ps : IsPart vs (some (-1))) (hsz : items.size ≤ sizeLine)
    (h : Q (.ref s.heap.objs.size) { s with heap := s.heap.push { cls := .type "tuple", data := .seq items.toList.reverse.toArray } }) :
    wpAny (model prog w) A (getItem (.ref t) (.ref sl)) Q E s := by
  obtain ⟨os, hos, hcs, hds⟩ := id hs
  have hTs : s.TypeIs (.ref sl) "slice" := ⟨os, hos, hcs⟩
  unfold getItem
  try with_reducible refine wpAny_holding ?_
  first | refine wpAny_bind (wpAny_pure ?_) | skip
  refine wpAny_bind (wpAny_sequenceKey ht.typeIs (by decide) (wpAny_bind (wpAny_callSpecial?_slot (name := Str.ofString "__getitem__") ht.typeIs PyProof.Rows.slot_tuple_getitem
    (wpAny_call_entry PyProof.Rows.slot_tuple_getitem ht.typeIs PyProof.Rows.entry_tuple_getitem ?_ (PyProof.Rows.args_tuple_getitem _ _)))))
  show wpAny _ _ (Builtin.Tuple.tupleItemsOf (.ref t) >>= _) _ _ s
  refine wpAny_bind (tupleItemsOf_ ht (wpAny_bind (wpAny_typeOf hTs ?_)))
  rw [if_pos (by decide)]
  refine wpAny_bind ?_
  unfold Builtin.Slice.sliceApplied Builtin.Slice.sliceFields
  refine wpAny_bind (wpAny_bind (wpAny_field hos hds (x := .none) rfl (wpAny_bind (wpAny_field hos hds (x := .none) rfl (wpAny_bind (wpAny_field hos hds (x := vs) rfl (wpAny_pure ?_)))))))
  have places : Builtin.Slice.slicePlaces ((items.size : Int) - 1) (-1) (-1) = items.size := by
    unfold Builtin.Slice.slicePlaces
    rw [if_neg (by decide)]
    by_cases hh : (items.size : Int) - 1 > -1
    · rw [if_pos hh, show (-(-1 : Int)) = 1 by decide, Int.ediv_one]; omega
    · rw [if_neg hh]; omega
  have part : ∀ {Q' : Option Int → Shared → Prop}, Q' (some (-1)) s → ∀ (A' : Around) (E' : Value → Shared → Prop), wpAny (model prog w) A' (Builtin.Slice.slicePartIndex vs) Q' E' s := by
    intro Q' hq A' E'
    cases ps with
    | int i t => exact PyProof.Rows.slicePart_int hq
  refine wpAny_bind (part ?_ _ _)
  show wpAny _ _ (if ((-1 : Int) == 0) = true then _ else _) _ _ s
  rw [if_neg (by decide)]
  refine wpAny_bind (PyProof.Rows.slicePart_none (wpAny_bind (PyProof.Rows.slicePart_none (wpAny_bind (wpAny_pure ?_)))))
  show wpAny _ _ (pure ((items.size : Int) - 1, (-1 : Int), Builtin.Slice.slicePlaces ((items.size : Int) - 1) (-1) (-1))) _ _ s
  rw [places]
  refine wpAny_pure ?_
  have hno : ¬ ((((items.size : Int) - 1 == 0) && ((-1 : Int) == 1) && (items.size == items.size)) = true) := by
    rw [show ((-1 : Int) == 1) = false from rfl, Bool.and_false, Bool.false_and]; exact Bool.false_ne_true
  show wpAny _ _ (if (((items.size : Int) - 1 == 0) && ((-1 : Int) == 1) && (items.size == items.size)) = true then _ else _) _ _ s
  rw [if_neg hno]
  have pick : ((List.range items.size).filterMap fun (m : Nat) => items[((items.size : Int) - 1 + (m : Int) * (-1)).toNat]?).toArray = items.toList.reverse.toArray := by
    have e1 : (List.range items.size).filterMap (fun (m : Nat) => items[((items.size : Int) - 1 + (m : Int) * (-1)).toNat]?) = ((List.range items.size).map fun k => items.size - 1 - k).filterMap (items[·]?) := by
      rw [List.filterMap_map]
      have cg : ∀ (l : List Nat) (f g : Nat → Option Value), (∀ m ∈ l, f m = g m) → l.filterMap f = l.filterMap g := by
        intro l f g hfg
        induction l with
        | nil => rfl
        | cons m l ih =>
          rw [List.filterMap_cons, List.filterMap_cons, hfg m List.mem_cons_self, ih fun y hy => hfg y (List.mem_cons_of_mem _ hy)]
      refine cg _ _ _ fun m hm => ?_
      have hm2 := List.mem_range.mp hm
      have hm3 : ((items.size : Int) - 1 + (m : Int) * (-1)).toNat = items.size - 1 - m := by omega
      show items[((items.size : Int) - 1 + (m : Int) * (-1)).toNat]? = items[items.size - 1 - m]?
      rw [hm3]
    rw [e1, PySem.W.krv_range, List.filterMap_reverse, PySem.W.krv_all]
  have fits : sizeOk (.seq items.toList.reverse.toArray) := by
    show items.toList.reverse.toArray.size ≤ sizeLine
    rw [List.size_toArray, List.length_reverse, Array.length_toList]; exact hsz
  rw [pick]
  first
    | exact wpAny_bind (m := Builtin.Tuple.tupleExact _) (wpAny_newObj_type (wpAny_pure ⟨_, rfl, wpAny_pure h⟩) fits)
    | exact wpAny_bind (m := Builtin.Tuple.tupleExact _) (wpAny_newObj_type (wpAny_bind (wpAny_pure (wpAny_pure ⟨_, rfl, wpAny_pure h⟩))) fits)
    | exact wpAny_bind (wpAny_bind (m := Builtin.Tuple.tupleExact _) (wpAny_newObj_type (wpAny_pure (wpAny_pure ⟨_, rfl, wpAny_pure h⟩)) fits))
theorem pe_revS {X : Cx} {e : Expr} {te : TE} {k : Nat} {p1 p2 p3 pos : Pos} (he : PE X e te) : PE X (.Subscript e (.Slice none none (some (.UnaryOp .USub (.Constant (.int 1) k p1) p2)) p3) pos) (tRevS X.K te) := by
  refine ⟨fun pins s σ H Q I h => Subscript_ (thn (he.run pins s σ H _ I h) fun v s1 ⟨x, H1, I1, r1, kd, a, xs, ex, hx, q⟩ => ?_)⟩
  subst ex
  cases r1
  have hst : PO X (some (.UnaryOp .USub (.Constant (.int 1) k p1) p2)) (tPart (tUn (rU fun i => .int (-i)) (tC (.int 1)))) := po_some (pe_un un_neg pe_int)
  refine wpAny_Slice (thn (po_none.run pins s1 σ H1 (fun o H2 => o = none ∧ H2 = H1) I1 ⟨rfl, rfl⟩) fun vl s2 ⟨l, H2, I2, pl, el, e2⟩ => ?_)
  subst el e2
  refine thn (po_none.run pins s2 σ H2 (fun o H3 => o = none ∧ H3 = H2) I2 ⟨rfl, rfl⟩) fun vu s3 ⟨u, H3, I3, pu, eu, e3⟩ => ?_
  subst eu e3
  refine thn (hst.run pins s3 σ H3 (fun o H4 => o = some (-1) ∧ H4 = H3) I3 ⟨1, rfl, -1, rfl, rfl, rfl⟩) fun vs s4 ⟨o, H4, I4, ps, eo, e4⟩ => ?_
  subst eo e4
  have I5 : Inv X pins σ H4 { s4 with heap := s4.heap.push { cls := .type "slice", data := .fields #[vl, vu, vs] } } := I4.kept (t' := s4.toks) fun b ob q => Heap.get?_push_of_some _ q
  cases kd with
  | false =>
    obtain ⟨its, r, ht, hz⟩ := I5.list hx
    have hlen := r.length
    refine tail_any (ops := [.ref a, .ref s4.heap.objs.size]) ht.isList.typeIs (PySem.slot_list_getitem.lookup) ?_ (by with_unfolding_all rfl)
    refine wpAny_getItem_list_slice ht.isList (Heap.IsSliceOf.new _ vl vu vs) pl pu ps (by decide) ?_ (by rw [List.size_toArray]; omega)
    rw [PySem.W.krv_pick]
    exact ⟨.ref _, _, I5.laid (t' := s4.toks) (o := .lst xs.reverse) (fun b ob q => Heap.get?_push_of_some _ q) (Nat.le_refl _) ⟨by rw [List.length_reverse]; exact hz, _, 0, r.reverse, Heap.get?_push_size _ rfl⟩,
      rfl, q _ _ (Same.put (I5.hok.fresh (Nat.le_refl _))) (SqL.of upd_same)⟩
  | true =>
    obtain ⟨its, r, ht, hz⟩ := I5.tuple hx
    have hlen := r.length
    cases pl
    cases pu
    refine tail_any (ops := [.ref a, .ref s4.heap.objs.size]) ht.typeIs PyProof.Rows.slot_tuple_getitem.lookup ?_ (by with_unfolding_all rfl)
    refine cut_back ht (Heap.IsSliceOf.new _ .none .none vs) ps (by rw [List.size_toArray]; omega) ?_
    exact ⟨.ref _, _, I5.laid (t' := s4.toks) (o := .tup xs.reverse) (fun b ob q => Heap.get?_push_of_some _ q) (Nat.le_refl _) ⟨by rw [List.length_reverse]; exact hz, _, r.reverse, IsTup.new _ _⟩,
      rfl, q _ _ (Same.put (I5.hok.fresh (Nat.le_refl _))) (SqT.of upd_same)⟩
/-! built in a row -/
theorem lc_sq {K : PySem.W.Frag} {k : Bool} {a : Addr} {xs : List V} {g : TG} {tt : TT} {te : TE} {vs : List Nat} {σ : L2.St} {H1 : Hp} {D : Addr} {Qd : Hp → Prop} (Pv : Nat → Hp → Prop) (h0 : Pv 0 (upd H1 D (.lst [])))
    (hl : ∀ i H, i ≤ xs.length → Pv i H → Sq K k H a xs)
    (hs : ∀ i x H, xs[i]? = some x → Pv i H → g x (wipe σ vs) H fun σ2 H2 => wipe σ2 vs = wipe σ vs ∧ tt σ2 H2 fun b H3 =>
      if b = true then te σ2 H3 fun y H4 => ∃ acc, H4 D = some (.lst acc) ∧ acc.length < sizeLine ∧ Pv (i + 1) (upd H4 D (.lst (acc ++ [y]))) else Pv (i + 1) H3) (hd : ∀ H, Pv xs.length H → Qd H) :
    ∃ W : Nat → Nat → Hp → Prop, (∃ m, W 0 m (upd H1 D (.lst []))) ∧ ∀ i m H, W i m H →
      ((ItS K k a).stop i H ∧ Qd H) ∨ ((ItS K k a).go i H ∧ ∃ Nx : Hp → Prop, (∀ H', Nx H' → ∃ m', m' < m ∧ W (i + 1) m' H') ∧ ∀ x H', (ItS K k a).yld i H x H' → g x (wipe σ vs) H' fun σ2 H2 => wipe σ2 vs = wipe σ vs ∧ tt σ2 H2 fun b H3 =>
        if b = true then te σ2 H3 fun y H4 => ∃ acc, H4 D = some (.lst acc) ∧ acc.length < sizeLine ∧ Nx (upd H4 D (.lst (acc ++ [y]))) else Nx H3) := by
  cases k with
  | true => exact lc_tup Pv h0 hl hs hd
  | false => exact lc_list Pv h0 hl hs hd
theorem lc_enumS {K : PySem.W.Frag} {k : Bool} {a : Addr} {xs : List V} {g : TG} {tt : TT} {te : TE} {vs : List Nat} {σ : L2.St} {H1 : Hp} {D : Addr} {Qd : Hp → Prop} (Pv : Nat → Hp → Prop) (h0 : Pv 0 (upd H1 D (.lst [])))
    (hl : ∀ i H, i ≤ xs.length → Pv i H → Sq K k H a xs)
    (hs : ∀ (i : Nat) (x : V) (T : Addr) H, xs[i]? = some x → Pv i H → H T = none → g (.ref T) (wipe σ vs) (upd H T (.tup [.int (i : Nat), x])) fun σ2 H2 => wipe σ2 vs = wipe σ vs ∧ tt σ2 H2 fun b H3 =>
      if b = true then te σ2 H3 fun y H4 => ∃ acc, H4 D = some (.lst acc) ∧ acc.length < sizeLine ∧ Pv (i + 1) (upd H4 D (.lst (acc ++ [y]))) else Pv (i + 1) H3) (hd : ∀ H, Pv xs.length H → Qd H) :
    ∃ W : Nat → Nat → Hp → Prop, (∃ m, W 0 m (upd H1 D (.lst []))) ∧ ∀ i m H, W i m H →
      ((IteS K k a).stop i H ∧ Qd H) ∨ ((IteS K k a).go i H ∧ ∃ Nx : Hp → Prop, (∀ H', Nx H' → ∃ m', m' < m ∧ W (i + 1) m' H') ∧ ∀ x H', (IteS K k a).yld i H x H' → g x (wipe σ vs) H' fun σ2 H2 => wipe σ2 vs = wipe σ vs ∧ tt σ2 H2 fun b H3 =>
        if b = true then te σ2 H3 fun y H4 => ∃ acc, H4 D = some (.lst acc) ∧ acc.length < sizeLine ∧ Nx (upd H4 D (.lst (acc ++ [y]))) else Nx H3) := by
  refine ⟨fun i m H => m = xs.length - i ∧ i ≤ xs.length ∧ Pv i H, ⟨xs.length, by simp, Nat.zero_le _, h0⟩, ?_⟩
  rintro i m H ⟨rfl, hi, p⟩
  have q := hl i H hi p
  by_cases hlt : i < xs.length
  · refine .inr ⟨⟨xs, xs[i], q, List.getElem?_eq_getElem hlt⟩, Pv (i + 1), fun H' p' => ⟨xs.length - (i + 1), by omega, rfl, hlt, p'⟩, ?_⟩
    rintro _ _ ⟨T, x, rfl, nT, rfl, y⟩
    exact hs i x T _ (y xs q) p nT
  · obtain rfl : i = xs.length := by omega
    exact .inl ⟨⟨xs, q, rfl⟩, hd H p⟩
theorem lc_zipS {K : PySem.W.Frag} {k j : Bool} {a b : Addr} {xs ys : List V} {g : TG} {tt : TT} {te : TE} {vs : List Nat} {σ : L2.St} {H1 : Hp} {D : Addr} {Qd : Hp → Prop} (n : Nat) (hn : n = min xs.length ys.length) (Pv : Nat → Hp → Prop) (h0 : Pv 0 (upd H1 D (.lst [])))
    (hl : ∀ i H, i ≤ n → Pv i H → Sq K k H a xs ∧ Sq K j H b ys)
    (hs : ∀ (i : Nat) (x y : V) (T : Addr) H, xs[i]? = some x → ys[i]? = some y → Pv i H → H T = none → g (.ref T) (wipe σ vs) (upd H T (.tup [x, y])) fun σ2 H2 => wipe σ2 vs = wipe σ vs ∧ tt σ2 H2 fun b H3 =>
      if b = true then te σ2 H3 fun y H4 => ∃ acc, H4 D = some (.lst acc) ∧ acc.length < sizeLine ∧ Pv (i + 1) (upd H4 D (.lst (acc ++ [y]))) else Pv (i + 1) H3) (hd : ∀ H, Pv n H → Qd H) :
    ∃ W : Nat → Nat → Hp → Prop, (∃ m, W 0 m (upd H1 D (.lst []))) ∧ ∀ i m H, W i m H →
      ((ItzS K k j a b).stop i H ∧ Qd H) ∨ ((ItzS K k j a b).go i H ∧ ∃ Nx : Hp → Prop, (∀ H', Nx H' → ∃ m', m' < m ∧ W (i + 1) m' H') ∧ ∀ x H', (ItzS K k j a b).yld i H x H' → g x (wipe σ vs) H' fun σ2 H2 => wipe σ2 vs = wipe σ vs ∧ tt σ2 H2 fun b H3 =>
        if b = true then te σ2 H3 fun y H4 => ∃ acc, H4 D = some (.lst acc) ∧ acc.length < sizeLine ∧ Nx (upd H4 D (.lst (acc ++ [y]))) else Nx H3) := by
  refine ⟨fun i m H => m = n - i ∧ i ≤ n ∧ Pv i H, ⟨n, by simp, Nat.zero_le _, h0⟩, ?_⟩
  rintro i m H ⟨rfl, hi, p⟩
  obtain ⟨q1, q2⟩ := hl i H hi p
  by_cases hlt : i < n
  · have l1 : i < xs.length := by omega
    have l2 : i < ys.length := by omega
    refine .inr ⟨⟨xs, ys, xs[i], ys[i], q1, q2, List.getElem?_eq_getElem l1, List.getElem?_eq_getElem l2⟩, Pv (i + 1), fun H' p' => ⟨n - (i + 1), by omega, rfl, hlt, p'⟩, ?_⟩
    rintro _ _ ⟨T, x, y, rfl, nT, rfl, y1, y2⟩
    exact hs i x y T _ (y1 xs q1) (y2 ys q2) p nT
  · obtain rfl : i = n := by omega
    exact .inl ⟨⟨xs, ys, q1, q2, by omega, by omega, by omega⟩, hd H p⟩

/-! lists of ints at their places -/
def At (k : Bool) (H : Hp) (a : Addr) (p : List Int) : Prop :=
  match k with | true => H a = some (.tup (p.map V.int)) | false => H a = some (.lst (p.map V.int))
theorem At.same {k : Bool} {H H' : Hp} {a : Addr} {p : List Int} (s : Same H H') (h : At k H a p) : At k H' a p := by
  cases k with
  | true => exact s _ _ h
  | false => exact s _ _ h
theorem At.sq {K : PySem.W.Frag} {k : Bool} {H : Hp} {a : Addr} {p : List Int} (h : At k H a p) : Sq K k H a (p.map V.int) := by
  cases k with
  | true => exact SqT.of h
  | false => exact SqL.of h
theorem At.chg {k : Bool} {c : Addr} {H H' : Hp} {a : Addr} {p : List Int} (s : Chg c H H') (n : a ≠ c) (h : At k H a p) : At k H' a p := by
  cases k with
  | true => exact s _ _ n h
  | false => exact s _ _ n h
theorem At.ne {k : Bool} {H : Hp} {a b : Addr} {p : List Int} (h : At k H a p) (n : H b = none) : a ≠ b := by
  cases k with
  | true => exact ne_of_none h n
  | false => exact ne_of_none h n
theorem int_at {p : List Int} {i : Nat} {x : V} (h : (p.map V.int)[i]? = some x) : x = .int (co p i) ∧ i < p.length := by
  rw [List.getElem?_map] at h
  cases e : p[i]? with
  | none => rw [e] at h; cases h
  | some z =>
    rw [e] at h
    cases h
    have l := (List.getElem?_eq_some_iff.mp e).1
    refine ⟨?_, l⟩
    rw [co_at l, (List.getElem?_eq_some_iff.mp e).2]
theorem at_int {p : List Int} {i : Nat} (l : i < p.length) : (p.map V.int)[i]? = some (.int (co p i)) := by
  rw [List.getElem?_map, List.getElem?_eq_getElem l, co_at l]; rfl
theorem atI_int {p : List Int} {i : Nat} (l : i < p.length) : atI (p.map V.int) (i : Int) = some (.int (co p i)) := atI_nat (at_int l)
theorem atI_end {p : List Int} (h : p ≠ []) : atI (p.map V.int) (-1) = some (.int (co p (p.length - 1))) := by
  have l : 0 < p.length := List.length_pos_iff.mpr h
  have e : p = p.dropLast ++ [p.getLast h] := (List.dropLast_concat_getLast h).symm
  have z := atI_last (p.dropLast.map V.int) (.int (p.getLast h))
  have e2 : p.map V.int = p.dropLast.map V.int ++ [V.int (p.getLast h)] := by
    conv => lhs; rw [e]
    rw [List.map_append]; rfl
  rw [e2, z, co_at (by omega), List.getLast_eq_getElem]
theorem cut_to {xs : List V} {n : Nat} : cutV xs none (some (n : Int)) = xs.take n := by
  unfold cutV
  rw [HT.sIx_none, HT.sIx_nat, List.drop_zero, Nat.sub_zero]
  by_cases h : n ≤ xs.length
  · rw [Nat.min_eq_left h]
  · rw [Nat.min_eq_right (by omega), List.take_length, List.take_of_length_le (by omega)]
theorem cut_from {xs : List V} {n : Nat} : cutV xs (some (n : Int)) none = xs.drop n := by
  unfold cutV
  rw [HT.sIx_none, HT.sIx_nat]
  by_cases h : n ≤ xs.length
  · rw [Nat.min_eq_left h, List.take_of_length_le (by rw [List.length_drop]; omega)]
  · rw [Nat.min_eq_right (by omega), List.drop_length, List.drop_eq_nil_of_le (by omega), List.take_nil]
theorem set_int {p : List Int} {i : Nat} (l : i < p.length) (z : Int) : ixN (p.map V.int).length (i : Int) = some i ∧ (p.map V.int).set i (.int z) = (p.set i z).map V.int := by
  refine ⟨?_, by rw [List.map_set]⟩
  unfold ixN
  rw [if_pos (by omega), if_pos (by rw [List.length_map]; omega)]; rfl
theorem co_set {p : List Int} {i : Nat} (l : i < p.length) (z : Int) (t : Nat) : co (p.set i z) t = if t = i then z else co p t := by
  unfold co
  rw [List.getD_eq_getElem?_getD, List.getElem?_set]
  by_cases e : t = i
  · subst e; simp [l]
  · rw [if_neg (fun z => e z.symm), if_neg e]; rfl
/-- numbers of any use here -/
@[irreducible] def big : Nat := 60000000
theorem big_two : big + big ≤ 134217728 := by unfold big; decide
theorem big_le {n : Nat} (h : n ≤ 60000000) : n ≤ big := by unfold big; exact h
theorem mulx_big {i j : Int} (hi : i.natAbs < 2 ^ big) (hj : j.natAbs < 2 ^ big) : CMulX i j := mulx_ok hi hj big_two
theorem bd_big {k : Nat} {p : List Int} (h : Bd k p) (l : k ≤ 60000000) : Bd big p := h.mono (big_le l)
theorem pow_big {k : Nat} {z : Int} (h : z.natAbs < 2 ^ k) (l : k ≤ 60000000) : z.natAbs < 2 ^ big := Nat.lt_of_lt_of_le h (Nat.pow_le_pow_right (by decide) (big_le l))
theorem int_big {z : Int} (h : z.natAbs ≤ 1000000000000) : z.natAbs < 2 ^ big := pow_big (k := 40) (Nat.lt_of_le_of_lt h (by decide)) (by decide)
/-- a line -/
structure Ln (k : Bool) (H : Hp) (a : Addr) (p : List Int) : Prop where
  at_ : At k H a p
  cn : Cn p
  len : p.length ≤ 13
  bd : Bd 100000 p
theorem Ln.same {k : Bool} {H H' : Hp} {a : Addr} {p : List Int} (s : Same H H') (h : Ln k H a p) : Ln k H' a p := ⟨h.at_.same s, h.cn, h.len, h.bd⟩
theorem Ln.chg {k : Bool} {c : Addr} {H H' : Hp} {a : Addr} {p : List Int} (s : Chg c H H') (n : a ≠ c) (h : Ln k H a p) : Ln k H' a p := ⟨h.at_.chg s n, h.cn, h.len, h.bd⟩
theorem lineB_ints {p : List Int} (c : Cn p) (l : p.length ≤ 13) : lineB (p.map V.int) = true := by
  unfold lineB
  rw [List.length_map, decide_eq_true l, show (p.map V.int).all isI = true from List.all_eq_true.mpr fun x hx => by obtain ⟨z, _, rfl⟩ := List.mem_map.mp hx; rfl]
  by_cases h : p = []
  · subst h; rfl
  rw [List.getLast?_map, List.getLast?_eq_some_getLast h]
  have z := c _ (List.getLast?_eq_some_getLast h)
  have : decide (some (V.int (p.getLast h)) = some (V.int 0)) = false := decide_eq_false fun e => z (by injection e with e; injection e)
  simp only [Option.map_some, this]
  simp
theorem Ln.val {k : Bool} {H : Hp} {a : Addr} {p : List Int} (h : Ln k H a p) : Val H (.ref a) true := by
  have e := lineB_ints h.cn h.len
  have kd : ∀ x ∈ p.map V.int, ∃ k, Kd H x k := fun x hx => by obtain ⟨z, _, rfl⟩ := List.mem_map.mp hx; exact ⟨_, .int z⟩
  have l : (p.map V.int).length ≤ 1000 := by rw [List.length_map]; have := h.len; omega
  cases k with
  | true => have v := Val.tup h.at_ kd l; rwa [e] at v
  | false => have v := Val.lst h.at_ kd l; rwa [e] at v
/-- a new list of ints -/
abbrev NewL (H : Hp) (r : List Int) (Q : VK) : Prop := ∀ H' a, Same H H' → H a = none → H' a = some (.lst (r.map V.int)) → Q (.ref a) H'
theorem dp_ints {K : PySem.W.Frag} {H : Hp} : ∀ p : List Int, DpAll K H (p.map V.int) (p.map PyData.int)
  | [] => .nil
  | a :: p => .cons (.int a) (dp_ints p)
theorem At.dp {K : PySem.W.Frag} {H : Hp} {a : Addr} {p : List Int} (h : At false H a p) : Dp K H (.ref a) (.list (p.map PyData.int)) := .lst (SqL.of h) (dp_ints p)
theorem eqv_ints : ∀ p q : List Int, PyData.eqvAll (p.map PyData.int) (q.map PyData.int) = decide (p = q)
  | [], [] => by simp [PyData.eqvAll]
  | [], _ :: _ => by simp [PyData.eqvAll]
  | _ :: _, [] => by simp [PyData.eqvAll]
  | a :: p, b :: q => by
    have ih := eqv_ints p q
    simp only [List.map_cons, PyData.eqvAll, PyData.eqv, ih]
    by_cases e : a = b
    · subst e; simp
    · have : (a == b) = false := by simpa using e
      rw [this]; simp [e]
theorem shaped_ints (p : List Int) : SeqAt.shaped (.list (p.map PyData.int)) = true := by
  have h1 : ∀ p : List Int, PyData.canLayAll0 (p.map PyData.int) = true := by
    intro p
    induction p with
    | nil => simp [PyData.canLayAll0]
    | cons a p ih => simp [PyData.canLayAll0, PyData.canLay0, ih]
  have h2 : ∀ p : List Int, PyData.depthAll (p.map PyData.int) ≤ 1 := by
    intro p
    induction p with
    | nil => simp [PyData.depthAll]
    | cons a p ih => simp only [List.map_cons, PyData.depthAll, PyData.depth]; omega
  unfold SeqAt.shaped
  rw [show PyData.canLay0 (.list (p.map PyData.int)) = true by simpa [PyData.canLay0] using h1 p]
  have := h2 p
  have h3 : PyData.depth (.list (p.map PyData.int)) ≤ 64 := by simp only [PyData.depth]; omega
  rw [Bool.true_and]
  exact decide_eq_true h3
/-- two lists of ints held against each other -/
theorem neL {K : PySem.W.Frag} {H : Hp} {a b : Addr} {p q : List Int} {Q : VK} (h : At false H a p) (g : At false H b q) (e : Q (.bl (!decide (p = q))) H) : rNeD K (.ref a) (.ref b) H Q :=
  ⟨_, _, h.dp, g.dp, shaped_ints p, shaped_ints q, by rw [show PyData.eqv (.list (p.map PyData.int)) (.list (q.map PyData.int)) = decide (p = q) by simp only [PyData.eqv]; exact eqv_ints p q]; exact e⟩
theorem eqL {K : PySem.W.Frag} {H : Hp} {a b : Addr} {p q : List Int} {Q : VK} (h : At false H a p) (g : At false H b q) (e : Q (.bl (decide (p = q))) H) : rEqD K (.ref a) (.ref b) H Q :=
  ⟨_, _, h.dp, g.dp, shaped_ints p, shaped_ints q, by rw [show PyData.eqv (.list (p.map PyData.int)) (.list (q.map PyData.int)) = decide (p = q) by simp only [PyData.eqv]; exact eqv_ints p q]; exact e⟩
/-- xs[i] ahead of xs[i] += .. -/
def rGetL (K : PySem.W.Frag) : V → V → Hp → VK → Prop := fun x y H Q => ∃ (p : Addr) (xs : List V) (i : Nat) (v : V), x = .ref p ∧ y = .int (i : Nat) ∧ SqL K H p xs ∧ xs[i]? = some v ∧ Q v H
theorem get_L {X : Cx} : PGet X (rGetL X.K) := by
  intro pins s σ H o i ov iv Q I ro ri ⟨p, xs, i, v, e1, e2, hq, he, q⟩
  subst e1 e2
  cases ro
  obtain ⟨t, rfl⟩ := ri
  obtain ⟨its, r, pl, hz⟩ := I.list hq
  obtain ⟨w, ew, rw'⟩ := r.get he
  have l := (List.getElem?_eq_some_iff.mp he).1
  have hn := line63
  have hl := r.length
  exact wpAny_getItem_list pl.isList (by omega) (by omega) (by simpa using ew) ⟨v, H, I, rw', q⟩
theorem ix_listK {X : Cx} {K : PySem.W.Frag} (h : X.K = K) : IxR X (rIxL K) := by subst h; exact ix_list
end Kr
/-! What the program's sums of powers promise. -/
namespace Kr
open PySem PySem.Spec
open PyProof.Rows L2

def spTrim : Sp := fun vs H Q _ => ∃ (a : Addr) (p : List Int), vs = [.ref a] ∧ At false H a p ∧ p.length ≤ 1000 ∧ NewL H (trim p) Q
def spScaled : Sp := fun vs H Q _ => ∃ (k : Bool) (a : Addr) (p : List Int) (f : Int), vs = [.ref a, .int f] ∧ At k H a p ∧ p.length ≤ 1000 ∧
  Bd big p ∧ f.natAbs < 2 ^ big ∧ NewL H (trim (sclF f p)) Q
def spPSum : Sp := fun vs H Q _ => ∃ (k j : Bool) (a b : Addr) (p q : List Int), vs = [.ref a, .ref b] ∧ At k H a p ∧ At j H b q ∧
  p.length ≤ 500 ∧ q.length ≤ 500 ∧ NewL H (trim (addF p q)) Q
def spPLess : Sp := fun vs H Q _ => ∃ (k j : Bool) (a b : Addr) (p q : List Int), vs = [.ref a, .ref b] ∧ At k H a p ∧ At j H b q ∧
  p.length ≤ 500 ∧ q.length ≤ 500 ∧ Bd big q ∧ NewL H (trim (addF p (sclF (-1) q))) Q
def spPTimes : Sp := fun vs H Q _ => ∃ (k j : Bool) (a b : Addr) (p q : List Int), vs = [.ref a, .ref b] ∧ At k H a p ∧ At j H b q ∧
  p.length ≤ 500 ∧ q.length ≤ 500 ∧ Bd big p ∧ Bd big q ∧ NewL H (mulF p q) Q
def spPValue : Sp := fun vs H Q _ => ∃ (k : Bool) (a : Addr) (p : List Int) (x : Int), vs = [.ref a, .int x] ∧ At k H a p ∧ p.length ≤ 1000 ∧
  Bd 1000000 p ∧ x.natAbs < 2 ^ 1000 ∧ ∀ H', Same H H' → Q (.int (ev x p)) H'
def spPSlope : Sp := fun vs H Q _ => ∃ (k : Bool) (a : Addr) (p : List Int), vs = [.ref a] ∧ At k H a p ∧ p.length ≤ 1000 ∧ Bd big p ∧ NewL H (slF p) Q
def spContent : Sp := fun vs H Q _ => ∃ (k : Bool) (a : Addr) (p : List Int), vs = [.ref a] ∧ At k H a p ∧ p.length ≤ 1000 ∧
  ∀ H', Same H H' → Q (.int (cnt p : Nat)) H'
def spPPlain : Sp := fun vs H Q _ => ∃ (a : Addr) (p : List Int), vs = [.ref a] ∧ At false H a p ∧ p.length ≤ 1000 ∧ Cn p ∧ cnt p < 1073741824 ∧ NewL H (plF p) Q
def spCheck : Sp := fun vs H Q _ => ∃ v : V, vs = [v] ∧ Val H v true ∧ ∀ H', Same H H' → Q .non H'
def spChecks : Sp := fun vs H Q _ => ∃ v u : V, vs = [v, u] ∧ Val H v true ∧ Val H u true ∧ ∀ H', Same H H' → Q .non H'
def spDegree : Sp := fun vs H Q _ => ∃ (k : Bool) (a : Addr) (p : List Int), vs = [.ref a] ∧ Ln k H a p ∧ ∀ H', Same H H' → Q (.int ((p.length : Int) - 1)) H'
def spLnV : Sp := fun vs H Q _ => ∃ (k : Bool) (a : Addr) (p : List Int) (x : Int), vs = [.ref a, .int x] ∧ Ln k H a p ∧ x.natAbs < 2 ^ 1000 ∧
  ∀ H', Same H H' → Q (.int (ev x p)) H'
def spLnS : Sp := fun vs H Q _ => ∃ (k : Bool) (a : Addr) (p : List Int), vs = [.ref a] ∧ Ln k H a p ∧ NewL H (slF p) Q
def spLnP : Sp := fun vs H Q _ => ∃ (a : Addr) (p : List Int), vs = [.ref a] ∧ Ln false H a p ∧ cnt p < 1073741824 ∧ NewL H (plF p) Q
def spLn2 (f : List Int → List Int → List Int) (c : List Int → List Int → Prop) : Sp := fun vs H Q _ =>
  ∃ (k j : Bool) (a b : Addr) (p q : List Int), vs = [.ref a, .ref b] ∧ Ln k H a p ∧ Ln j H b q ∧ c p q ∧ NewL H (f p q) Q
/-- the law's own ones -/
def spLSum : Sp := fun vs H Q _ => ∃ (a b : Addr) (p q : List Int) (f : Int), vs = [.ref a, .ref b, .int f] ∧ At false H a p ∧ At false H b q ∧
  p.length ≤ 500 ∧ q.length ≤ 500 ∧ Bd big q ∧ f.natAbs < 2 ^ big ∧ NewL H (trim (addF p (sclF f q))) Q
def spLTimes : Sp := fun vs H Q _ => ∃ (a b : Addr) (p q : List Int), vs = [.ref a, .ref b] ∧ At false H a p ∧ At false H b q ∧
  p.length ≤ 500 ∧ q.length ≤ 500 ∧ Bd big p ∧ Bd big q ∧ NewL H (trim (mulF p q)) Q
def spLValue : Sp := fun vs H Q _ => ∃ (a : Addr) (p : List Int) (x : Int), vs = [.ref a, .int x] ∧ At false H a p ∧ p.length ≤ 1000 ∧
  Bd 1000000 p ∧ x.natAbs < 2 ^ 1000 ∧ ∀ H', Same H H' → Q (.int (ev x p)) H'
def spLSlope : Sp := fun vs H Q _ => ∃ (a : Addr) (p : List Int), vs = [.ref a] ∧ At false H a p ∧ p.length ≤ 1000 ∧ Bd big p ∧ NewL H (slF p) Q
def spLGreat : Sp := fun vs H Q _ => ∃ (a : Addr) (p : List Int), vs = [.ref a] ∧ At false H a p ∧ p.length ≤ 1000 ∧ (∀ z ∈ p, z.natAbs < 1073741824) ∧
  Q (.int (cnt p : Nat)) H
def spLPlain : Sp := fun vs H Q _ => ∃ (a : Addr) (p : List Int), vs = [.ref a] ∧ At false H a p ∧ p.length ≤ 1000 ∧ Cn p ∧ (∀ z ∈ p, z.natAbs < 1073741824) ∧
  NewL H (plF p) Q

def spDrawn : Sp := fun vs H Q _ => ∃ a : Addr, vs = [.ref a] ∧ PotAt H a ∧ ∀ (H' : Hp) (r : Addr) (p : List Int), Chg a H H' → PotAt H' a → H r = none → r ≠ a →
  At false H' r p → p.length ≤ 7 → (∀ z ∈ p, z.natAbs ≤ 12) → Cn p → Q (.ref r) H'
theorem Same.ov {H H' : Hp} {D : Addr} {o : HO} (n : H D = none) (s : Same H H') : Same H (upd H' D o) := by
  intro b x e
  rw [upd_ne (ne_of_none e n)]
  exact s _ _ e
theorem NewL.go {H H1 : Hp} {r : List Int} {Q : VK} (q : NewL H r Q) (s : Same H H1) : NewL H1 r Q := fun H' a s1 n e => q H' a (Same.trans s s1) (s.free n) e
theorem NewL.at_ {H H' : Hp} {r : List Int} {Q : VK} {a : Addr} (q : NewL H r Q) (s : Same H H') (n : H a = none) (e : H' a = some (.lst (r.map V.int))) : Q (.ref a) H' := q H' a s n e

/-! what the loops come to -/
theorem co_take {p : List Int} {n i : Nat} : co (p.take n) i = if i < n then co p i else 0 := by
  unfold co
  rw [List.getD_eq_getElem?_getD, List.getD_eq_getElem?_getD, List.getElem?_take]
  split <;> rfl
theorem trim_take {p : List Int} {n : Nat} (hn : n ≤ p.length) (h : ∀ i, n ≤ i → co p i = 0) (e : n = 0 ∨ co p (n - 1) ≠ 0) : trim p = p.take n := by
  refine co_ext (cn_trim _) (cn_of fun h0 => ?_) fun i => ?_
  · have l : (p.take n).length = n := by rw [List.length_take]; omega
    have n0 : n ≠ 0 := by intro z; subst z; exact h0 rfl
    rw [l, co_take, if_pos (by omega)]
    exact e.resolve_left n0
  · rw [co_trim, co_take]
    split
    · rfl
    · exact h i (by omega)
theorem cnt_snoc (p : List Int) (z : Int) : cnt (p ++ [z]) = Nat.gcd (cnt p) z.natAbs := by
  unfold cnt
  rw [List.foldr_append]
  simp only [List.foldr_cons, List.foldr_nil, Nat.gcd_zero_right]
  induction p with
  | nil => simp
  | cons a p ih => simp only [List.foldr_cons, ih, Nat.gcd_assoc]
theorem take_co {p : List Int} {i : Nat} (l : i < p.length) : p.take (i + 1) = p.take i ++ [co p i] := by
  rw [List.take_add_one, List.getElem?_eq_getElem l, co_at l]; rfl
theorem cv_delta (i : Nat) (c : Int) : ∀ (t : Nat) (g : Fn), cv (fun n => if n = i then c else 0) g t = if i ≤ t then c * g (t - i) else 0 := by
  induction i with
  | zero =>
    intro t g
    have z : (fun n => if n + 1 = 0 then c else 0) = fun _ : Nat => (0 : Int) := by funext n; rw [if_neg (by omega)]
    cases t with
    | zero => simp [cv]
    | succ t => rw [cv, z, cv_zero]; simp
  | succ i ih =>
    intro t g
    have z : (fun n => if n + 1 = i + 1 then c else 0) = fun n : Nat => if n = i then c else (0 : Int) := by
      funext n
      by_cases e : n = i
      · rw [if_pos e, if_pos (by omega)]
      · rw [if_neg e, if_neg (by omega)]
    cases t with
    | zero => simp [cv]
    | succ t =>
      rw [cv, z, ih t g]
      simp only [show (0 = i + 1) = False by simp, if_false, Int.zero_mul, Int.zero_add, Nat.add_le_add_iff_right, Nat.add_sub_add_right]
theorem cv_take {p : List Int} {i : Nat} (g : Fn) (t : Nat) (l : i < p.length) : cv (co (p.take (i + 1))) g t = cv (co (p.take i)) g t + if i ≤ t then co p i * g (t - i) else 0 := by
  have e : co (p.take (i + 1)) = fun n => co (p.take i) n + if n = i then co p i else 0 := by
    funext n
    rw [co_take, co_take]
    by_cases h1 : n < i
    · rw [if_pos (by omega), if_pos h1, if_neg (by omega), Int.add_zero]
    · by_cases h2 : n = i
      · rw [if_pos (by omega), if_neg h1, if_pos h2, h2, Int.zero_add]
      · rw [if_neg (by omega), if_neg h1, if_neg h2, Int.add_zero]
  rw [e, cv_add_l, cv_delta]
theorem list_co {p q : List Int} (l : p.length = q.length) (h : ∀ i, i < p.length → co p i = co q i) : p = q :=
  List.ext_getElem l fun i h1 h2 => by have := h i h1; rwa [co_at h1, co_at h2] at this
theorem mul_tab {p q r : List Int} (hp : p ≠ []) (hq : q ≠ []) (l : r.length = p.length + q.length - 1) (h : ∀ t, t < r.length → co r t = cv (co p) (co q) t) : r = mulF p q :=
  list_co (l.trans (mulF_length hp hq).symm) fun i hi => by rw [h i hi, co_mul]
theorem co_rep (n i : Nat) : co (List.replicate n 0) i = 0 := by
  unfold co
  rw [List.getD_eq_getElem?_getD, List.getElem?_replicate]
  split <;> rfl
theorem rep0 (n : Nat) : (List.replicate n [V.int 0]).flatten = (List.replicate n (0 : Int)).map V.int := by
  induction n with
  | zero => rfl
  | succ n ih => rw [List.replicate_succ, List.flatten_cons, ih, List.replicate_succ]; rfl
/-- within a row of the product -/
def row (p q : List Int) (i j t : Nat) : Int := cv (co (p.take i)) (co q) t + if i ≤ t ∧ t < i + j then co p i * co q (t - i) else 0
theorem row_0 (p q : List Int) (i t : Nat) : row p q i 0 t = cv (co (p.take i)) (co q) t := by
  unfold row; rw [if_neg (by omega), Int.add_zero]
theorem row_s {p q : List Int} {i j t : Nat} : row p q i (j + 1) t = if t = i + j then row p q i j t + co p i * co q j else row p q i j t := by
  unfold row
  by_cases e : t = i + j
  · rw [if_pos e, if_pos (by omega), if_neg (by omega), show t - i = j by omega]; omega
  · rw [if_neg e]
    by_cases h : i ≤ t ∧ t < i + j
    · rw [if_pos h, if_pos (by omega)]
    · rw [if_neg h, if_neg (by omega)]
theorem row_end {p q : List Int} {i t : Nat} (l : i < p.length) : row p q i q.length t = cv (co (p.take (i + 1))) (co q) t := by
  rw [cv_take _ _ l]
  unfold row
  by_cases h : i ≤ t
  · rw [if_pos h]
    by_cases h2 : t < i + q.length
    · rw [if_pos ⟨h, h2⟩]
    · rw [if_neg (by omega), co_big (p := q) (by omega), Int.mul_zero]
  · rw [if_neg h, if_neg (by omega)]
theorem ev_rev (x : Int) (p : List Int) (i : Nat) (z : Int) (h : p.reverse[i]? = some z) :
    ev x (p.reverse.take (i + 1)).reverse = ev x (p.reverse.take i).reverse * x + z := by
  rw [List.take_add_one, h, List.reverse_append]
  show z + x * ev x (p.reverse.take i).reverse = _
  rw [Int.mul_comm, Int.add_comm]
theorem bd_sub {k : Nat} {p q : List Int} (h : Bd k p) (s : ∀ z ∈ q, z ∈ p) : Bd k q := fun z hz => h z (s z hz)
theorem ev_part {p : List Int} {x : Int} (i : Nat) (hl : p.length ≤ 1000) (h : Bd 1000000 p) (hx : x.natAbs < 2 ^ 1000) : (ev x (p.reverse.take i).reverse).natAbs < 2 ^ big := by
  have b : Bd 1000000 (p.reverse.take i).reverse := bd_sub h fun z hz => List.mem_reverse.mp (List.mem_of_mem_take (List.mem_reverse.mp hz))
  have l : (p.reverse.take i).reverse.length ≤ 1000 := by rw [List.length_reverse, List.length_take, List.length_reverse]; omega
  refine pow_big (ev_bd x hx _ b) ?_
  have := Nat.mul_le_mul_right (1000 + 1) l
  omega
theorem sl_row {p : List Int} {i : Nat} : (List.range (i + 1 - 1)).map (dv (co p)) = (if 0 < i then ((List.range (i - 1)).map (dv (co p))) ++ [(i : Int) * co p i] else (List.range (i - 1)).map (dv (co p))) := by
  cases i with
  | zero => rfl
  | succ i =>
    rw [if_pos (Nat.succ_pos i), Nat.add_sub_cancel, Nat.add_sub_cancel, List.range_succ, List.map_append]
    rfl
theorem co_app {p q : List Int} {i : Nat} : co (p ++ q) i = if i < p.length then co p i else co q (i - p.length) := by
  unfold co
  rw [List.getD_eq_getElem?_getD, List.getD_eq_getElem?_getD, List.getD_eq_getElem?_getD, List.getElem?_append]
  split <;> rfl
theorem co_pad (p : List Int) (n i : Nat) : co (p ++ List.replicate n 0) i = co p i := by
  rw [co_app]
  split
  · rfl
  · rw [co_rep, co_big (by omega)]
theorem co_zip {p q : List Int} (g : Int → Int → Int) (g0 : g 0 0 = 0) (l : p.length = q.length) (i : Nat) : co (List.zipWith g p q) i = g (co p i) (co q i) := by
  by_cases h : i < p.length
  · rw [co_at (by rw [List.length_zipWith]; omega), List.getElem_zipWith, co_at h, co_at (by omega)]
  · rw [co_big (by rw [List.length_zipWith]; omega), co_big (by omega), co_big (by omega), g0]
theorem pad_sum {p q : List Int} (f : Int) {n m : Nat} (l : p.length + n = q.length + m) :
    trim (List.zipWith (fun x y => x + f * y) (p ++ List.replicate n 0) (q ++ List.replicate m 0)) = trim (addF p (sclF f q)) := trim_ext fun i => by
  rw [co_zip _ (by simp) (by simpa using l), co_pad, co_pad, co_add, co_scl]
theorem trim_tab {p q r : List Int} (l : p.length + q.length ≤ r.length) (h : ∀ t, t < r.length → co r t = cv (co p) (co q) t) : trim r = trim (mulF p q) := trim_ext fun i => by
  by_cases hi : i < r.length
  · rw [h i hi, co_mul]
  · rw [co_big (by omega), co_big (Nat.le_trans (mulF_le p q) (by omega))]
theorem drop_last {p : List Int} (h : p ≠ []) : (p.map V.int)[(p.map V.int).length - 1]? = some (.int (co p (p.length - 1))) ∧ (p.map V.int).dropLast = (p.take (p.length - 1)).map V.int := by
  have l : 0 < p.length := List.length_pos_iff.mpr h
  refine ⟨by rw [List.length_map]; exact at_int (by omega), ?_⟩
  rw [List.dropLast_eq_take, List.length_map, List.map_take]
/-- one step of the greatest common divisor -/
theorem euclid {x y : Nat} (h : y ≠ 0) : ((x : Int) - (x : Int).fdiv y * y) = ((x % y : Nat) : Int) ∧ (x : Int).fdiv y = ((x / y : Nat) : Int) ∧ Nat.gcd y (x % y) = Nat.gcd x y := by
  have e : (x : Int).fdiv y = ((x / y : Nat) : Int) := by
    rw [Int.fdiv_eq_ediv_of_nonneg _ (by omega)]; rfl
  refine ⟨?_, e, ?_⟩
  · rw [e]
    have h2 := Nat.div_add_mod x y
    have h3 : ((y * (x / y) + x % y : Nat) : Int) = x := by rw [h2]
    rw [Int.natCast_add, Int.natCast_mul] at h3
    rw [Int.mul_comm]; omega
  · rw [Nat.gcd_comm y, ← Nat.gcd_rec, Nat.gcd_comm]
theorem Chg.ov {a D : Addr} {H H' : Hp} {o : HO} (n : H D = none) (s : Chg a H H') : Chg a H (upd H' D o) := by
  intro b x nb e
  rw [upd_ne (ne_of_none e n)]
  exact s _ _ nb e
theorem Chg.free {a D : Addr} {H H' : Hp} (s : Chg a H H') (na : D ≠ a) (n : H' D = none) : H D = none := by
  cases e : H D with
  | none => rfl
  | some o => have := s _ _ na e; rw [n] at this; cases this
/-- a part of a law that holds -/
def spHolds : Sp := fun vs H Q _ => ∃ a : Addr, vs = [.ref a] ∧ PotAt H a ∧
  ∀ H', Chg a H H' → PotAt H' a → Q (.bl true) H'
/-- a drawn line -/
structure Sm (p : List Int) : Prop where
  cn : Cn p
  len : p.length ≤ 7
  sm : ∀ z ∈ p, z.natAbs ≤ 12
theorem Sm.bd {p : List Int} (s : Sm p) : Bd 4 p := fun z hz => Nat.lt_of_le_of_lt (s.sm z hz) (by decide)
theorem Sm.ln {k : Bool} {H : Hp} {a : Addr} {p : List Int} (s : Sm p) (h : At k H a p) : Ln k H a p := ⟨h, s.cn, by have := s.len; omega, s.bd.mono (by decide)⟩
theorem scl_1 (p : List Int) : sclF 1 p = p := by
  unfold sclF
  exact (List.map_congr_left fun z _ => Int.one_mul z).trans (List.map_id p)
def dOf (k : Bool) (p : List Int) : PyData :=
  match k with | true => .tuple (p.map PyData.int) | false => .list (p.map PyData.int)
theorem At.d {K : PySem.W.Frag} {k : Bool} {H : Hp} {a : Addr} {p : List Int} (h : At k H a p) : Dp K H (.ref a) (dOf k p) := by
  cases k with
  | true => exact .tup (SqT.of h) (dp_ints p)
  | false => exact .lst (SqL.of h) (dp_ints p)
theorem ints_all {p : List Int} (h : ∀ z ∈ p, z.natAbs ≤ 1000000000) : PyData.showableAll (p.map PyData.int) = true ∧ PyData.hasDictAll (p.map PyData.int) = false ∧
    PyData.depthAll (p.map PyData.int) ≤ 1 ∧ PyData.leavesShortAll 13 (p.map PyData.int) = true ∧ PyData.bulkAll (p.map PyData.int) ≤ 101 * p.length := by
  induction p with
  | nil => exact ⟨by simp [PyData.showableAll], by simp [PyData.hasDictAll], by simp [PyData.depthAll], by simp [PyData.leavesShortAll], by simp [PyData.bulkAll]⟩
  | cons a p ih =>
    obtain ⟨h1, h2, h3, h4, h5⟩ := ih fun z hz => h z (List.mem_cons_of_mem _ hz)
    have ha := h a List.mem_cons_self
    have hs : PyData.showable (.int a) = true := by simpa [PyData.showable] using log2_small ha
    have hL : PyData.leavesShort 13 (.int a) = true := by simpa only [PyData.leavesShort, decide_eq_true_eq] using PyData.shown_int_le2 (by omega) (by omega)
    refine ⟨by simp only [List.map_cons, PyData.showableAll, hs, h1]; rfl, by simp only [List.map_cons, PyData.hasDictAll, h2, PyData.hasDict]; rfl, ?_, by simp only [List.map_cons, PyData.leavesShortAll, hL, h4]; rfl, ?_⟩
    · simp only [List.map_cons, PyData.depthAll, PyData.depth]; omega
    · simp only [List.map_cons, PyData.bulkAll, PyData.bulk, List.length_cons]; omega
theorem dOf_ok {k : Bool} {p : List Int} (h : ∀ z ∈ p, z.natAbs ≤ 1000000000) : PyData.showable (dOf k p) = true ∧ PyData.hasDict (dOf k p) = false ∧
    PyData.depth (dOf k p) ≤ 2 ∧ PyData.leavesShort 13 (dOf k p) = true ∧ PyData.bulk (dOf k p) ≤ 101 * p.length + 100 := by
  obtain ⟨h1, h2, h3, h4, h5⟩ := ints_all h
  cases k with
  | true => exact ⟨by simpa [dOf, PyData.showable] using h1, by simpa [dOf, PyData.hasDict] using h2, by simp only [dOf, PyData.depth]; omega, by simpa [dOf, PyData.leavesShort] using h4, by simp only [dOf, PyData.bulk]; omega⟩
  | false => exact ⟨by simpa [dOf, PyData.showable] using h1, by simpa [dOf, PyData.hasDict] using h2, by simp only [dOf, PyData.depth]; omega, by simpa [dOf, PyData.leavesShort] using h4, by simp only [dOf, PyData.bulk]; omega⟩
/-- two lines in a list, shown -/
theorem sh_two {K : PySem.W.Frag} {k j : Bool} {H : Hp} {u a b : Addr} {p q : List Int} (e : H u = some (.lst [.ref a, .ref b])) (ha : At k H a p) (hb : At j H b q)
    (hp : ∀ z ∈ p, z.natAbs ≤ 1000000000) (hq : ∀ z ∈ q, z.natAbs ≤ 1000000000) (lp : p.length ≤ 1000) (lq : q.length ≤ 1000) : Sh K H (.ref u) (PyData.shown (.list [dOf k p, dOf j q])) := by
  obtain ⟨a1, a2, a3, a4, a5⟩ := dOf_ok (k := k) hp
  obtain ⟨b1, b2, b3, b4, b5⟩ := dOf_ok (k := j) hq
  refine .dat (d := .list [dOf k p, dOf j q]) (.lst (SqL.of e) (.cons ha.d (.cons hb.d .nil))) (by simp [PyData.showable, PyData.showableAll, a1, b1]) (by simp [PyData.hasDict, PyData.hasDictAll, a2, b2]) (by simp only [PyData.depth, PyData.depthAll]; omega) ?_
  exact PyData.shown_fits_bulk (B := 13) (by decide) (by decide) (by simp [PyData.leavesShort, PyData.leavesShortAll, a4, b4]) (by simp only [PyData.bulk, PyData.bulkAll]; rw [pow20]; omega)
/-- tuple(x) or list(x) -/
theorem ite_seq {K : PySem.W.Frag} {c : Bool} {P : V → Hp → Prop} {σ : L2.St} {H1 : Hp} {b : Addr} {p : List Int} {i : Nat} (hσ : σ[i]? = some (some (.ref b))) (hb : At false H1 b p)
    (h : ∀ (k : Bool) (x : Addr) (H2 : Hp), Same H1 H2 → H1 x = none → At k H2 x p → P (.ref x) H2) :
    if c = true then tCB (fun xs H Q => ∃ p ys, xs = [.ref p] ∧ ((SqL K H p ys ∧ ∀ l, H l = none → Q (.ref l) (upd H l (.tup ys))) ∨ (SqT K H p ys ∧ Q (.ref p) H))) (tCons (tVar i) tNil) σ H1 P
    else tCB (fun xs H Q => ∃ p ys, xs = [.ref p] ∧ (SqL K H p ys ∨ SqT K H p ys) ∧ ∀ l, H l = none → Q (.ref l) (upd H l (.lst ys))) (tCons (tVar i) tNil) σ H1 P := by
  cases c with
  | true => exact ifT rfl ⟨_, hσ, b, _, rfl, .inl ⟨SqL.of hb, fun l nl => h true l _ (Same.put nl) nl upd_same⟩⟩
  | false => exact ifF rfl ⟨_, hσ, b, _, rfl, .inl (SqL.of hb), fun l nl => h false l _ (Same.put nl) nl upd_same⟩
theorem At.ovn {k : Bool} {H : Hp} {a o : Addr} {p : List Int} {v : HO} (h : At k H a p) (n : a ≠ o) : At k (upd H o v) a p := by
  cases k with
  | true => exact (upd_ne n).trans h
  | false => exact (upd_ne n).trans h
theorem PotAt.ovn {H : Hp} {a o : Addr} {v : HO} (h : PotAt H a) (n : a ≠ o) : PotAt (upd H o v) a := by
  obtain ⟨P, R, e, r⟩ := h
  exact ⟨P, R, (upd_ne n).trans e, r⟩
theorem Sm.cnt {p : List Int} (s : Sm p) : Kr.cnt p ≤ 12 := by
  by_cases h : p = []
  · subst h; decide
  · exact Nat.le_trans (cnt_le (List.getLast_mem h) (s.cn _ (List.getLast?_eq_some_getLast h))) (s.sm _ (List.getLast_mem h))
theorem less_self (p : List Int) : trim (addF p (sclF (-1) p)) = [] := co_ext (cn_trim _) cn_nil fun i => by
  rw [co_trim, co_add, co_scl, co_nil]
  show co p i + -1 * co p i = 0
  omega
theorem sum_nil {p : List Int} (c : Cn p) : trim (addF p []) = p := co_ext (cn_trim _) c fun i => by
  rw [co_trim, co_add, co_nil]
  show co p i + 0 = co p i
  omega
theorem mul_num {p : List Int} (n : Int) : mulF p [n] = sclF n p := by
  rw [mul_one_num]
  split
  · rename_i h; rw [h]; rfl
  · rfl
theorem nil_mul (p : List Int) : mulF [] p = [] := by simp [mulF]
end Kr
/-! Division of polynomials by polynomials, common parts. -/
namespace Kr
theorem length_le_of {p : List Int} (c : Cn p) {k : Nat} (h : ∀ i, k ≤ i → co p i = 0) : p.length ≤ k := by
  apply Nat.le_of_not_lt
  intro l
  have hp : p ≠ [] := by intro e; rw [e] at l; exact absurd l (Nat.not_lt_zero _)
  exact cn_last c hp (h _ (by omega))
theorem nil_of {p : List Int} (c : Cn p) (h : ∀ i, co p i = 0) : p = [] := List.length_eq_zero_iff.mp (Nat.le_zero.mp (length_le_of c fun i _ => h i))
theorem cv_scl_r (c : Int) (i : Nat) (f g : Fn) : cv f (fun n => c * g n) i = c * cv f g i := by
  rw [cv_comm, cv_scl_l, cv_comm]
/-- c times p is Q times q and r, r shorter -/
structure Dq (p q : List Int) (c : Int) (Q r : List Int) : Prop where
  c0 : c ≠ 0
  cr : Cn r
  len : r.length < q.length
  eq : ∀ i, c * co p i = cv (co Q) (co q) i + co r i
theorem dq_uniq {p q Q r Q' r' : List Int} {c c' : Int} (cq : Cn q) (h : Dq p q c Q r) (h' : Dq p q c' Q' r') :
    ∀ i, c' * co r i = c * co r' i ∧ c' * co Q i = c * co Q' i := by
  have eA : ∀ i, co (trim (addF (sclF c' Q) (sclF (-c) Q'))) i = c' * co Q i + -c * co Q' i := fun i => by rw [co_trim, co_add, co_scl, co_scl]
  have eR : ∀ i, co (trim (addF (sclF c r') (sclF (-c') r))) i = c * co r' i + -c' * co r i := fun i => by rw [co_trim, co_add, co_scl, co_scl]
  have key : mulF (trim (addF (sclF c' Q) (sclF (-c) Q'))) q = trim (addF (sclF c r') (sclF (-c') r)) := by
    refine co_ext (cn_mul (cn_trim _) cq) (cn_trim _) fun i => ?_
    have e : co (trim (addF (sclF c' Q) (sclF (-c) Q'))) = fun n => (fun n => c' * co Q n) n + (fun n => -c * co Q' n) n := by funext n; exact eA n
    rw [co_mul, e, cv_add_l, cv_scl_l, cv_scl_l, eR]
    have h1 := h.eq i
    have h2 := h'.eq i
    have h3 : cv (co Q) (co q) i = c * co p i - co r i := by omega
    have h4 : cv (co Q') (co q) i = c' * co p i - co r' i := by omega
    rw [h3, h4]; grind
  have short : (trim (addF (sclF c r') (sclF (-c') r))).length < q.length := by
    have h1 := trim_length (addF (sclF c r') (sclF (-c') r))
    rw [addF_length] at h1
    have h2 := h.len
    have h3 := h'.len
    simp only [sclF, List.length_map] at h1
    simp only [sclF]
    omega
  have hq : q ≠ [] := by intro e; have := h.len; rw [e] at this; exact absurd this (Nat.not_lt_zero _)
  have A0 : trim (addF (sclF c' Q) (sclF (-c) Q')) = [] := by
    apply Classical.byContradiction
    intro hA
    have := mulF_length hA hq
    have l : 0 < (trim (addF (sclF c' Q) (sclF (-c) Q'))).length := List.length_pos_iff.mpr hA
    rw [key] at this
    omega
  have R0 : trim (addF (sclF c r') (sclF (-c') r)) = [] := by
    rw [← key, A0]; simp [mulF]
  intro i
  have e1 := eA i
  have e2 := eR i
  rw [A0, co_nil] at e1
  rw [R0, co_nil] at e2
  dsimp only at e1 e2
  constructor <;> grind
/-- .. with no divisor common to all -/
structure Dv (p q : List Int) (c : Int) (Q r : List Int) : Prop extends Dq p q c Q r where
  pos : 0 < c
  cQ : Cn Q
  prim : ∀ d : Int, d ∣ c → (∀ i, d ∣ co Q i) → (∀ i, d ∣ co r i) → d ∣ 1
theorem coprime_dvd {a b x y : Int} (h : ∀ d : Int, d ∣ a → d ∣ b → d ∣ 1) (e : b * x = a * y) : a ∣ x := by
  have g : Int.gcd a b = 1 := by
    have d1 := h (Int.gcd a b) (Int.gcd_dvd_left ..) (Int.gcd_dvd_right ..)
    have d2 := Int.natCast_dvd_natCast.mp (show ((Int.gcd a b : Nat) : Int) ∣ ((1 : Nat) : Int) from d1)
    exact Nat.dvd_one.mp d2
  have g2 : Nat.Coprime a.natAbs b.natAbs := g
  have d : a.natAbs ∣ b.natAbs * x.natAbs := by
    rw [← Int.natAbs_mul, e, Int.natAbs_mul]; exact Nat.dvd_mul_right _ _
  exact Int.natAbs_dvd_natAbs.mp (g2.dvd_of_dvd_mul_left d)
theorem dv_uniq {p q Q r Q' r' : List Int} {c c' : Int} (cq : Cn q) (h : Dv p q c Q r) (h' : Dv p q c' Q' r') : c = c' ∧ Q = Q' ∧ r = r' := by
  have u := dq_uniq cq h.toDq h'.toDq
  have half : ∀ {Q r Q' r' : List Int} {c c' : Int}, Dv p q c Q r → Dv p q c' Q' r' → (∀ i, c' * co r i = c * co r' i ∧ c' * co Q i = c * co Q' i) → c ∣ c' := by
    intro Q r Q' r' c c' h h' u
    obtain ⟨g, g0, ⟨a, ha⟩, ⟨b, hb⟩, big⟩ : ∃ g : Int, 0 < g ∧ g ∣ c ∧ g ∣ c' ∧ ∀ d, d ∣ c → d ∣ c' → d ∣ g :=
      ⟨Int.gcd c c', by have := Int.gcd_pos_of_ne_zero_left c' (a := c) (by have := h.pos; omega); omega, Int.gcd_dvd_left .., Int.gcd_dvd_right .., fun d x y => Int.dvd_coe_gcd x y⟩
    have gn : g ≠ 0 := by omega
    have cop : ∀ d : Int, d ∣ a → d ∣ b → d ∣ 1 := by
      intro d d1 d2
      have x1 : g * d ∣ c := by rw [ha]; exact Int.mul_dvd_mul_left _ d1
      have x2 : g * d ∣ c' := by rw [hb]; exact Int.mul_dvd_mul_left _ d2
      obtain ⟨k, hk⟩ := big _ x1 x2
      refine ⟨k, ?_⟩
      have : g * 1 = g * (d * k) := by rw [Int.mul_one, ← Int.mul_assoc]; exact hk
      exact Int.eq_of_mul_eq_mul_left gn this
    have divs : ∀ x y : Int, c' * x = c * y → a ∣ x := by
      intro x y e
      refine coprime_dvd cop (y := y) ?_
      rw [ha, hb, Int.mul_assoc, Int.mul_assoc] at e
      exact Int.eq_of_mul_eq_mul_left gn e
    have a1 : a ∣ 1 := h.prim a ⟨g, by rw [Int.mul_comm]; exact ha⟩ (fun i => divs _ _ (u i).2) fun i => divs _ _ (u i).1
    obtain ⟨k, hk⟩ := a1
    refine ⟨k * b, ?_⟩
    rw [hb, ha]
    have : g * a * (k * b) = g * (a * k) * b := by grind
    rw [this, ← hk, Int.mul_one]
  have d1 := half h h' u
  have d2 := half h' h fun i => ⟨((u i).1).symm, ((u i).2).symm⟩
  have e : c = c' := Int.dvd_antisymm (Int.le_of_lt h.pos) (Int.le_of_lt h'.pos) d1 d2
  subst e
  refine ⟨rfl, co_ext h.cQ h'.cQ fun i => ?_, co_ext h.cr h'.cr fun i => ?_⟩
  · exact Int.eq_of_mul_eq_mul_left h.c0 (u i).2
  · exact Int.eq_of_mul_eq_mul_left h.c0 (u i).1
/-- a number that a step of the division takes -/
theorem step_num {x t : Int} (ht : t ≠ 0) : ∃ f : Nat, ∃ n : Int, f = t.natAbs / Nat.gcd x.natAbs t.natAbs ∧ n = (x * f).fdiv t ∧ 0 < f ∧ n * t = x * f ∧
    (∀ d : Int, d ∣ f → d ∣ n → d ∣ 1) ∧ n.natAbs ≤ x.natAbs ∧ f ≤ t.natAbs := by
  obtain ⟨g, hg⟩ : ∃ g : Nat, Nat.gcd x.natAbs t.natAbs = g := ⟨_, rfl⟩
  have g0 : 0 < g := by rw [← hg]; exact Nat.gcd_pos_of_pos_right _ (by omega)
  obtain ⟨f, hf⟩ : g ∣ t.natAbs := by rw [← hg]; exact Nat.gcd_dvd_right ..
  obtain ⟨m, hm⟩ : g ∣ x.natAbs := by rw [← hg]; exact Nat.gcd_dvd_left ..
  have ef : f = t.natAbs / Nat.gcd x.natAbs t.natAbs := by
    rw [hg, hf, Nat.mul_div_cancel_left _ g0]
  have cop : Nat.gcd m f = 1 := by
    have h : g * Nat.gcd m f = g := by
      rw [← Nat.gcd_mul_left, ← hm, ← hf, hg]
    exact Nat.eq_of_mul_eq_mul_left g0 (by rw [Nat.mul_one]; exact h)
  have f0 : 0 < f := Nat.pos_of_ne_zero fun e => by rw [e] at hf; omega
  -- the number, with its sign
  obtain ⟨s, hs, hs2⟩ : ∃ s : Int, (s = 1 ∨ s = -1) ∧ t = s * (g * f : Nat) := by
    rcases Int.natAbs_eq t with h | h
    · exact ⟨1, .inl rfl, by rw [← hf]; omega⟩
    · exact ⟨-1, .inr rfl, by rw [← hf]; omega⟩
  obtain ⟨u, hu, hu2⟩ : ∃ u : Int, (u = 1 ∨ u = -1) ∧ x = u * (g * m : Nat) := by
    rcases Int.natAbs_eq x with h | h
    · exact ⟨1, .inl rfl, by rw [← hm]; omega⟩
    · exact ⟨-1, .inr rfl, by rw [← hm]; omega⟩
  have e : x * f = (s * u * m) * t := by
    rw [hs2, hu2]
    push_cast
    rcases hs with rfl | rfl <;> rcases hu with rfl | rfl <;> grind
  have en : (x * f).fdiv t = s * u * m := by rw [e, Int.mul_comm (s * u * m) t, Int.mul_fdiv_cancel_left _ ht]
  refine ⟨f, s * u * m, ef, en.symm, f0, e.symm, ?_, ?_, ?_⟩
  · intro d d1 d2
    have d3 : d ∣ (m : Int) := by
      obtain ⟨k, hk⟩ := d2
      refine ⟨s * u * k, ?_⟩
      have : (m : Int) = (s * s) * (u * u) * m := by rcases hs with rfl | rfl <;> rcases hu with rfl | rfl <;> simp
      rw [this]; grind
    have d4 := Int.dvd_coe_gcd d3 d1
    have : Int.gcd (m : Int) (f : Int) = 1 := cop
    rw [this] at d4
    exact d4
  · have : (s * u * (m : Int)).natAbs = m := by rcases hs with rfl | rfl <;> rcases hu with rfl | rfl <;> simp
    rw [this, hm]
    exact Nat.le_mul_of_pos_left _ g0
  · rw [hf]; exact Nat.le_mul_of_pos_left _ g0
/-- further to the right -/
def shF (s : Nat) (p : List Int) : List Int := List.replicate s 0 ++ p
theorem co_sh (s : Nat) (p : List Int) (i : Nat) : co (shF s p) i = if s ≤ i then co p (i - s) else 0 := by
  unfold shF co
  rw [List.getD_eq_getElem?_getD, List.getD_eq_getElem?_getD, List.getElem?_append, List.length_replicate]
  by_cases h : s ≤ i
  · rw [if_pos h, if_neg (by omega)]
  · rw [if_neg h, if_pos (by omega), List.getElem?_replicate]
    simp [show i < s by omega]
theorem cv_sh (s : Nat) (n : Int) (g : Fn) : ∀ i, cv (fun m => if m = s then n else 0) g i = if s ≤ i then n * g (i - s) else 0 := by
  induction s with
  | zero =>
    intro t
    have z : (fun n' => if n' + 1 = 0 then n else 0) = fun _ : Nat => (0 : Int) := by funext m; rw [if_neg (by omega)]
    cases t with
    | zero => simp [cv]
    | succ t => rw [cv, z, cv_zero]; simp
  | succ s ih =>
    intro t
    have z : (fun m => if m + 1 = s + 1 then n else 0) = fun m : Nat => if m = s then n else (0 : Int) := by
      funext m
      by_cases e : m = s
      · rw [if_pos e, if_pos (by omega)]
      · rw [if_neg e, if_neg (by omega)]
    cases t with
    | zero => simp [cv]
    | succ t =>
      rw [cv, z, ih t]
      simp only [show (0 = s + 1) = False by simp, if_false, Int.zero_mul, Int.zero_add, Nat.add_le_add_iff_right, Nat.add_sub_add_right]
/-- while it is divided -/
structure DI (p q : List Int) (c : Int) (Q r : List Int) : Prop where
  pos : 0 < c
  cr : Cn r
  lr : r.length ≤ p.length
  lQ : Q.length = p.length + 1 - q.length
  eq : ∀ i, c * co p i = cv (co Q) (co q) i + co r i
  z : ∀ i, i + q.length ≤ r.length → co Q i = 0
  top : r.length = p.length ∨ (co Q (Q.length - 1) ≠ 0 ∧ 0 < Q.length)
  prim : ∀ d : Int, d ∣ c → (∀ i, d ∣ co Q i) → (∀ i, d ∣ co r i) → d ∣ 1
theorem co_zeros (n i : Nat) : co (List.replicate n 0) i = 0 := by
  unfold co
  rw [List.getD_eq_getElem?_getD, List.getElem?_replicate]
  split <;> rfl
theorem di_init {p : List Int} (q : List Int) (c : Cn p) : DI p q 1 (List.replicate (p.length + 1 - q.length) 0) p where
  pos := by decide
  cr := c
  lr := Nat.le_refl _
  lQ := List.length_replicate
  eq := fun i => by
    have e : co (List.replicate (p.length + 1 - q.length) 0) = fun _ => 0 := by funext i; exact co_zeros _ i
    rw [e, cv_zero]; omega
  z := fun i _ => co_zeros _ i
  top := .inl rfl
  prim := fun d h _ _ => h
theorem di_done {p q Q r : List Int} {c : Int} (h : DI p q c Q r) (l : r.length < q.length) : Dv p q c Q r where
  c0 := by have := h.pos; omega
  cr := h.cr
  len := l
  eq := h.eq
  pos := h.pos
  cQ := by
    rcases h.top with e | ⟨e, _⟩
    · have : Q = [] := List.length_eq_zero_iff.mp (by rw [h.lQ]; omega)
      rw [this]; exact cn_nil
    · exact cn_of fun _ => e
  prim := h.prim
theorem di_step {p q Q r Q' r' : List Int} {c f n : Int} (h : DI p q c Q r) (l : q.length ≤ r.length) (hq : q ≠ []) (f0 : 0 < f)
    (nt : n * co q (q.length - 1) = co r (r.length - 1) * f) (cop : ∀ d : Int, d ∣ f → d ∣ n → d ∣ 1)
    (lQ : Q'.length = Q.length) (eQ : ∀ i, co Q' i = if i = r.length - q.length then n else f * co Q i)
    (cr : Cn r') (er : ∀ i, co r' i = f * co r i - n * (if r.length - q.length ≤ i then co q (i - (r.length - q.length)) else 0)) :
    DI p q (c * f) Q' r' ∧ r'.length < r.length := by
  have lq : 0 < q.length := List.length_pos_iff.mpr hq
  have hr : r ≠ [] := by intro e; rw [e] at l; simp at l; exact hq l
  have x0 := cn_last h.cr hr
  have eQ2 : co Q' = fun i => (fun i => f * co Q i) i + (fun i => if i = r.length - q.length then n else 0) i := by
    funext i
    rw [eQ]
    by_cases e : i = r.length - q.length
    · dsimp only
      rw [if_pos e, if_pos e, h.z i (by omega)]; omega
    · dsimp only
      rw [if_neg e, if_neg e]; omega
  have short : r'.length ≤ r.length - 1 := length_le_of cr fun i hi => by
    rw [er]
    by_cases e : i = r.length - 1
    · rw [if_pos (by omega), e, show r.length - 1 - (r.length - q.length) = q.length - 1 by omega, nt, Int.mul_comm f]; omega
    · rw [co_big (p := r) (by omega), if_pos (by omega), co_big (p := q) (by omega)]; omega
  have lr0 : 0 < r.length := List.length_pos_iff.mpr hr
  refine ⟨⟨Int.mul_pos h.pos f0, cr, by have := h.lr; omega, lQ.trans h.lQ, fun i => ?_, fun i hi => ?_, .inr ?_, fun d d1 d2 d3 => ?_⟩, by omega⟩
  · have e := h.eq i
    have e3 : c * f * co p i = f * (c * co p i) := by grind
    rw [eQ2, cv_add_l, cv_scl_l, cv_sh, er, e3, e]
    split <;> grind
  · rw [eQ, if_neg (by omega), h.z i (by omega), Int.mul_zero]
  · have lQ1 := h.lQ
    have lp := h.lr
    rw [lQ, eQ]
    by_cases e : r.length = p.length
    · rw [if_pos (by omega)]
      refine ⟨fun n0 => ?_, by omega⟩
      rw [n0, Int.zero_mul] at nt
      rcases Int.mul_eq_zero.mp nt.symm with z | z
      · exact x0 z
      · omega
    · obtain ⟨t0, t1⟩ := h.top.resolve_left e
      rw [if_neg (by omega)]
      exact ⟨Int.mul_ne_zero (by omega) t0, t1⟩
  · have dn : d ∣ n := by have := d2 (r.length - q.length); rwa [eQ, if_pos rfl] at this
    have cdf : ∀ e : Int, e ∣ d → e ∣ f → e ∣ 1 := fun e e1 e2 => cop e e2 (Int.dvd_trans e1 dn)
    have strip : ∀ x : Int, d ∣ f * x → d ∣ x := fun x ⟨k, hk⟩ => coprime_dvd cdf hk
    refine h.prim d (strip c (by rw [Int.mul_comm]; exact d1)) (fun i => ?_) fun i => strip _ ?_
    · by_cases e : i = r.length - q.length
      · rw [h.z i (by omega)]; exact Int.dvd_zero d
      · have := d2 i
        rw [eQ, if_neg e] at this
        exact strip _ this
    · have := d3 i
      rw [er] at this
      have h2 := Int.dvd_add this (Int.dvd_mul_of_dvd_left (c := (if r.length - q.length ≤ i then co q (i - (r.length - q.length)) else 0)) dn)
      rwa [Int.sub_add_cancel] at h2

/-! common parts -/
def Pl (p : List Int) : Prop := Cn p ∧ plF p = p
theorem pl_plF {p : List Int} (c : Cn p) : Pl (plF p) := ⟨cn_pl c, pl_pl c⟩
theorem pl_nil : Pl [] := ⟨cn_nil, rfl⟩
/-- one is a number times the other -/
def Pp (A B : List Int) : Prop := ∃ c d : Int, c ≠ 0 ∧ d ≠ 0 ∧ ∀ i, c * co A i = d * co B i
theorem pp_pl {A B : List Int} (ca : Cn A) (cb : Cn B) : Pp A B → plF A = plF B
  | ⟨c, d, c0, d0, h⟩ => by
    have e : sclF c A = sclF d B := co_ext (cn_scl c0 ca) (cn_scl d0 cb) fun i => by rw [co_scl, co_scl, h]
    rw [← pl_times ca c0, e, pl_times cb d0]
theorem pl_co {A : List Int} (c : Cn A) : ∃ g : Int, g ≠ 0 ∧ ∀ i, g * co (plF A) i = co A i := by
  by_cases h : A = []
  · subst h; exact ⟨1, by decide, fun i => by simp [plF, co]⟩
  · exact ⟨sgc A, sgc_ne c h, fun i => by rw [← co_scl, pl_scl c]⟩
inductive Gc : List Int → List Int → List Int → Prop
  | done (P : List Int) : Gc P [] P
  | step {P S Q r g : List Int} {c : Int} : S ≠ [] → Dq P S c Q r → Gc S (plF r) g → Gc P S g
theorem gc_det {P S g : List Int} (h : Gc P S g) : Cn S → ∀ g', Gc P S g' → g = g' := by
  induction h with
  | done P =>
    intro _ g' h'
    cases h' with
    | done => rfl
    | step n _ _ => exact absurd rfl n
  | @step P S Q r g c n d _ ih =>
    intro cS g' h'
    cases h' with
    | done => exact absurd rfl n
    | @step _ _ Q' r' _ c' _ d' h2 =>
      have e : plF r = plF r' := pp_pl d.cr d'.cr ⟨c', c, d'.c0, d.c0, fun i => (dq_uniq cS d d' i).1⟩
      rw [← e] at h2
      exact ih (cn_pl d.cr) _ h2
theorem gc_pls {P S g : List Int} (h : Gc P S g) : Pl P → Pl S → Pl g := by
  induction h with
  | done P => exact fun h _ => h
  | step n d _ ih => exact fun _ h => ih h (pl_plF d.cr)
/-- it goes into both -/
def Gi (g P : List Int) : Prop := ∃ (c : Int) (A : List Int), c ≠ 0 ∧ ∀ i, c * co P i = cv (co A) (co g) i
theorem gi_self (g : List Int) : Gi g g := ⟨1, [1], by decide, fun i => by
  have z : (fun n => co [(1 : Int)] (n + 1)) = fun _ => 0 := by funext n; simp [co]
  cases i with
  | zero => simp [cv, co]
  | succ i => rw [cv, z, cv_zero]; simp [co]⟩
theorem gi_nil (g : List Int) : Gi g [] := ⟨1, [], by decide, fun i => by rw [co_nil, cv_zero]; rfl⟩
theorem gi_both {P S g : List Int} (h : Gc P S g) : Gi g P ∧ Gi g S := by
  induction h with
  | done P => exact ⟨gi_self P, gi_nil P⟩
  | @step P S Q r g c n d _ ih =>
    obtain ⟨⟨c1, A1, n1, h1⟩, ⟨c2, A2, n2, h2⟩⟩ := ih
    refine ⟨?_, ⟨c1, A1, n1, h1⟩⟩
    obtain ⟨k, k0, hk⟩ := pl_co d.cr
    -- c2 * r = k * (A2 g)
    refine ⟨c * c1 * c2, addF (sclF c2 (mulF Q A1)) (sclF (c1 * k) A2), Int.mul_ne_zero (Int.mul_ne_zero d.c0 n1) n2, fun i => ?_⟩
    have e1 : co (addF (sclF c2 (mulF Q A1)) (sclF (c1 * k) A2)) = fun n => (fun n => c2 * cv (co Q) (co A1) n) n + (fun n => (c1 * k) * co A2 n) n := by
      funext n; rw [co_add, co_scl, co_scl, co_mul]
    have e2 : cv (cv (co Q) (co A1)) (co g) i = c1 * cv (co Q) (co S) i := by
      have : cv (co A1) (co g) = fun n => c1 * co S n := by funext n; exact (h1 n).symm
      rw [cv_assoc, this, cv_scl_r]
    have e3 : c2 * co r i = k * cv (co A2) (co g) i := by rw [← h2, ← hk i]; grind
    have e4 := d.eq i
    rw [e1, cv_add_l, cv_scl_l, cv_scl_l, e2]
    have e5 : c * c1 * c2 * co P i = c1 * c2 * (c * co P i) := by grind
    rw [e5, e4]
    grind
theorem gi_rest {P g Q r : List Int} {c : Int} (cg : Cn g) (d : Dq P g c Q r) : Gi g P → r = []
  | ⟨c', A, n, h⟩ => by
    have d' : Dq P g c' A [] := ⟨n, cn_nil, Nat.lt_of_le_of_lt (Nat.zero_le _) d.len, fun i => by rw [h, co_nil]; show _ = _ + (0 : Int); omega⟩
    refine nil_of d.cr fun i => ?_
    have e := (dq_uniq cg d d' i).1
    rw [co_nil] at e
    have e2 : c' * co r i = 0 := by rw [e]; exact Int.mul_zero _
    exact (Int.mul_eq_zero.mp e2).resolve_left n
theorem gi_pl {g P : List Int} (c : Cn P) : Gi g (plF P) → Gi g P
  | ⟨c', A, n, h⟩ => by
    obtain ⟨k, k0, hk⟩ := pl_co c
    refine ⟨c', sclF k A, n, fun i => ?_⟩
    have e : co (sclF k A) = fun n => k * co A n := by funext n; exact co_scl k A n
    rw [e, cv_scl_l, ← h, ← hk i]; grind
/-- both times the same line -/
theorem gc_times {P S g : List Int} (h : Gc P S g) {s : List Int} (cs : Cn s) (hs : s ≠ []) : Cn P → Cn S → ∀ P' S' : List Int, Pl P' → Pl S' → Pp P' (mulF P s) → Pp S' (mulF S s) → Gc P' S' (plF (mulF g s)) := by
  induction h with
  | done P =>
    intro cP _ P' S' hP hS pP ⟨c, d, c0, d0, e⟩
    have S0 : S' = [] := nil_of hS.1 fun i => by
      have := e i
      rw [show mulF [] s = [] by simp [mulF], co_nil] at this
      have e2 : c * co S' i = 0 := by rw [this]; exact Int.mul_zero _
      exact (Int.mul_eq_zero.mp e2).resolve_left c0
    rw [S0, ← pp_pl hP.1 (cn_mul cP cs) pP, hP.2]
    exact .done P'
  | @step P S Q r g c n d _ ih =>
    rintro cP cS P' S' hP hS ⟨a, b, a0, b0, eP⟩ ⟨a', b', a0', b0', eS⟩
    have hS' : S' ≠ [] := by
      intro z
      have l : 0 < (mulF S s).length := by
        rw [mulF_length n hs]
        have := List.length_pos_iff.mpr n
        have := List.length_pos_iff.mpr hs
        omega
      have hm : mulF S s ≠ [] := List.length_pos_iff.mp l
      have := eS ((mulF S s).length - 1)
      rw [z, co_nil] at this
      exact Int.mul_ne_zero b0' (cn_last (cn_mul cS cs) hm) (by simpa using this.symm)
    have lS : S'.length = (mulF S s).length := by
      have h1 := length_le_of hS.1 (k := (mulF S s).length) fun i hi => by
        have e := eS i
        rw [co_big (p := mulF S s) hi, Int.mul_zero] at e
        exact (Int.mul_eq_zero.mp e).resolve_left a0'
      have h2 := length_le_of (cn_mul cS cs) (k := S'.length) fun i hi => by
        have e := eS i
        rw [co_big (p := S') hi, Int.mul_zero] at e
        exact (Int.mul_eq_zero.mp e.symm).resolve_left b0'
      omega
    have d' : Dq P' S' (b' * c * a) (sclF (b * a') Q) (sclF (b' * b) (mulF r s)) := by
      refine ⟨Int.mul_ne_zero (Int.mul_ne_zero b0' d.c0) a0, cn_scl (Int.mul_ne_zero b0' b0) (cn_mul d.cr cs), ?_, fun i => ?_⟩
      · rw [lS, mulF_length n hs]
        have h1 := mulF_le r s
        have h2 := d.len
        have := List.length_pos_iff.mpr hs
        simp only [sclF, List.length_map]
        omega
      · have e : co (sclF (b * a') Q) = fun n => (b * a') * co Q n := by funext n; exact co_scl _ Q n
        have e2 : cv (co Q) (cv (co S) (co s)) i = cv (cv (co Q) (co S)) (co s) i := (cv_assoc i _ _ _).symm
        have e3 : a' * cv (co Q) (co S') i = b' * cv (cv (co Q) (co S)) (co s) i := by
          have f : (fun n => a' * co S' n) = fun n => b' * cv (co S) (co s) n := by funext n; rw [eS, co_mul]
          rw [← cv_scl_r, f, cv_scl_r, e2]
        have e4 : c * cv (co P) (co s) i = cv (cv (co Q) (co S)) (co s) i + cv (co r) (co s) i := by
          rw [← cv_scl_l, ← cv_add_l]
          have f : (fun n => c * co P n) = fun n => cv (co Q) (co S) n + co r n := by funext n; exact d.eq n
          rw [f]
        have e5 := eP i
        rw [co_mul] at e5
        rw [e, cv_scl_l, co_scl, co_mul]
        have e6 : b' * c * a * co P' i = b' * c * (a * co P' i) := by grind
        rw [e6, e5]
        have e7 : b * a' * cv (co Q) (co S') i = b * (a' * cv (co Q) (co S') i) := by grind
        rw [e7, e3]
        have e8 : b' * c * (b * cv (co P) (co s) i) = b' * b * (c * cv (co P) (co s) i) := by grind
        rw [e8, e4]
        grind
    refine .step hS' d' (ih cS (cn_pl d.cr) _ _ hS (pl_plF d'.cr) ⟨a', b', a0', b0', eS⟩ ?_)
    obtain ⟨k1, k10, h1⟩ := pl_co d.cr
    obtain ⟨k2, k20, h2⟩ := pl_co d'.cr
    refine ⟨k2, b' * b * k1, k20, Int.mul_ne_zero (Int.mul_ne_zero b0' b0) k10, fun i => ?_⟩
    have f : co r = fun n => k1 * co (plF r) n := by funext n; exact (h1 n).symm
    rw [h2, co_scl, co_mul, co_mul, f, cv_scl_l]
    grind
theorem gc_self {P : List Int} : Gc P P P := by
  by_cases h : P = []
  · subst h; exact .done []
  · refine .step (c := 1) (Q := [1]) (r := []) h ⟨by decide, cn_nil, List.length_pos_iff.mpr h, fun i => ?_⟩ (.done P)
    have z : (fun n => co [(1 : Int)] (n + 1)) = fun _ => 0 := by funext n; simp [co]
    rw [co_nil]
    cases i with
    | zero => simp [cv, co]
    | succ i => rw [cv, z, cv_zero]; simp [co]
theorem gc_none {F : List Int} : Gc [] F F := by
  by_cases h : F = []
  · subst h; exact .done []
  · exact .step (c := 1) (Q := []) (r := []) h ⟨by decide, cn_nil, List.length_pos_iff.mpr h, fun i => by rw [co_nil, cv_zero]; rfl⟩ (.done F)
theorem gc_top {P S g : List Int} (h : Gc P S g) (f : List Int) : Gi f P → Gi f S → Gi f g := by
  induction h with
  | done P => exact fun h _ => h
  | @step P S Q r g c n d _ ih =>
    rintro ⟨c1, A1, n1, h1⟩ ⟨c2, A2, n2, h2⟩
    refine ih ⟨c2, A2, n2, h2⟩ ?_
    obtain ⟨k, k0, hk⟩ := pl_co d.cr
    -- r = c P - Q S
    refine ⟨c1 * c2 * k, addF (sclF (c2 * c) A1) (sclF (-c1) (mulF Q A2)), Int.mul_ne_zero (Int.mul_ne_zero n1 n2) k0, fun i => ?_⟩
    have e1 : co (addF (sclF (c2 * c) A1) (sclF (-c1) (mulF Q A2))) = fun n => (fun n => (c2 * c) * co A1 n) n + (fun n => (-c1) * cv (co Q) (co A2) n) n := by
      funext n; rw [co_add, co_scl, co_scl, co_mul]
    have e2 : cv (cv (co Q) (co A2)) (co f) i = c2 * cv (co Q) (co S) i := by
      have : cv (co A2) (co f) = fun n => c2 * co S n := by funext n; exact (h2 n).symm
      rw [cv_assoc, this, cv_scl_r]
    rw [e1, cv_add_l, cv_scl_l, cv_scl_l, e2, ← h1]
    have e4 := d.eq i
    have e5 := hk i
    have e6 : c1 * c2 * k * co (plF r) i = c1 * c2 * (k * co (plF r) i) := by grind
    rw [e6, e5]
    have e7 : co r i = c * co P i - cv (co Q) (co S) i := by omega
    rw [e7]; grind
theorem gi_le {g f : List Int} (cg : Cn g) (cf : Cn f) (hg : g ≠ []) : Gi f g → f.length ≤ g.length ∧ (f.length = g.length → Pp g f)
  | ⟨c, A, n, h⟩ => by
    have e : sclF c g = mulF (trim A) f := co_ext (cn_scl n cg) (cn_mul (cn_trim A) cf) fun i => by
      have : co (trim A) = co A := by funext i; exact co_trim A i
      rw [co_scl, co_mul, this, h]
    have lg : 0 < g.length := List.length_pos_iff.mpr hg
    have ls : (sclF c g).length = g.length := by simp [sclF]
    have hA : trim A ≠ [] := by
      intro z
      rw [z, show mulF [] f = [] by simp [mulF]] at e
      rw [e] at ls; simp at ls; omega
    have hf : f ≠ [] := by
      intro z
      rw [z, show mulF (trim A) [] = [] by simp [mulF]] at e
      rw [e] at ls; simp at ls; omega
    have lm := mulF_length hA hf
    rw [← e, ls] at lm
    have lA : 0 < (trim A).length := List.length_pos_iff.mpr hA
    have lf : 0 < f.length := List.length_pos_iff.mpr hf
    refine ⟨by omega, fun l => ?_⟩
    have l1 : (trim A).length = 1 := by omega
    match hT : trim A, l1 with
    | [z], _ =>
      have z0 : z ≠ 0 := cn_trim A z (by rw [hT]; rfl)
      refine ⟨c, z, n, z0, fun i => ?_⟩
      have t : (fun n => co [z] (n + 1)) = fun _ => 0 := by funext n; simp [co]
      rw [← co_scl, e, hT, co_mul]
      cases i with
      | zero => rw [cv, co_0]
      | succ i => rw [cv, t, cv_zero, co_0, Int.add_zero]
theorem gi_eq {g f : List Int} (hg : Pl g) (hf : Pl f) (a : Gi f g) (b : Gi g f) : g = f := by
  have nil : ∀ {f : List Int}, Pl f → Gi [] f → f = [] := fun {f} hf ⟨c, A, n, h⟩ => nil_of hf.1 fun i => by
    have := h i
    rw [co_nil, cv_comm, cv_zero] at this
    exact (Int.mul_eq_zero.mp this).resolve_left n
  by_cases h1 : g = []
  · subst h1; exact (nil hf b).symm
  by_cases h2 : f = []
  · subst h2; exact nil hg a
  obtain ⟨l1, e1⟩ := gi_le hg.1 hf.1 h1 a
  obtain ⟨l2, _⟩ := gi_le hf.1 hg.1 h2 b
  rw [← hg.2, ← hf.2]
  exact pp_pl hg.1 hf.1 (e1 (by omega))
theorem gc_comm {P S g f : List Int} (hP : Pl P) (hS : Pl S) (h : Gc P S g) (h' : Gc S P f) : g = f :=
  gi_eq (gc_pls h hP hS) (gc_pls h' hS hP) (gc_top h f (gi_both h').2 (gi_both h').1) (gc_top h' g (gi_both h).2 (gi_both h).1)
/-- both times a line, made plain -/
theorem gc_prod {p r s g f : List Int} (cp : Cn p) (cr : Cn r) (cs : Cn s) (hs : s ≠ []) (h : Gc (plF p) (plF r) g) (h' : Gc (plF (mulF p s)) (plF (mulF r s)) f) : f = plF (mulF g s) := by
  have pr : ∀ {p : List Int}, Cn p → Pp (plF (mulF p s)) (mulF (plF p) s) := fun {p} c => by
    obtain ⟨k1, k10, e1⟩ := pl_co (cn_mul c cs)
    obtain ⟨k2, k20, e2⟩ := pl_co c
    refine ⟨k1, k2, k10, k20, fun i => ?_⟩
    have f : co p = fun n => k2 * co (plF p) n := by funext n; exact (e2 n).symm
    rw [e1, co_mul, co_mul, f, cv_scl_l]
  have d := gc_times h cs hs (cn_pl cp) (cn_pl cr) _ _ (pl_plF (cn_mul cp cs)) (pl_plF (cn_mul cr cs)) (pr cp) (pr cr)
  exact gc_det h' (cn_pl (cn_mul cr cs)) _ d
theorem gi_mul (p s : List Int) : Gi s (mulF p s) := ⟨1, p, by decide, fun i => by rw [co_mul, Int.one_mul]⟩
theorem cnt_prim {c : Int} {D r : List Int} (h : ∀ d : Int, d ∣ c → (∀ i, d ∣ co D i) → (∀ i, d ∣ co r i) → d ∣ 1) : cnt (c :: (D ++ r)) = 1 := by
  have m : ∀ z ∈ c :: (D ++ r), ((cnt (c :: (D ++ r)) : Nat) : Int) ∣ z := fun z hz => cnt_dvd hz
  have co_mem : ∀ (p : List Int), (∀ z ∈ p, ((cnt (c :: (D ++ r)) : Nat) : Int) ∣ z) → ∀ i, ((cnt (c :: (D ++ r)) : Nat) : Int) ∣ co p i := fun p hp i => by
    by_cases l : i < p.length
    · rw [co_at l]; exact hp _ (List.getElem_mem l)
    · rw [co_big (by omega)]; exact Int.dvd_zero _
  have d := h (cnt (c :: (D ++ r))) (m c List.mem_cons_self) (co_mem D fun z hz => m z (by simp [hz])) (co_mem r fun z hz => m z (by simp [hz]))
  have d2 := Int.natCast_dvd_natCast.mp (show ((cnt (c :: (D ++ r)) : Nat) : Int) ∣ ((1 : Nat) : Int) from d)
  exact Nat.dvd_one.mp d2
theorem dv_sum {p q D r : List Int} {c : Int} (cp : Cn p) (d : Dv p q c D r) : trim (addF (mulF D q) r) = sclF c p :=
  co_ext (cn_trim _) (cn_scl d.c0 cp) fun i => by rw [co_trim, co_add, co_mul, co_scl, d.eq]
/-- one told in numbers -/
theorem dv_is {p q D r : List Int} {c : Int} (c0 : 0 < c) (cD : Cn D) (cr : Cn r) (l : r.length < q.length) (e : sclF c p = addF (mulF D q) r)
    (prim : ∀ d : Int, d ∣ c → (∀ i, d ∣ co D i) → (∀ i, d ∣ co r i) → d ∣ 1) : Dv p q c D r where
  c0 := by omega
  cr := cr
  len := l
  eq := fun i => by rw [← co_scl, e, co_add, co_mul]
  pos := c0
  cQ := cD
  prim := prim
theorem dv_times {p q r : List Int} (cp : Cn p) (cr : Cn r) (l : r.length < q.length) : Dv (trim (addF (mulF p q) r)) q 1 p r where
  c0 := by decide
  cr := cr
  len := l
  eq := fun i => by rw [co_trim, co_add, co_mul, Int.one_mul]
  pos := by decide
  cQ := cp
  prim := fun d h _ _ => h
theorem dv_len {p q D r : List Int} {c : Int} (cq : Cn q) (hq : q ≠ []) (d : Dv p q c D r) : D.length ≤ p.length := by
  by_cases hD : D = []
  · rw [hD]; exact Nat.zero_le _
  have l0 : 0 < q.length := List.length_pos_iff.mpr hq
  have l1 : 0 < D.length := List.length_pos_iff.mpr hD
  apply Nat.le_of_not_lt
  intro h7
  have e1 := d.eq (D.length + q.length - 2)
  have van := (cv_vanish (D.length - 1) (q.length - 1) (co D) (co q) (co_van D) (co_van q)).1
  rw [show D.length - 1 + (q.length - 1) = D.length + q.length - 2 by omega] at van
  have lsr := d.len
  rw [van, co_big (p := p) (by omega), co_big (p := r) (by omega), Int.mul_zero, Int.add_zero] at e1
  exact Int.mul_ne_zero (cn_last d.cQ hD) (cn_last cq hq) e1.symm
theorem bd_sm {p : List Int} {k : Nat} (h : Bd k p) (l : k ≤ 20) : ∀ z ∈ p, z.natAbs ≤ 1000000000 := fun z hz => by
  have h1 := h.mono l z hz
  have h2 : (2 : Nat) ^ 20 = 1048576 := by decide
  omega
end Kr
/-! Division and common parts: rules and promises. -/
namespace Kr
open PySem PySem.Spec
open PyProof.Rows L2

def rIxSq (K : PySem.W.Frag) : R2 := fun x y H Q => ∃ (k : Bool) (p : Addr) (xs : List V) (i : Int) (v : V), x = .ref p ∧ y = .int i ∧ Sq K k H p xs ∧ atI xs i = some v ∧ Q v H
theorem ix_sq {X : Cx} : IxR X (rIxSq X.K) := by
  intro value slice pins s σ H x y v u Q I rx ry ⟨k, p, xs, i, z, e1, e2, hq, he, q⟩ hs
  cases k with
  | true => exact ix_tup value slice pins s σ H x y v u Q I rx ry ⟨p, xs, i, z, e1, e2, hq, he, q⟩ hs
  | false => exact ix_list value slice pins s σ H x y v u Q I rx ry ⟨p, xs, i, z, e1, e2, hq, he, q⟩ hs
@[irreducible] def k9 : Nat := 9000
@[irreducible] def k13 : Nat := 13500
theorem k9_le {n : Nat} (h : n ≤ 9000) : n ≤ k9 := by unfold k9; exact h
theorem k13_le {n : Nat} (h : n ≤ 13500) : n ≤ k13 := by unfold k13; exact h
theorem k13_big : k13 ≤ 60000000 := by unfold k13; decide
theorem log2_lt_pow {n k : Nat} (h : n < 2 ^ k) (hk : 0 < k) : n.log2 < k := by
  by_cases z : n = 0
  · subst z; simpa using hk
  · exact (Nat.log2_lt z).mpr h
theorem noPy {x y : Int} (h : y.natAbs < 2 ^ k9 ∨ x.natAbs < 2 ^ k13) : Builtin.divisionGoesByPylong x y = false := by
  rcases h with h | h
  · refine PyProof.noPylong_of_log2 (Nat.lt_of_lt_of_le (log2_lt_pow h (by unfold k9; decide)) (by unfold k9; decide))
  · have lx : x.natAbs.log2 < 13500 := Nat.lt_of_lt_of_le (log2_lt_pow h (by unfold k13; decide)) (by unfold k13; decide)
    have dx : (if x == 0 then 0 else x.natAbs.log2 / 30 + 1) ≤ 450 := by split <;> omega
    show (decide ((if y == 0 then 0 else y.natAbs.log2 / 30 + 1) > 300) && decide ((if x == 0 then 0 else x.natAbs.log2 / 30 + 1) > (if y == 0 then 0 else y.natAbs.log2 / 30 + 1) + 150)) = false
    generalize (if y == 0 then 0 else y.natAbs.log2 / 30 + 1) = dy at *
    generalize (if x == 0 then 0 else x.natAbs.log2 / 30 + 1) = dx' at *
    by_cases c : dy > 300
    · rw [decide_eq_false (show ¬ dx' > dy + 150 by omega), Bool.and_false]
    · rw [decide_eq_false c, Bool.false_and]
def CDivB (i j : Int) : Prop := j ≠ 0 ∧ (j.natAbs < 2 ^ k9 ∨ i.natAbs < 2 ^ k13)
theorem op_fdivB {X : Cx} : OpR X (binaryOp .FloorDiv) (rI CDivB fun i j => .int (i.fdiv j)) := opI fun _ _ _ _ _ _ _ hc q => floordiv_int hc.1 q (.inl (noPy hc.2))
theorem op_fdivBk {X : Cx} : OpR X (binaryOp .FloorDiv) (rI CDivB fun i j => .int (i.fdiv j)) := op_fdivB

def spPPlainB : Sp := fun vs H Q _ => ∃ (k : Bool) (a : Addr) (p : List Int), vs = [.ref a] ∧ At k H a p ∧ p.length ≤ 900 ∧ Cn p ∧ Bd k13 p ∧ NewL H (plF p) Q
/-- how wide what comes of a division is -/
def dw (p q : List Int) (n m : Nat) : Nat := n + (p.length + 1 - q.length) * (m + 1)
def spPDiv : Sp := fun vs H Q _ => ∃ (a b : Addr) (p q : List Int) (n m : Nat), vs = [.ref a, .ref b] ∧ At false H a p ∧ At false H b q ∧
  p.length ≤ 400 ∧ q.length ≤ 400 ∧ Cn p ∧ Cn q ∧ q ≠ [] ∧ Bd n p ∧ Bd m q ∧ (co q (q.length - 1)).natAbs < 2 ^ k9 ∧ n ≤ 60000 ∧ m ≤ 60000 ∧
  ∀ (H' : Hp) (T u v : Addr) (c : Int) (D r : List Int), Same H H' → H T = none → H u = none → H v = none → u ≠ v → H' T = some (.tup [.int c, .ref u, .ref v]) → At false H' u D → At false H' v r →
    Dv p q c D r → Bd (dw p q n m) D → Bd (dw p q n m) r → c.natAbs < 2 ^ (dw p q n m + 1) → Q (.ref T) H'
def spPComm : Sp := fun vs H Q _ => ∃ (k j : Bool) (a b : Addr) (p q : List Int), vs = [.ref a, .ref b] ∧ At k H a p ∧ At j H b q ∧
  p.length ≤ 8 ∧ q.length ≤ 8 ∧ Cn p ∧ Cn q ∧ Bd 8 (plF p) ∧ Bd 8 (plF q) ∧ Bd k13 p ∧ Bd k13 q ∧
  ∀ (H' : Hp) (u : Addr) (g : List Int), Same H H' → H u = none → At false H' u g → Gc (plF p) (plF q) g → Bd k9 g → g.length ≤ 8 → Q (.ref u) H'
def spLnD : Sp := fun vs H Q _ => ∃ (a b : Addr) (p q : List Int) (n m : Nat), vs = [.ref a, .ref b] ∧ Ln false H a p ∧ Ln false H b q ∧ q ≠ [] ∧
  (co q (q.length - 1)).natAbs < 2 ^ k9 ∧ Bd n p ∧ Bd m q ∧ n ≤ 60000 ∧ m ≤ 60000 ∧
  ∀ (H' : Hp) (T u v : Addr) (c : Int) (D r : List Int), Same H H' → H T = none → H u = none → H v = none → u ≠ v → H' T = some (.tup [.int c, .ref u, .ref v]) → At false H' u D → At false H' v r →
    Dv p q c D r → Bd (dw p q n m) D → Bd (dw p q n m) r → c.natAbs < 2 ^ (dw p q n m + 1) → Q (.ref T) H'
def spLnC : Sp := fun vs H Q _ => ∃ (k j : Bool) (a b : Addr) (p q : List Int), vs = [.ref a, .ref b] ∧ Ln k H a p ∧ Ln j H b q ∧
  p.length ≤ 8 ∧ q.length ≤ 8 ∧ Bd 8 (plF p) ∧ Bd 8 (plF q) ∧ Bd k13 p ∧ Bd k13 q ∧
  ∀ (H' : Hp) (u : Addr) (g : List Int), Same H H' → H u = none → At false H' u g → Gc (plF p) (plF q) g → Bd k9 g → g.length ≤ 8 → Q (.ref u) H'
def spLGreatB : Sp := fun vs H Q _ => ∃ (a : Addr) (p : List Int), vs = [.ref a] ∧ At false H a p ∧ p.length ≤ 900 ∧ Bd k13 p ∧ Q (.int (cnt p : Nat)) H
def spLPlainB : Sp := fun vs H Q _ => ∃ (a : Addr) (p : List Int), vs = [.ref a] ∧ At false H a p ∧ p.length ≤ 900 ∧ Cn p ∧ Bd k13 p ∧ NewL H (plF p) Q
theorem cnt_bd {p : List Int} {k : Nat} (c : Cn p) (h : Bd k p) : cnt p < 2 ^ k := by
  by_cases e : p = []
  · subst e; exact Nat.two_pow_pos k
  · exact Nat.lt_of_le_of_lt (cnt_le (List.getLast_mem e) (c _ (List.getLast?_eq_some_getLast e))) (h _ (List.getLast_mem e))
theorem wide2 {i j : Int} {a b : Nat} (ha : i.natAbs < 2 ^ a) (hb : j.natAbs < 2 ^ b) : (i * j).natAbs < 2 ^ (a + b) := by
  rw [Int.natAbs_mul, Nat.pow_add]
  exact Nat.mul_lt_mul'' ha hb
theorem one_pl {P : List Int} (h : Pl P) (l : P.length = 1) : P = [1] := by
  match P, l with
  | [z], _ =>
    have c := pl_cnt h.1 (by simp)
    have d := pl_lead h.1 (by simp)
    rw [h.2] at c d
    have e1 : Nat.gcd z.natAbs 0 = 1 := c
    rw [Nat.gcd_zero_right] at e1
    have e2 : 0 < co [z] 0 := d
    rw [co_0] at e2
    rw [show z = 1 by omega]
theorem three_pow (g : Nat) : g + 2 ≤ 2 * 3 ^ g ∧ (0 < g → g + 2 ≤ 3 ^ g) := by
  induction g with
  | zero => exact ⟨by decide, fun h => absurd h (by decide)⟩
  | succ g ih =>
    rw [Nat.pow_succ]
    have h1 : 1 ≤ 3 ^ g := Nat.pow_pos (show 0 < 3 by decide)
    refine ⟨by omega, fun _ => ?_⟩
    by_cases e : g = 0
    · subst e; decide
    · have := ih.2 (by omega); omega
theorem three_le {a b : Nat} (h : a ≤ b) : (3 : Nat) ^ a ≤ 3 ^ b := Nat.pow_le_pow_right (by decide) h
/-- how wide the lines grow on the way to the common part -/
structure CB (P S : List Int) (n m : Nat) : Prop where
  p : Pl P
  s : Pl S
  lp : P.length ≤ 8
  ls : S.length ≤ 8
  bp : Bd n P
  bs : Bd m S
  w : (n ≤ 8 ∧ m ≤ 8) ∨ (S.length < P.length ∧ n + 1 ≤ 18 * 3 ^ (7 - P.length) ∧ m + 1 ≤ 18 * 3 ^ (8 - P.length))
theorem CB.small {P S : List Int} {n m : Nat} (h : CB P S n m) : n ≤ 60000 ∧ m ≤ 60000 := by
  rcases h.w with ⟨a, b⟩ | ⟨l, a, b⟩
  · omega
  · have h1 : (3 : Nat) ^ (7 - P.length) ≤ 3 ^ 7 := three_le (by omega)
    have h2 : (3 : Nat) ^ (8 - P.length) ≤ 3 ^ 7 := three_le (by omega)
    have : (3 : Nat) ^ 7 = 2187 := by decide
    omega
theorem CB.top {P S : List Int} {n m : Nat} (h : CB P S n m) (hS : S ≠ []) : (co S (S.length - 1)).natAbs < 2 ^ k9 := by
  have l0 : 0 < S.length := List.length_pos_iff.mpr hS
  by_cases e : S.length = 1
  · rw [one_pl h.s e]
    exact Nat.lt_of_lt_of_le (show 1 < 2 ^ 1 by decide) (Nat.pow_le_pow_right (by decide) (k9_le (by decide)))
  · have : m ≤ 9000 := by
      rcases h.w with ⟨a, b⟩ | ⟨l, a, b⟩
      · omega
      · have h2 : (3 : Nat) ^ (8 - P.length) ≤ 3 ^ 5 := three_le (by omega)
        have : (3 : Nat) ^ 5 = 243 := by decide
        omega
    exact Nat.lt_of_lt_of_le (h.bs.co _) (Nat.pow_le_pow_right (by decide) (k9_le this))
theorem CB.done {P : List Int} {n m : Nat} (h : CB P [] n m) : Bd k9 P := by
  by_cases e : P.length ≤ 1
  · by_cases e1 : P.length = 1
    · rw [one_pl h.p e1]
      intro z hz
      have : z = 1 := by simpa using hz
      rw [this]
      exact Nat.lt_of_lt_of_le (show 1 < 2 ^ 1 by decide) (Nat.pow_le_pow_right (by decide) (k9_le (by decide)))
    · have : P = [] := List.length_eq_zero_iff.mp (by omega)
      rw [this]; exact fun z hz => nomatch hz
  · refine h.bp.mono (k9_le ?_)
    rcases h.w with ⟨a, b⟩ | ⟨l, a, b⟩
    · omega
    · have h2 : (3 : Nat) ^ (7 - P.length) ≤ 3 ^ 5 := three_le (by omega)
      have : (3 : Nat) ^ 5 = 243 := by decide
      omega
theorem CB.next {P S r : List Int} {n m : Nat} (h : CB P S n m) (hS : S ≠ []) (cr : Cn r) (lr : r.length < S.length) (br : Bd (dw P S n m) r) :
    CB S (plF r) m (dw P S n m) ∧ Bd k13 r := by
  have lp := h.lp
  have ls := h.ls
  have key : dw P S n m + 1 ≤ 18 * 3 ^ (8 - S.length) ∧ m + 1 ≤ 18 * 3 ^ (7 - S.length) := by
    rcases h.w with ⟨a, b⟩ | ⟨l, a, b⟩
    · have o : 1 ≤ (3 : Nat) ^ (7 - S.length) := Nat.pow_pos (show 0 < 3 by decide)
      refine ⟨?_, by omega⟩
      have t := (three_pow (8 - S.length)).1
      have g : P.length + 1 - S.length ≤ 8 - S.length + 1 := by omega
      have g2 : (P.length + 1 - S.length) * (m + 1) ≤ (8 - S.length + 1) * 9 := Nat.mul_le_mul g (by omega)
      unfold dw
      omega
    · have x1 : (3 : Nat) ^ (7 - P.length) ≤ 3 ^ (8 - P.length) := three_le (by omega)
      have x2 : (3 : Nat) ^ (8 - P.length) ≤ 3 ^ (7 - S.length) := three_le (by omega)
      refine ⟨?_, by omega⟩
      have t := (three_pow (P.length - S.length)).2 (by omega)
      have e : (3 : Nat) ^ (8 - S.length) = 3 ^ (P.length - S.length) * 3 ^ (8 - P.length) := by
        rw [← Nat.pow_add]; congr 1; omega
      rw [e]
      generalize (3 : Nat) ^ (8 - P.length) = X at *
      generalize hY : (3 : Nat) ^ (P.length - S.length) = Y at *
      have g : P.length + 1 - S.length = P.length - S.length + 1 := by omega
      have g2 : (P.length - S.length + 1) * (m + 1) ≤ (P.length - S.length + 1) * (18 * X) := Nat.mul_le_mul_left _ b
      have g3 : (P.length - S.length + 2) * (18 * X) ≤ Y * (18 * X) := Nat.mul_le_mul_right _ t
      have g4 : (P.length - S.length + 2) * (18 * X) = (P.length - S.length + 1) * (18 * X) + 18 * X := by grind
      have g5 : Y * (18 * X) = 18 * (Y * X) := by rw [← Nat.mul_assoc, Nat.mul_comm Y 18, Nat.mul_assoc]
      unfold dw
      rw [g]
      omega
  refine ⟨⟨h.s, pl_plF cr, ls, by rw [plF_length]; omega, h.bs, bd_pl cr br, .inr ⟨by rw [plF_length]; exact lr, key.2, key.1⟩⟩, ?_⟩
  by_cases e : r.length = 0
  · rw [List.length_eq_zero_iff.mp e]; exact fun z hz => nomatch hz
  · refine br.mono (k13_le ?_)
    have h2 : (3 : Nat) ^ (8 - S.length) ≤ 3 ^ 6 := three_le (by omega)
    have : (3 : Nat) ^ 6 = 729 := by decide
    have := key.1
    omega
theorem CB.first {p q : List Int} (cp : Cn p) (cq : Cn q) (lp : p.length ≤ 8) (lq : q.length ≤ 8) (bp : Bd 8 (plF p)) (bq : Bd 8 (plF q)) : CB (plF p) (plF q) 8 8 :=
  ⟨pl_plF cp, pl_plF cq, by rw [plF_length]; exact lp, by rw [plF_length]; exact lq, bp, bq, .inl ⟨Nat.le_refl _, Nat.le_refl _⟩⟩
theorem Gc.len {P S g : List Int} (h : Gc P S g) : P.length ≤ 8 → S.length ≤ 8 → g.length ≤ 8 := by
  induction h with
  | done P => exact fun h _ => h
  | step n d _ ih => exact fun _ h => ih h (by rw [plF_length]; have := d.len; omega)
/-- what a division tells -/
def d3 (c : Int) (D r : List Int) : PyData := .tuple [.int c, .list (D.map PyData.int), .list (r.map PyData.int)]
theorem dp3 {K : PySem.W.Frag} {H : Hp} {T u v : Addr} {c : Int} {D r : List Int} (e : H T = some (.tup [.int c, .ref u, .ref v])) (hu : At false H u D) (hv : At false H v r) : Dp K H (.ref T) (d3 c D r) :=
  .tup (SqT.of e) (.cons (.int c) (.cons hu.dp (.cons hv.dp .nil)))
theorem eqv3 (c c' : Int) (D r D' r' : List Int) : PyData.eqv (d3 c D r) (d3 c' D' r') = decide (c = c' ∧ D = D' ∧ r = r') := by
  simp only [d3, PyData.eqv, PyData.eqvAll, eqv_ints, Bool.and_true]
  rw [show (c == c') = decide (c = c') by by_cases h : c = c' <;> simp [h], ← Bool.decide_and, ← Bool.decide_and]
theorem shaped3 (c : Int) (D r : List Int) : SeqAt.shaped (d3 c D r) = true := by
  have h1 := shaped_ints D
  have h2 := shaped_ints r
  unfold SeqAt.shaped at *
  simp only [Bool.and_eq_true, decide_eq_true_eq] at *
  have e1 : ∀ p : List Int, PyData.depthAll (p.map PyData.int) ≤ 1 := by
    intro p
    induction p with
    | nil => simp [PyData.depthAll]
    | cons a p ih => simp only [List.map_cons, PyData.depthAll, PyData.depth]; omega
  have a := e1 D
  have b := e1 r
  refine ⟨by simp [d3, PyData.canLay0, PyData.canLayAll0] at h1 h2 ⊢; exact ⟨h1.1, h2.1⟩, ?_⟩
  simp only [d3, PyData.depth, PyData.depthAll]; omega
theorem ne3 {K : PySem.W.Frag} {H : Hp} {T u v T' u' v' : Addr} {c c' : Int} {D r D' r' : List Int} {Q : VK} (e : H T = some (.tup [.int c, .ref u, .ref v])) (hu : At false H u D) (hv : At false H v r)
    (e' : H T' = some (.tup [.int c', .ref u', .ref v'])) (hu' : At false H u' D') (hv' : At false H v' r') (q : Q (.bl (!decide (c = c' ∧ D = D' ∧ r = r'))) H) : rNeD K (.ref T) (.ref T') H Q :=
  ⟨_, _, dp3 e hu hv, dp3 e' hu' hv', shaped3 .., shaped3 .., by rw [eqv3]; exact q⟩
theorem eq3 {K : PySem.W.Frag} {H : Hp} {T u v T' u' v' : Addr} {c c' : Int} {D r D' r' : List Int} {Q : VK} (e : H T = some (.tup [.int c, .ref u, .ref v])) (hu : At false H u D) (hv : At false H v r)
    (e' : H T' = some (.tup [.int c', .ref u', .ref v'])) (hu' : At false H u' D') (hv' : At false H v' r') (q : Q (.bl (decide (c = c' ∧ D = D' ∧ r = r'))) H) : rEqD K (.ref T) (.ref T') H Q :=
  ⟨_, _, dp3 e hu hv, dp3 e' hu' hv', shaped3 .., shaped3 .., by rw [eqv3]; exact q⟩
def spLnPB : Sp := fun vs H Q _ => ∃ (k : Bool) (a : Addr) (p : List Int), vs = [.ref a] ∧ Ln k H a p ∧ Bd k13 p ∧ NewL H (plF p) Q
def spLComm : Sp := fun vs H Q _ => ∃ (a b : Addr) (p q : List Int), vs = [.ref a, .ref b] ∧ At false H a p ∧ At false H b q ∧
  p.length ≤ 8 ∧ q.length ≤ 8 ∧ Cn p ∧ Cn q ∧ Bd 8 (plF p) ∧ Bd 8 (plF q) ∧ Bd k13 p ∧ Bd k13 q ∧
  ∀ (H' : Hp) (u : Addr) (g : List Int), Same H H' → H u = none → At false H' u g → Gc (plF p) (plF q) g → Bd k9 g → g.length ≤ 8 → Q (.ref u) H'
theorem few (A B : Nat) : ∀ (q : List Int) (f : Fn) (i : Nat), (∀ z ∈ q, z.natAbs ≤ B) → (∀ n, (f n).natAbs ≤ A) → (cv (co q) f i).natAbs ≤ q.length * (B * A)
  | [], f, i, _, _ => by rw [co_nil, cv_zero]; simp
  | b :: q, f, i, hq, hf => by
    have z : (fun n => co (b :: q) (n + 1)) = co q := by funext n; exact co_s b q n
    have h1 : (b * f i).natAbs ≤ B * A := by
      rw [Int.natAbs_mul]
      exact Nat.mul_le_mul (hq b List.mem_cons_self) (hf i)
    cases i with
    | zero =>
      rw [cv, co_0, List.length_cons, Nat.add_mul, Nat.one_mul]
      exact Nat.le_trans h1 (Nat.le_add_left _ _)
    | succ i =>
      have ih := few A B q f i (fun z hz => hq z (List.mem_cons_of_mem _ hz)) hf
      rw [cv, z, co_0, List.length_cons, Nat.add_mul, Nat.one_mul]
      have := Int.natAbs_add_le (b * f (i + 1)) (cv (co q) f i)
      have h2 : (b * f (i + 1)).natAbs ≤ B * A := by
        rw [Int.natAbs_mul]
        exact Nat.mul_le_mul (hq b List.mem_cons_self) (hf (i + 1))
      omega
theorem mul_few {p q : List Int} {A B L k : Nat} (hp : ∀ z ∈ p, z.natAbs ≤ A) (hq : ∀ z ∈ q, z.natAbs ≤ B) (l : q.length ≤ L) (h : L * (B * A) < 2 ^ k) : Bd k (mulF p q) := bd_of fun i => by
  rw [co_mul, cv_comm]
  have := few A B q (co p) i hq fun n => by
    by_cases e : n < p.length
    · rw [co_at e]; exact hp _ (List.getElem_mem e)
    · rw [co_big (by omega)]; exact Nat.zero_le _
  have := Nat.mul_le_mul_right (B * A) l
  omega
/-- one step of the law's own common part -/
theorem pseudo {P S D r r' : List Int} {c t x : Int} {w : Nat} (c0 : c ≠ 0) (hS : S ≠ []) (cS : Cn S) (ht : co S (S.length - 1) = t) (hx : co r (r.length - 1) = x) (l : S.length ≤ r.length) (hw : r.length - S.length = w)
    (eq : ∀ i, c * co P i = cv (co D) (co S) i + co r i) (cr : Cn r') (er : ∀ i, co r' i = t * co r i + -x * (if w ≤ i then co S (i - w) else 0)) :
    c * t ≠ 0 ∧ (∃ D', ∀ i, c * t * co P i = cv (co D') (co S) i + co r' i) ∧ r'.length < r.length := by
  have ls : 0 < S.length := List.length_pos_iff.mpr hS
  have t0 : t ≠ 0 := by rw [← ht]; exact cn_last cS hS
  refine ⟨Int.mul_ne_zero c0 t0, ⟨addF (sclF t D) (shF w [x]), fun i => ?_⟩, ?_⟩
  · have e : co (addF (sclF t D) (shF w [x])) = fun n => (fun n => t * co D n) n + (fun n => if n = w then x else 0) n := by
      funext n
      rw [co_add, co_scl, co_sh]
      by_cases h : n = w
      · subst h; simp [co]
      · by_cases h2 : w ≤ n
        · have : co [x] (n - w) = 0 := co_big (by simp; omega)
          simp [h, h2, this]
        · simp [h, h2]
    rw [e, cv_add_l, cv_scl_l, cv_sh, er]
    have := eq i
    split <;> grind
  · have := length_le_of cr (k := r.length - 1) fun i hi => by
      rw [er]
      by_cases e : i = r.length - 1
      · rw [if_pos (by omega), e, show r.length - 1 - w = S.length - 1 by omega, ht, hx]; grind
      · rw [co_big (p := r) (by omega), if_pos (by omega), co_big (p := S) (by omega)]; grind
    omega
theorem k9_val : k9 = 9000 := by unfold k9; rfl
theorem k13_val : k13 = 13500 := by unfold k13; rfl
theorem k9_13 {a b : Nat} (h : a + b ≤ 4500) : a + k9 + b ≤ k13 := by rw [k9_val, k13_val]; omega
theorem nil_bd (k : Nat) : Bd k [] := fun z hz => nomatch hz
theorem cn_lit {p : List Int} {z : Int} (h : p.getLast? = some z) (n : z ≠ 0) : Cn p := fun y hy => by rw [h] at hy; cases hy; exact n
theorem dv_one : Dv [1, 0, 1] [1, 2] 4 [-1, 2] [5] := dv_is (by decide) (cn_lit (z := 2) rfl (by decide)) (cn_lit (z := 5) rfl (by decide)) (by decide) (by decide) fun d _ h _ => by
  have h0 := h 0
  have e : co [-1, 2] 0 = -1 := rfl
  rw [e] at h0
  exact Int.dvd_neg.mp h0
theorem dv_two : Dv [3] [0, 1] 1 [] [3] := dv_is (by decide) cn_nil (cn_lit (z := 3) rfl (by decide)) (by decide) (by decide) fun d h _ _ => h
theorem dv_nil {q : List Int} (h : q ≠ []) : Dv [] q 1 [] [] := dv_is (by decide) cn_nil cn_nil (List.length_pos_iff.mpr h) (by simp [mulF, sclF, addF]) fun d h _ _ => h
theorem bd_lit {p : List Int} {k : Nat} (h : (p.all fun z => decide (z.natAbs < 2 ^ k)) = true) : Bd k p := fun z hz => of_decide_eq_true (List.all_eq_true.mp h z hz)
end Kr
namespace Kr
open PySem PySem.Spec
open PyProof.Rows L2
def spDivR : Sp := fun vs H Q _ => ∃ (a b : Addr) (p r : List Int), vs = [.ref a, .ref b] ∧ At false H a p ∧ At false H b r ∧ Cn p ∧ Cn r ∧ p.length ≤ 9 ∧ r.length ≤ 6 ∧ r ≠ [] ∧
  Bd 12 p ∧ Bd 4 r ∧ ∀ H', Same H H' → Q (.bl true) H'
def spCommR : Sp := fun vs H Q _ => ∃ (a b c e : Addr) (p r s : List Int), vs = [.ref a, .ref b, .ref c, .ref e] ∧ PotAt H a ∧ At false H b p ∧ At false H c r ∧ At false H e s ∧ b ≠ a ∧ c ≠ a ∧ e ≠ a ∧
  Cn p ∧ Cn r ∧ Cn s ∧ p ≠ [] ∧ r ≠ [] ∧ s ≠ [] ∧ p.length ≤ 5 ∧ r.length ≤ 4 ∧ s.length ≤ 4 ∧ (∀ z ∈ p, z.natAbs ≤ 8) ∧ (∀ z ∈ r, z.natAbs ≤ 8) ∧ (∀ z ∈ s, z.natAbs ≤ 6) ∧
  ∀ H', Chg a H H' → PotAt H' a → Q (.bl true) H'
def topS (i : Nat) : Stmt :=
  PySem.Challenge.pw_curvepieces_k12_whole_division_and_commo.main.body.getD i (.Pass ⟨0, 0, 0, 0⟩)
abbrev s__law_pot : Stmt := topS 32
theorem S__law_pot : FnScope ["_law_script", "_law_k", "_law_cell"]
    ["_law_script", "_law_k"] (defScope s__law_pot) :=
  ⟨rfl, rfl, rfl, by decide +kernel, rfl, by decide +kernel, by decide +kernel⟩
abbrev s__law_draw : Stmt := topS 33
theorem S__law_draw : FnScope ["_law_pot_here", "_law_many", "_law_digit"]
    ["_law_pot_here", "_law_many"] (defScope s__law_draw) :=
  ⟨rfl, rfl, rfl, by decide +kernel, rfl, by decide +kernel, by decide +kernel⟩
abbrev s__law_pick : Stmt := topS 34
theorem S__law_pick : FnScope ["_law_pot_here", "_law_some"]
    ["_law_pot_here", "_law_some"] (defScope s__law_pick) :=
  ⟨rfl, rfl, rfl, by decide +kernel, rfl, by decide +kernel, by decide +kernel⟩
abbrev s__law_line : Stmt := topS 41
theorem S__law_line : FnScope ["_law_pot_here", "_law_most", "_law_wide", "_law_found", "_law_power"]
    ["_law_pot_here", "_law_most", "_law_wide"] (defScope s__law_line) :=
  ⟨rfl, rfl, rfl, by decide +kernel, rfl, by decide +kernel, by decide +kernel⟩
abbrev s_is_integer : Stmt := topS 9
theorem S_is_integer : FnScope ["value"]
    ["value"] (defScope s_is_integer) :=
  ⟨rfl, rfl, rfl, by decide +kernel, rfl, by decide +kernel, by decide +kernel⟩
abbrev s_is_list : Stmt := topS 10
theorem S_is_list : FnScope ["value"]
    ["value"] (defScope s_is_list) :=
  ⟨rfl, rfl, rfl, by decide +kernel, rfl, by decide +kernel, by decide +kernel⟩
abbrev s_is_line : Stmt := topS 23
theorem S_is_line : FnScope ["value", "number"]
    ["value"] (defScope s_is_line) :=
  ⟨rfl, rfl, rfl, by decide +kernel, rfl, by decide +kernel, by decide +kernel⟩
abbrev s_trimmed : Stmt := topS 12
theorem S_trimmed : FnScope ["numbers", "size"]
    ["numbers"] (defScope s_trimmed) :=
  ⟨rfl, rfl, rfl, by decide +kernel, rfl, by decide +kernel, by decide +kernel⟩
abbrev s_scaled : Stmt := topS 13
theorem S_scaled : FnScope ["numbers", "factor", "number"]
    ["numbers", "factor"] (defScope s_scaled) :=
  ⟨rfl, rfl, rfl, by decide +kernel, rfl, by decide +kernel, by decide +kernel⟩
abbrev s_poly_sum : Stmt := topS 14
theorem S_poly_sum : FnScope ["one", "two", "long", "short", "both", "a", "b"]
    ["one", "two"] (defScope s_poly_sum) :=
  ⟨rfl, rfl, rfl, by decide +kernel, rfl, by decide +kernel, by decide +kernel⟩
abbrev s_poly_less : Stmt := topS 15
theorem S_poly_less : FnScope ["one", "two"]
    ["one", "two"] (defScope s_poly_less) :=
  ⟨rfl, rfl, rfl, by decide +kernel, rfl, by decide +kernel, by decide +kernel⟩
abbrev s_poly_times : Stmt := topS 16
theorem S_poly_times : FnScope ["one", "two", "result", "i", "a", "j", "b"]
    ["one", "two"] (defScope s_poly_times) :=
  ⟨rfl, rfl, rfl, by decide +kernel, rfl, by decide +kernel, by decide +kernel⟩
abbrev s_content : Stmt := topS 17
theorem S_content : FnScope ["numbers", "common", "number"]
    ["numbers"] (defScope s_content) :=
  ⟨rfl, rfl, rfl, by decide +kernel, rfl, by decide +kernel, by decide +kernel⟩
abbrev s_poly_plain : Stmt := topS 18
theorem S_poly_plain : FnScope ["numbers", "common", "number"]
    ["numbers"] (defScope s_poly_plain) :=
  ⟨rfl, rfl, rfl, by decide +kernel, rfl, by decide +kernel, by decide +kernel⟩
abbrev s_poly_divided : Stmt := topS 19
theorem S_poly_divided : FnScope ["one", "two", "least", "rest", "quotient", "top", "factor", "number", "shift", "part"]
    ["one", "two"] (defScope s_poly_divided) :=
  ⟨rfl, rfl, rfl, by decide +kernel, rfl, by decide +kernel, by decide +kernel⟩
abbrev s_check_line : Stmt := topS 24
theorem S_check_line : FnScope ["line"]
    ["line"] (defScope s_check_line) :=
  ⟨rfl, rfl, rfl, by decide +kernel, rfl, by decide +kernel, by decide +kernel⟩
abbrev s_check_lines : Stmt := topS 25
theorem S_check_lines : FnScope ["line", "other"]
    ["line", "other"] (defScope s_check_lines) :=
  ⟨rfl, rfl, rfl, by decide +kernel, rfl, by decide +kernel, by decide +kernel⟩
abbrev s_line_sum : Stmt := topS 27
theorem S_line_sum : FnScope ["line", "other"]
    ["line", "other"] (defScope s_line_sum) :=
  ⟨rfl, rfl, rfl, by decide +kernel, rfl, by decide +kernel, by decide +kernel⟩
abbrev s_line_times : Stmt := topS 28
theorem S_line_times : FnScope ["line", "other", "product"]
    ["line", "other"] (defScope s_line_times) :=
  ⟨rfl, rfl, rfl, by decide +kernel, rfl, by decide +kernel, by decide +kernel⟩
abbrev s_plain_line : Stmt := topS 26
theorem S_plain_line : FnScope ["line"]
    ["line"] (defScope s_plain_line) :=
  ⟨rfl, rfl, rfl, by decide +kernel, rfl, by decide +kernel, by decide +kernel⟩
abbrev s_poly_common : Stmt := topS 20
theorem S_poly_common : FnScope ["one", "two", "first", "second"]
    ["one", "two"] (defScope s_poly_common) :=
  ⟨rfl, rfl, rfl, by decide +kernel, rfl, by decide +kernel, by decide +kernel⟩
abbrev s_line_divided : Stmt := topS 29
theorem S_line_divided : FnScope ["line", "other"]
    ["line", "other"] (defScope s_line_divided) :=
  ⟨rfl, rfl, rfl, by decide +kernel, rfl, by decide +kernel, by decide +kernel⟩
abbrev s_line_common : Stmt := topS 30
theorem S_line_common : FnScope ["line", "other"]
    ["line", "other"] (defScope s_line_common) :=
  ⟨rfl, rfl, rfl, by decide +kernel, rfl, by decide +kernel, by decide +kernel⟩
abbrev s__law_trim : Stmt := topS 35
theorem S__law_trim : FnScope ["_law_numbers", "_law_found"]
    ["_law_numbers"] (defScope s__law_trim) :=
  ⟨rfl, rfl, rfl, by decide +kernel, rfl, by decide +kernel, by decide +kernel⟩
abbrev s__law_sum : Stmt := topS 36
theorem S__law_sum : FnScope ["_law_line_here", "_law_other", "_law_factor", "_law_wide", "_law_near", "_law_far", "_law_one", "_law_two"]
    ["_law_line_here", "_law_other", "_law_factor"] (defScope s__law_sum) :=
  ⟨rfl, rfl, rfl, by decide +kernel, rfl, by decide +kernel, by decide +kernel⟩
abbrev s__law_times : Stmt := topS 37
theorem S__law_times : FnScope ["_law_line_here", "_law_other", "_law_found", "_law_at", "_law_near", "_law_to", "_law_far"]
    ["_law_line_here", "_law_other"] (defScope s__law_times) :=
  ⟨rfl, rfl, rfl, by decide +kernel, rfl, by decide +kernel, by decide +kernel⟩
abbrev s__law_greatest : Stmt := topS 38
theorem S__law_greatest : FnScope ["_law_some", "_law_found", "_law_number", "_law_other"]
    ["_law_some"] (defScope s__law_greatest) :=
  ⟨rfl, rfl, rfl, by decide +kernel, rfl, by decide +kernel, by decide +kernel⟩
abbrev s__law_plain : Stmt := topS 39
theorem S__law_plain : FnScope ["_law_line_here", "_law_common_here", "_law_number"]
    ["_law_line_here"] (defScope s__law_plain) :=
  ⟨rfl, rfl, rfl, by decide +kernel, rfl, by decide +kernel, by decide +kernel⟩
abbrev s__law_common : Stmt := topS 40
theorem S__law_common : FnScope ["_law_line_here", "_law_other", "_law_near", "_law_far", "_law_rest", "_law_number"]
    ["_law_line_here", "_law_other"] (defScope s__law_common) :=
  ⟨rfl, rfl, rfl, by decide +kernel, rfl, by decide +kernel, by decide +kernel⟩
abbrev s__law_divided_right : Stmt := topS 42
theorem S__law_divided_right : FnScope ["_law_one", "_law_other", "_law_shown", "_law_told", "_law_number", "_law_quotient", "_law_rest", "_law_coefficient"]
    ["_law_one", "_law_other"] (defScope s__law_divided_right) :=
  ⟨rfl, rfl, rfl, by decide +kernel, rfl, by decide +kernel, by decide +kernel⟩
abbrev s__law_common_right : Stmt := topS 43
theorem S__law_common_right : FnScope ["_law_pot_here", "_law_one", "_law_other", "_law_shared", "_law_near", "_law_far", "_law_due", "_law_apart", "_law_number", "_law_coefficient"]
    ["_law_pot_here", "_law_one", "_law_other", "_law_shared"] (defScope s__law_common_right) :=
  ⟨rfl, rfl, rfl, by decide +kernel, rfl, by decide +kernel, by decide +kernel⟩
abbrev s__law_right : Stmt := topS 44
theorem S__law_right : FnScope ["_law_pot_here", "_law_one", "_law_other", "_law_shared", "_law_rest"]
    ["_law_pot_here"] (defScope s__law_right) :=
  ⟨rfl, rfl, rfl, by decide +kernel, rfl, by decide +kernel, by decide +kernel⟩
abbrev s_law : Stmt := topS 45
theorem S_law : FnScope ["_law_script"]
    ["_law_script"] (defScope s_law) :=
  ⟨rfl, rfl, rfl, by decide +kernel, rfl, by decide +kernel, by decide +kernel⟩
/-- what the top has written -/
structure Top (K : PySem.W.Frag) (mg : Str → Option Value) : Prop where
  d__law_pot : Df K mg "_law_pot" s__law_pot ["_law_script", "_law_k"]
  d__law_draw : Df K mg "_law_draw" s__law_draw ["_law_pot_here", "_law_many"]
  d__law_pick : Df K mg "_law_pick" s__law_pick ["_law_pot_here", "_law_some"]
  d__law_line : Df K mg "_law_line" s__law_line ["_law_pot_here", "_law_most", "_law_wide"]
  d_is_integer : Df K mg "is_integer" s_is_integer ["value"]
  d_is_list : Df K mg "is_list" s_is_list ["value"]
  d_is_line : Df K mg "is_line" s_is_line ["value"]
  d_trimmed : Df K mg "trimmed" s_trimmed ["numbers"]
  d_scaled : Df K mg "scaled" s_scaled ["numbers", "factor"]
  d_poly_sum : Df K mg "poly_sum" s_poly_sum ["one", "two"]
  d_poly_less : Df K mg "poly_less" s_poly_less ["one", "two"]
  d_poly_times : Df K mg "poly_times" s_poly_times ["one", "two"]
  d_content : Df K mg "content" s_content ["numbers"]
  d_poly_plain : Df K mg "poly_plain" s_poly_plain ["numbers"]
  d_poly_divided : Df K mg "poly_divided" s_poly_divided ["one", "two"]
  d_check_line : Df K mg "check_line" s_check_line ["line"]
  d_check_lines : Df K mg "check_lines" s_check_lines ["line", "other"]
  d_line_sum : Df K mg "line_sum" s_line_sum ["line", "other"]
  d_line_times : Df K mg "line_times" s_line_times ["line", "other"]
  d_plain_line : Df K mg "plain_line" s_plain_line ["line"]
  d_poly_common : Df K mg "poly_common" s_poly_common ["one", "two"]
  d_line_divided : Df K mg "line_divided" s_line_divided ["line", "other"]
  d_line_common : Df K mg "line_common" s_line_common ["line", "other"]
  d__law_trim : Df K mg "_law_trim" s__law_trim ["_law_numbers"]
  d__law_sum : Df K mg "_law_sum" s__law_sum ["_law_line_here", "_law_other", "_law_factor"]
  d__law_times : Df K mg "_law_times" s__law_times ["_law_line_here", "_law_other"]
  d__law_greatest : Df K mg "_law_greatest" s__law_greatest ["_law_some"]
  d__law_plain : Df K mg "_law_plain" s__law_plain ["_law_line_here"]
  d__law_common : Df K mg "_law_common" s__law_common ["_law_line_here", "_law_other"]
  d__law_divided_right : Df K mg "_law_divided_right" s__law_divided_right ["_law_one", "_law_other"]
  d__law_common_right : Df K mg "_law_common_right" s__law_common_right ["_law_pot_here", "_law_one", "_law_other", "_law_shared"]
  d__law_right : Df K mg "_law_right" s__law_right ["_law_pot_here"]
  d_law : Df K mg "law" s_law ["_law_script"]
  n_abs : mg "abs" = none
  n_all : mg "all" = none
  n_bool : mg "bool" = none
  c_LINE_DEGREE : ∃ t, mg "LINE_DEGREE" = some (.int 12 t)
  n_divmod : mg "divmod" = none
  n_enumerate : mg "enumerate" = none
  n_int : mg "int" = none
  n_isinstance : mg "isinstance" = none
  n_len : mg "len" = none
  n_list : mg "list" = none
  m_gcd : mg "gcd" = some (.builtin "math.gcd")
  n_max : mg "max" = none
  n_range : mg "range" = none
  n_repr : mg "repr" = none
  n_tuple : mg "tuple" = none
  n_zip : mg "zip" = none
def turn2 {α : Type} : List α → List α
  | [x, y] => [y, x]
  | _ => []
theorem turn2_rel : ∀ {zs : List V} {ws : List Value}, Vals zs ws → Vals (turn2 zs) (turn2 ws)
  | _, _, .nil => .nil
  | _, _, .cons _ .nil => .nil
  | _, _, .cons r1 (.cons r2 .nil) => .cons r2 (.cons r1 .nil)
  | _, _, .cons _ (.cons _ (.cons _ _)) => .nil
theorem kw_line_divided_other_line {K : PySem.W.Frag} {f : Addr} {fd : FuncData} (F : Fun K "line_divided" "line_divided" s_line_divided f fd) :
    KwB K fd ["line", "other"] ["other", "line"] turn2 turn2 := by
  obtain ⟨oc, od, kV, doc, pm, an, cdv, ct, osl, rfl, _, _⟩ := F.ex
  exact ⟨fun s ws _ hl => match ws, hl with | [a, b], _ => .of_eq rfl, turn2_rel⟩
theorem kw_line_common_other_line {K : PySem.W.Frag} {f : Addr} {fd : FuncData} (F : Fun K "line_common" "line_common" s_line_common f fd) :
    KwB K fd ["line", "other"] ["other", "line"] turn2 turn2 := by
  obtain ⟨oc, od, kV, doc, pm, an, cdv, ct, osl, rfl, _, _⟩ := F.ex
  exact ⟨fun s ws _ hl => match ws, hl with | [a, b], _ => .of_eq rfl, turn2_rel⟩
theorem ok__law_pot {P : Program} {w : World} {K : PySem.W.Frag}
    {mg : Str → Option Value} {base : Heap} (T : Top K mg) :
    Cl P w K mg base CX0 1 "_law_pot" s__law_pot ["_law_script", "_law_k"] (spPot K) := by
  refine T.d__law_pot.cl fun f fd F => body_0 F S__law_pot (fun vs H Q E h => by obtain ⟨_, _, _, rfl, _⟩ := h; rfl) ?_
  intro cdv A out s H vs Q E hG hr h
  obtain ⟨a, ns, k, rfl, hS, k0, k1, q⟩ := h
  refine ⟨_, (pss_cons (ps_set (i := 2) S__law_pot.nd rfl (Or.inl rfl) (pe_ifExp (pt_cmpR op_lt (pv 1) (pe_callB call_len_seq (by rfl) T.n_len PySem.boot_len (pa_cons (pv 0) pa_nil)) (nomark _)) (pe_callB call_abs (by rfl) T.n_abs (by decide +kernel) (pa_cons (pe_ix ix_list (pv 0) (pv 1) (fun _ _ => rfl)) pa_nil)) (pe_op op_add (pe_op op_mulX pe_int (pv 1)) pe_int)))
    (pss_one (ps_ret (pe_lst (pa_cons (pe_callB (call_max2 rfl) (by rfl) T.n_max (by decide +kernel) (pa_cons pe_int (pa_cons (pe_op op_sub (pv 2) (pe_op op_pow pe_int pe_int)) pa_nil))) (pa_cons (pe_op op_add (pe_op op_mod (pe_callTy call_int1 (by rfl) T.n_int (by decide +kernel) (pa_cons (pe_op op_add (pe_op op_add (pe_op op_mulX (pe_op op_mod (pe_callTy call_int1 (by rfl) T.n_int (by decide +kernel) (pa_cons (pv 2) pa_nil)) pe_int) pe_int) (pe_op op_mulX pe_int (pv 1))) pe_int) pa_nil)) pe_int) pe_int) pa_nil)))))), ?_⟩
  have lenE : ((ns.map V.int).length : Int) = ns.length := by rw [List.length_map]
  have e18 : (10 : Int) ^ (18 : Int).toNat = 1000000000000000000 := by decide
  refine ⟨_, rfl, _, rfl, a, _, rfl, .inl hS, _, _, rfl, rfl, _, rfl, ite2 (fun c => ?_) (fun c => ?_)⟩
  · have c0 : k < ((ns.map V.int).length : Int) := of_decide_eq_true c
    have c1 : k.toNat < ns.length := by omega
    have g : atI (ns.map V.int) k = some (.int ns[k.toNat]) := by
      have z := atI_nat (xs := ns.map V.int) (j := k.toNat) (v := .int ns[k.toNat]) (by
        rw [List.getElem?_map, List.getElem?_eq_getElem c1]; rfl)
      rwa [Int.toNat_of_nonneg k0] at z
    refine ⟨_, rfl, _, rfl, a, _, k, _, rfl, rfl, hS, g, _, rfl, ?_⟩
    refine ⟨_, rfl, _, _, rfl, rfl, ⟨by decide, by decide, by decide⟩, _, _, rfl, rfl, _, _, rfl, _, rfl, .inl ⟨_, rfl, _, _, rfl, rfl, (by show (0 : Int) < 2147483549; decide), _, _, rfl, rfl, mulx_ok (a := 32) (b := 20) (by omega) (by decide) (by decide), _, rfl, _, _, rfl, rfl, mulx_ok (a := 20) (b := 20) (by decide) (by omega) (by decide), _, _, rfl, rfl, _, _, rfl, rfl, .inl ⟨_, rfl, _, _, rfl, rfl, (by show (0 : Int) < 2147483563; decide), _, _, rfl, rfl, (by show 2 ≤ sizeLine; decide), fun p np => ?_⟩⟩⟩
    refine q _ p (Same.put np) np ⟨_, _, upd_same, ?_, ?_, ?_⟩
    · split <;> omega
    · omega
    · omega
  · refine ⟨_, rfl, _, _, rfl, rfl, mulx_ok (a := 20) (b := 20) (by decide) (by omega) (by decide), _, _, rfl, rfl, ?_⟩
    refine ⟨_, rfl, _, _, rfl, rfl, ⟨by decide, by decide, by decide⟩, _, _, rfl, rfl, _, _, rfl, _, rfl, .inl ⟨_, rfl, _, _, rfl, rfl, (by show (0 : Int) < 2147483549; decide), _, _, rfl, rfl, mulx_ok (a := 32) (b := 20) (by omega) (by decide) (by decide), _, rfl, _, _, rfl, rfl, mulx_ok (a := 20) (b := 20) (by decide) (by omega) (by decide), _, _, rfl, rfl, _, _, rfl, rfl, .inl ⟨_, rfl, _, _, rfl, rfl, (by show (0 : Int) < 2147483563; decide), _, _, rfl, rfl, (by show 2 ≤ sizeLine; decide), fun p np => ?_⟩⟩⟩
    refine q _ p (Same.put np) np ⟨_, _, upd_same, ?_, ?_, ?_⟩
    · split <;> omega
    · omega
    · omega
theorem ok__law_draw {P : Program} {w : World} {K : PySem.W.Frag}
    {mg : Str → Option Value} {base : Heap} (T : Top K mg) :
    Cl P w K mg base CX0 1 "_law_draw" s__law_draw ["_law_pot_here", "_law_many"] (spDraw) := by
  refine T.d__law_draw.cl fun f fd F => body_0 F S__law_draw (fun vs H Q E h => by obtain ⟨_, _, rfl, _⟩ := h; rfl) ?_
  intro cdv A out s H vs Q E hG hr h
  obtain ⟨a, m, rfl, ⟨P, R, hp, h0, h1, h2⟩, m0, m1, q⟩ := h
  refine ⟨_, (pss_cons (ps_if (pt_cmpR op_gt (pe_ix ix_list (pv 0) pe_int (fun _ _ => rfl)) pe_int (nomark _))
      (pss_cons (ps_asg (pe_callB call_divmodW (by rfl) T.n_divmod (by decide +kernel) (pa_cons (pe_ix ix_list (pv 0) pe_int (fun _ _ => rfl)) (pa_cons (pv 1) pa_nil))) (pg_tup rfl (pgs_cons (pg_sub (pv 0) pe_int set_list) (pgs_cons (pg_name (i := 2) S__law_draw.nd rfl (Or.inl rfl)) pgs_nil))))
    (pss_one (ps_ret (pv 2))))
      pss_nil)
    (pss_cons (ps_asg (pe_op op_mod (pe_callTy call_int1 (by rfl) T.n_int (by decide +kernel) (pa_cons (pe_op op_add (pe_op op_mulX (pe_ix ix_list (pv 0) pe_int (fun _ _ => rfl)) pe_int) pe_int) pa_nil)) pe_int) (pg_sub (pv 0) pe_int set_list))
    (pss_one (ps_ret (pe_op op_mod (pe_callTy call_int1 (by rfl) T.n_int (by decide +kernel) (pa_cons (pe_op op_fdivN (pe_op op_mod (pe_callTy call_int1 (by rfl) T.n_int (by decide +kernel) (pa_cons (pe_op op_mulX (pe_ix ix_list (pv 0) pe_int (fun _ _ => rfl)) (pe_ix ix_list (pv 0) pe_int (fun _ _ => rfl))) pa_nil)) pe_int) pe_int) pa_nil)) (pv 1)))))), ?_⟩
  refine ⟨_, rfl, a, _, 0, _, rfl, rfl, SqL.of hp, atI_nat (j := 0) rfl, _, _, rfl, rfl, _, rfl, ite2 (fun c => ?_) (fun c => ?_)⟩
  · have c0 : 0 < P := of_decide_eq_true c
    refine ⟨_, rfl, a, _, 0, _, rfl, rfl, SqL.of hp, atI_nat (j := 0) rfl, _, rfl, _, _, rfl, ⟨m0, PyProof.noPylong_small (by omega)⟩, fun p np => ?_⟩
    have pa : a ≠ p := ne_of_none hp np
    refine ⟨p, _, rfl, SqT.of upd_same, rfl, _, _, rfl, _, rfl, a, _, 0, 0, rfl, rfl, (upd_ne pa).trans hp, rfl, _, _, rfl, rfl, _, rfl, ?_⟩
    refine q _ _ (fun b o n e => ?_) ⟨P / m, R, upd_same, Int.ediv_nonneg h0 (by omega), h1, h2⟩ (Int.emod_nonneg P (by omega)) (Int.emod_lt_of_pos P m0)
    rw [upd_ne n, upd_ne (ne_of_none e np)]
    exact e
  · refine ⟨_, rfl, a, _, 1, _, rfl, rfl, SqL.of hp, atI_nat (j := 1) rfl, _, _, rfl, rfl, mulx_ok (a := 31) (b := 20) (by omega) (by decide) (by decide), _, _, rfl, rfl, .inl ⟨_, rfl, _, _, rfl, rfl, (by show (0 : Int) < 2147483563; decide), _, rfl, a, _, 1, 1, rfl, rfl, hp, rfl, ?_⟩⟩
    have r0 := Int.emod_nonneg (R * 40014 + 1109) (show (2147483563 : Int) ≠ 0 by decide)
    have r1 := Int.emod_lt_of_pos (R * 40014 + 1109) (show (0 : Int) < 2147483563 by decide)
    refine ⟨_, rfl, a, _, 1, _, rfl, rfl, SqL.of upd_same, atI_nat (j := 1) rfl, _, rfl, a, _, 1, _, rfl, rfl, SqL.of upd_same, atI_nat (j := 1) rfl, _, _, rfl, rfl, mulx_ok (a := 31) (b := 31) (by omega) (by omega) (by decide), .inl ⟨_, rfl, _, _, rfl, rfl, (by show (0 : Int) < 2147483587; decide), _, _, rfl, rfl, ⟨by decide, by decide⟩, .inl ⟨_, rfl, _, rfl, _, _, rfl, rfl, m0, ?_⟩⟩⟩
    exact q _ _ (fun b o n e => (upd_ne n).trans e) ⟨P, (R * 40014 + 1109) % 2147483563, upd_same, h0, r0, by omega⟩ (Int.emod_nonneg _ (by omega)) (Int.emod_lt_of_pos _ m0)
theorem ok__law_pick {P : Program} {w : World} {K : PySem.W.Frag}
    {mg : Str → Option Value} {base : Heap} (T : Top K mg)
    (C__law_draw : Cl P w K mg base CX0 1 "_law_draw" s__law_draw ["_law_pot_here", "_law_many"] (spDraw)) :
    Cl P w K mg base CX0 2 "_law_pick" s__law_pick ["_law_pot_here", "_law_some"] (spPick K) := by
  refine T.d__law_pick.cl fun f fd F => body_0 F S__law_pick (fun vs H Q E h => by obtain ⟨_, _, _, rfl, _⟩ := h; rfl) ?_
  intro cdv A out s H vs Q E hG hr h
  obtain ⟨a, b, xs, rfl, hp, ba, hS, ne, hl, q⟩ := h
  refine ⟨_, (pss_one (ps_ret (pe_ix ix_list (pv 1) (pe_u C__law_draw hG hr (by decide) (by rfl) pass0 (pa_cons (pv 0) (pa_cons (pe_callB call_len_seq (by rfl) T.n_len PySem.boot_len (pa_cons (pv 1) pa_nil)) pa_nil))) (fun _ _ => rfl)))), ?_⟩
  have l0 : 0 < xs.length := by
    cases xs with
    | nil => exact absurd rfl ne
    | cons x r => exact Nat.succ_pos _
  refine ⟨_, rfl, _, rfl, _, rfl, b, xs, rfl, .inl hS, a, _, rfl, hp, by omega, by omega, fun H1 d c p d0 d1 => ?_⟩
  have dl : d.toNat < xs.length := by omega
  have g : atI xs d = some xs[d.toNat] := by
    have z := atI_nat (xs := xs) (j := d.toNat) (v := xs[d.toNat]) (List.getElem?_eq_getElem dl)
    rwa [Int.toNat_of_nonneg d0] at z
  exact ⟨b, xs, d, _, rfl, rfl, c.seq ba hS, g, q H1 _ c p (List.getElem_mem dl)⟩
theorem ok__law_line {P : Program} {w : World} {K : PySem.W.Frag}
    {mg : Str → Option Value} {base : Heap} (T : Top K mg)
    (C__law_draw : Cl P w K mg base CX0 1 "_law_draw" s__law_draw ["_law_pot_here", "_law_many"] (spDraw))
    (C__law_pick : Cl P w K mg base CX0 2 "_law_pick" s__law_pick ["_law_pot_here", "_law_some"] (spPick K)) :
    Cl P w K mg base CX0 3 "_law_line" s__law_line ["_law_pot_here", "_law_most", "_law_wide"] (spLine) := by
  refine T.d__law_line.cl fun f fd F => body_0 F S__law_line (fun vs H Q E h => by obtain ⟨_, _, _, rfl, _⟩ := h; rfl) ?_
  intro cdv A out s H vs Q E hG hr h
  obtain ⟨a, n, w, rfl, hp, n0, w0, w1, q⟩ := h
  refine ⟨_, (pss_cons (ps_set (i := 3) S__law_line.nd rfl (Or.inl rfl) (pe_lst pa_nil))
    (pss_cons (ps_for PassesOwn.never rfl (pi_range1 (by rfl) T.n_range (pa_cons (pv 1) pa_nil)) (pg_name (i := 4) S__law_line.nd rfl (Or.inl rfl))
      (pss_one (ps_expr (pe_bm PySem.F.plainAttrs_list PySem.F.slot_list_append PySem.F.type_list_append mt_append (pv 3) (pa_cons (pe_op op_sub (pe_u C__law_draw hG hr (by decide) (by rfl) pass0 (pa_cons (pv 0) (pa_cons (pe_op op_add (pe_op op_mulX pe_int (pv 2)) pe_int) pa_nil))) (pv 2)) pa_nil)))))
    (pss_one (ps_ret (pe_op op_cat (pv 3) (pe_lst (pa_cons (pe_u C__law_pick hG hr (by decide) (by rfl) pass0 (pa_cons (pv 0) (pa_cons (pe_lst (pa_cons pe_int (pa_cons (pe_un un_neg pe_int) (pa_cons pe_int (pa_cons pe_int (pa_cons (pe_op op_sub pe_int (pv 2)) pa_nil)))))) pa_nil))) pa_nil))))))), ?_⟩
  have e62 : (2 : Int) ^ 62 = 4611686018427387904 := by decide
  refine ⟨Nat.zero_le _, fun o no => ?_⟩
  have oa := hp.ne no
  refine ⟨_, rfl, n, rfl, by omega, by omega, ?_⟩
  refine for_range (n := n) (fun i σ H' => ∃ (y : Option V) (ns : List Int), σ = [some (.ref a), some (.int n), some (.int w), some (.ref o), y] ∧
    Chg a H H' ∧ PotAt H' a ∧ H' o = some (.lst (ns.map V.int)) ∧ ns.length = i ∧ ∀ z ∈ ns, -w - 3 ≤ z ∧ z ≤ w + 3) ?_ ?_ ?_
  · exact ⟨none, [], rfl, .of (Same.put no), Same.pot (Same.put no) hp, upd_same, rfl, fun z hz => nomatch hz⟩
  · rintro i σ H1 hi ⟨y, ns, rfl, c1, p1, e1, l1, b1⟩
    refine ⟨_, rfl, .inl ⟨rfl, _, SqL.of e1⟩, _, rfl, _, rfl, _, _, rfl, rfl, mulx_ok (a := 20) (b := 21) (by decide) (by omega) (by decide), _, _, rfl, rfl,
      a, _, rfl, p1, by omega, by omega, fun H2 d c2 p2 d0 d1 => ?_⟩
    have e2 := c2 _ _ oa e1
    refine ⟨_, rfl, _, _, rfl, rfl, o, _, _, rfl, rfl, e2, small1000 (by rw [List.length_map]; omega), ?_⟩
    refine ⟨_, ns ++ [d - w], rfl, fun b x nb e => ?_, ?_, ?_, ?_, ?_⟩
    · have z := c2 _ _ nb (c1 _ _ nb e)
      rw [upd_ne (show b ≠ o from ne_of_none e no)]
      exact z
    · obtain ⟨P, R, x, y⟩ := p2
      exact ⟨P, R, (upd_ne oa.symm).trans x, y⟩
    · rw [upd_same, List.map_append]; rfl
    · rw [List.length_append, l1]; rfl
    · intro z hz
      rcases List.mem_append.mp hz with hz | hz
      · exact b1 z hz
      · have ez : z = d - w := by simpa using hz
        omega
  · rintro σ H1 ⟨y, ns, rfl, c1, p1, e1, l1, b1⟩
    refine ⟨_, rfl, _, rfl, _, rfl, _, rfl, _, _, rfl, rfl, (by show 5 ≤ sizeLine; decide), fun u nu => ?_⟩
    have ua := p1.ne nu
    have s2 : Same H1 _ := Same.put (o := .lst [.int 1, .int (-1), .int 2, .int 3, .int (1 - w)]) nu
    refine ⟨a, u, _, rfl, Same.pot s2 p1, ua, SqL.of upd_same, List.cons_ne_nil _ _, (by show 5 ≤ 1000; decide), fun H2 x c2 p2 hx => ?_⟩
    obtain ⟨z, rfl, hz, z0⟩ : ∃ z : Int, x = .int z ∧ (-w - 3 ≤ z ∧ z ≤ w + 3) ∧ z ≠ 0 := by
      simp only [List.mem_cons, List.not_mem_nil, or_false] at hx
      rcases hx with h | h | h | h | h
      · exact ⟨1, h, by omega, by omega⟩
      · exact ⟨-1, h, by omega, by omega⟩
      · exact ⟨2, h, by omega, by omega⟩
      · exact ⟨3, h, by omega, by omega⟩
      · exact ⟨1 - w, h, by omega, by omega⟩
    have e2 : H2 o = some (.lst (ns.map V.int)) := c2 _ _ oa (s2 _ _ e1)
    refine ⟨(by show 1 ≤ sizeLine; decide), fun v nv => ?_⟩
    have vo : o ≠ v := ne_of_none e2 nv
    have va : a ≠ v := (p2.ne nv).symm
    refine ⟨o, v, _, _, rfl, rfl, (upd_ne vo).trans e2, upd_same, Nat.le_of_lt (small1000 (by rw [List.length_map]; show ns.length + 1 ≤ 1000; omega)), fun r nr => ?_⟩
    have nr2 : H2 r = none := Same.free (Same.put nv) nr
    have rH : H r = none := by
      cases hr' : H r with
      | none => rfl
      | some ob =>
        have ra : r ≠ a := by
          have z : a ≠ r := ((Same.pot (Same.put nv) p2).ne nr).symm
          exact z.symm
        have := c2 _ _ ra (s2 _ _ (c1 _ _ ra hr'))
        rw [nr2] at this
        cases this
    refine q _ r (ns ++ [z]) (fun b x nb e => ?_) ?_ rH ?_ ?_ ?_ ?_ ?_
    · have z1 := c2 _ _ nb (s2 _ _ (c1 _ _ nb e))
      exact Same.put nr _ _ (Same.put nv _ _ z1)
    · exact Same.pot (Same.put nr) (Same.pot (Same.put nv) p2)
    · exact (Same.pot (Same.put nv) p2).ne nr
    · rw [upd_same, List.map_append]; rfl
    · rw [List.length_append, l1]; rfl
    · intro y hy
      rcases List.mem_append.mp hy with hy | hy
      · exact b1 y hy
      · have ey : y = z := by simpa using hy
        omega
    · intro y hy
      rw [List.getLast?_append] at hy
      have ey : z = y := by simpa using hy
      omega
theorem ok_is_integer {P : Program} {w : World} {K : PySem.W.Frag}
    {mg : Str → Option Value} {base : Heap} (T : Top K mg) :
    Cl P w K mg base CX0 1 "is_integer" s_is_integer ["value"] (spIsInt) := by
  refine T.d_is_integer.cl fun f fd F => body_0 F S_is_integer (fun vs H Q E h => by obtain ⟨_, _, rfl, _⟩ := h; rfl) ?_
  intro cdv A out s H vs Q E hG hr h
  obtain ⟨v, k, rfl, kd, q⟩ := h
  refine ⟨_, (pss_one (ps_ret (pe_and (pe_callB call_isi (by rfl) T.n_isinstance (by decide +kernel) (pa_cons (pv 0) (pa_cons (pe_bltn (v := .ty "int") (u := .type "int") (by rfl) T.n_int (by decide +kernel) rfl) pa_nil))) (pe_one (pe_not (pe_callB call_isi (by rfl) T.n_isinstance (by decide +kernel) (pa_cons (pv 0) (pa_cons (pe_bltn (v := .ty "bool") (u := .type "bool") (by rfl) T.n_bool (by decide +kernel) rfl) pa_nil)))))))), ?_⟩
  rw [kd.isI] at q
  refine ⟨_, rfl, _, _, _, _, _, rfl, .ty _, kd.ty, kit_int kd, _, rfl, ite2 (fun c => ?_) (fun c => ?_)⟩
  · refine ⟨_, rfl, _, _, _, _, _, rfl, .ty _, kd.ty, kit_bool kd, _, rfl, ?_⟩
    rw [c] at q
    exact q
  · rw [Bool.eq_false_iff.mpr c] at q
    exact q
theorem ok_is_list {P : Program} {w : World} {K : PySem.W.Frag}
    {mg : Str → Option Value} {base : Heap} (T : Top K mg) :
    Cl P w K mg base CX0 1 "is_list" s_is_list ["value"] (spIsList) := by
  refine T.d_is_list.cl fun f fd F => body_0 F S_is_list (fun vs H Q E h => by obtain ⟨_, _, rfl, _⟩ := h; rfl) ?_
  intro cdv A out s H vs Q E hG hr h
  obtain ⟨v, k, rfl, kd, q⟩ := h
  refine ⟨_, (pss_one (ps_ret (pe_callB call_isiT (by rfl) T.n_isinstance (by decide +kernel) (pa_cons (pv 0) (pa_cons (pe_tup (pa_cons (pe_bltn (v := .ty "list") (u := .type "list") (by rfl) T.n_list (by decide +kernel) rfl) (pa_cons (pe_bltn (v := .ty "tuple") (u := .type "tuple") (by rfl) T.n_tuple (by decide +kernel) rfl) pa_nil))) pa_nil))))), ?_⟩
  refine ⟨_, rfl, (by show 2 ≤ sizeLine; decide), fun p np => ?_⟩
  refine ⟨v, p, _, _, _, _, rfl, upd_same, .cons (.ty _) (.cons (.ty _) .nil), (kd.same (Same.put np)).ty, kit_lt kd, q _ (Same.put np)⟩
theorem ok_is_line {P : Program} {w : World} {K : PySem.W.Frag}
    {mg : Str → Option Value} {base : Heap} (T : Top K mg)
    (C_is_integer : Cl P w K mg base CX0 1 "is_integer" s_is_integer ["value"] (spIsInt))
    (C_is_list : Cl P w K mg base CX0 1 "is_list" s_is_list ["value"] (spIsList)) :
    Cl P w K mg base CX0 2 "is_line" s_is_line ["value"] (spIsLine) := by
  obtain ⟨_, c_LINE_DEGREE⟩ := T.c_LINE_DEGREE
  refine T.d_is_line.cl fun f fd F => body_0 F S_is_line (fun vs H Q E h => by obtain ⟨_, _, rfl, _⟩ := h; rfl) ?_
  intro cdv A out s H vs Q E hG hr h
  obtain ⟨v, b, rfl, hv, q⟩ := h
  cases hv with
  | oth kd e =>
    refine ⟨_, (pss_cons (ps_if ((pw_or (pt_not (pt_val (pe_u C_is_list hG hr (by decide) (by rfl) pass0 (pa_cons (pv 0) pa_nil)))) (pw_or1 (pt_cmpR op_gt (pe_callB call_len_seq (by rfl) T.n_len PySem.boot_len (pa_cons (pv 0) pa_nil)) (pe_op op_add (pe_glob (v := .int 12) (by rfl) c_LINE_DEGREE ⟨_, rfl⟩) pe_int) (nomark _))))).pt
      (pss_one (ps_ret pe_bl))
      pss_nil)
    (pss_cons (ps_if (pt_not (pt_val (pe_callB (cr_all rfl) (by rfl) T.n_all (by decide +kernel) (pa_cons (pe_lc (own := [("number", 1)]) (g := gName 1) (tt := tYes) rfl S_is_line.nd (pi_list (pv 0)) (blkOk_by (N := ["value", "number"]) (sc := defScope s_is_line) (by decide +kernel)) (fun _ _ _ _ _ => (pg_name (i := 1) S_is_line.nd rfl (Or.inl rfl))) (fun _ _ _ _ _ => pts_nil) (fun _ _ _ _ _ => (pe_u C_is_integer hG hr (by decide) (by rfl) pass0 (pa_cons (pv 1) pa_nil)))) pa_nil))))
      (pss_one (ps_ret pe_bl))
      pss_nil)
    (pss_one (ps_ret (pe_or (pe_cmpR op_eq (pe_callB call_len_seq (by rfl) T.n_len PySem.boot_len (pa_cons (pv 0) pa_nil)) pe_int (nomark _)) (pe_one (pe_cmpR op_ne (pe_ix ix_list (pv 0) (pe_un un_neg pe_int) (fun _ _ => rfl)) pe_int (nomark _)))))))), ?_⟩
    exact ⟨_, rfl, _, _, rfl, kd, fun H1 s1 => ⟨_, rfl, ifT (by rw [e]; rfl) (iteT (q H1 s1))⟩⟩
  | @lst a xs e hK hz =>
    refine ⟨_, (pss_cons (ps_if ((pw_or (pt_not (pt_val (pe_u C_is_list hG hr (by decide) (by rfl) pass0 (pa_cons (pv 0) pa_nil)))) (pw_or1 (pt_cmpR op_gt (pe_callB call_len_seq (by rfl) T.n_len PySem.boot_len (pa_cons (pv 0) pa_nil)) (pe_op op_add (pe_glob (v := .int 12) (by rfl) c_LINE_DEGREE ⟨_, rfl⟩) pe_int) (nomark _))))).pt
      (pss_one (ps_ret pe_bl))
      pss_nil)
    (pss_cons (ps_if (pt_not (pt_val (pe_callB (cr_all rfl) (by rfl) T.n_all (by decide +kernel) (pa_cons (pe_lc (own := [("number", 1)]) (g := gName 1) (tt := tYes) rfl S_is_line.nd (pi_list (pv 0)) (blkOk_by (N := ["value", "number"]) (sc := defScope s_is_line) (by decide +kernel)) (fun _ _ _ _ _ => (pg_name (i := 1) S_is_line.nd rfl (Or.inl rfl))) (fun _ _ _ _ _ => pts_nil) (fun _ _ _ _ _ => (pe_u C_is_integer hG hr (by decide) (by rfl) pass0 (pa_cons (pv 1) pa_nil)))) pa_nil))))
      (pss_one (ps_ret pe_bl))
      pss_nil)
    (pss_one (ps_ret (pe_or (pe_cmpR op_eq (pe_callB call_len_seq (by rfl) T.n_len PySem.boot_len (pa_cons (pv 0) pa_nil)) pe_int (nomark _)) (pe_one (pe_cmpR op_ne (pe_ix ix_list (pv 0) (pe_un un_neg pe_int) (fun _ _ => rfl)) pe_int (nomark _)))))))), ?_⟩
    refine ⟨_, rfl, _, _, rfl, .lst e, fun H1 s1 => ⟨_, rfl, iteF ?_⟩⟩
    refine ⟨_, rfl, a, xs, rfl, .inl (SqL.of (s1 _ _ e)), _, _, rfl, rfl, _, _, rfl, rfl, _, rfl, ite2 (fun c => ?_) (fun c => ?_)⟩
    · have c0 : (12 : Int) + 1 < xs.length := of_decide_eq_true c
      rw [lineB_long (by omega)] at q
      exact q H1 s1
    have hl : xs.length ≤ 13 := by
      have c0 : ¬ (12 : Int) + 1 < xs.length := fun z => c (decide_eq_true z)
      omega
    have eA : H1 a = some (.lst xs) := s1 _ _ e
    refine ⟨_, rfl, a, rfl, ⟨_, SqL.of eA⟩, fun D nD => ?_⟩
    refine lc_list (K := K) (xs := xs) (fun i H' => Same H1 H' ∧ H' D = some (.lst ((xs.take i).map fun x => V.bl (isI x)))) ⟨Same.put nD, upd_same⟩ (fun i H' _ z => SqL.of (z.1 _ _ eA)) ?_ ?_
    · rintro i x H' hx ⟨s2, eD⟩
      obtain ⟨kx, hk⟩ := hK x (List.mem_of_getElem? hx)
      refine ⟨rfl, ?_⟩
      refine yesT ?_
      refine ⟨_, rfl, x, kx, rfl, (hk.same s1).same s2, _, eD, small1000 (by rw [List.length_map, List.length_take]; omega), ?_, ?_⟩
      · intro b o eb
        rw [upd_ne (ne_of_none eb nD)]
        exact s2 _ _ eb
      · rw [upd_same, take_snoc hx, List.map_append]; rfl
    rintro H2 ⟨s2, eD⟩
    rw [List.take_length] at eD
    have eB : H2 D = some (.lst ((xs.map isI).map V.bl)) := by rw [eD, List.map_map]; rfl
    have eA2 : H2 a = some (.lst xs) := s2 _ _ eA
    refine ⟨D, xs.map isI, rfl, SqL.of eB, _, rfl, ?_⟩
    rw [all_id]
    match hA : xs.all isI with
    | false =>
      rw [lineB_odd hA] at q
      exact iteT (q H2 (s1.trans s2))
    | true =>
      refine iteF ?_
      refine ⟨_, rfl, a, xs, rfl, .inl (SqL.of eA2), rfl, _, rfl, ite2 (fun c => ?_) (fun c => ?_)⟩
      · have c0 : (xs.length : Int) = 0 := V.int.inj (of_decide_eq_true c)
        have hn : xs = [] := List.length_eq_zero_iff.mp (by omega)
        subst hn
        exact q H2 (s1.trans s2)
      · have hn : xs ≠ [] := fun z => by
          subst z
          exact c (decide_eq_true rfl)
        obtain ⟨v, g1, g2, g3⟩ := last_look hl hA hn
        refine ⟨_, rfl, _, rfl, a, xs, -1, v, rfl, rfl, SqL.of eA2, g1, g2, ?_⟩
        rw [g3]
        exact q H2 (s1.trans s2)
  | @tup a xs e hK hz =>
    refine ⟨_, (pss_cons (ps_if ((pw_or (pt_not (pt_val (pe_u C_is_list hG hr (by decide) (by rfl) pass0 (pa_cons (pv 0) pa_nil)))) (pw_or1 (pt_cmpR op_gt (pe_callB call_len_seq (by rfl) T.n_len PySem.boot_len (pa_cons (pv 0) pa_nil)) (pe_op op_add (pe_glob (v := .int 12) (by rfl) c_LINE_DEGREE ⟨_, rfl⟩) pe_int) (nomark _))))).pt
      (pss_one (ps_ret pe_bl))
      pss_nil)
    (pss_cons (ps_if (pt_not (pt_val (pe_callB (cr_all rfl) (by rfl) T.n_all (by decide +kernel) (pa_cons (pe_lc (own := [("number", 1)]) (g := gName 1) (tt := tYes) rfl S_is_line.nd (pi_tup (pv 0)) (blkOk_by (N := ["value", "number"]) (sc := defScope s_is_line) (by decide +kernel)) (fun _ _ _ _ _ => (pg_name (i := 1) S_is_line.nd rfl (Or.inl rfl))) (fun _ _ _ _ _ => pts_nil) (fun _ _ _ _ _ => (pe_u C_is_integer hG hr (by decide) (by rfl) pass0 (pa_cons (pv 1) pa_nil)))) pa_nil))))
      (pss_one (ps_ret pe_bl))
      pss_nil)
    (pss_one (ps_ret (pe_or (pe_cmpR op_eq (pe_callB call_len_seq (by rfl) T.n_len PySem.boot_len (pa_cons (pv 0) pa_nil)) pe_int (nomark _)) (pe_one (pe_cmpR op_ne (pe_ix ix_tup (pv 0) (pe_un un_neg pe_int) (fun _ _ => rfl)) pe_int (nomark _)))))))), ?_⟩
    refine ⟨_, rfl, _, _, rfl, .tup e, fun H1 s1 => ⟨_, rfl, iteF ?_⟩⟩
    refine ⟨_, rfl, a, xs, rfl, .inr (SqT.of (s1 _ _ e)), _, _, rfl, rfl, _, _, rfl, rfl, _, rfl, ite2 (fun c => ?_) (fun c => ?_)⟩
    · have c0 : (12 : Int) + 1 < xs.length := of_decide_eq_true c
      rw [lineB_long (by omega)] at q
      exact q H1 s1
    have hl : xs.length ≤ 13 := by
      have c0 : ¬ (12 : Int) + 1 < xs.length := fun z => c (decide_eq_true z)
      omega
    have eA : H1 a = some (.tup xs) := s1 _ _ e
    refine ⟨_, rfl, a, rfl, ⟨_, SqT.of eA⟩, fun D nD => ?_⟩
    refine lc_tup (K := K) (xs := xs) (fun i H' => Same H1 H' ∧ H' D = some (.lst ((xs.take i).map fun x => V.bl (isI x)))) ⟨Same.put nD, upd_same⟩ (fun i H' _ z => SqT.of (z.1 _ _ eA)) ?_ ?_
    · rintro i x H' hx ⟨s2, eD⟩
      obtain ⟨kx, hk⟩ := hK x (List.mem_of_getElem? hx)
      refine ⟨rfl, ?_⟩
      refine yesT ?_
      refine ⟨_, rfl, x, kx, rfl, (hk.same s1).same s2, _, eD, small1000 (by rw [List.length_map, List.length_take]; omega), ?_, ?_⟩
      · intro b o eb
        rw [upd_ne (ne_of_none eb nD)]
        exact s2 _ _ eb
      · rw [upd_same, take_snoc hx, List.map_append]; rfl
    rintro H2 ⟨s2, eD⟩
    rw [List.take_length] at eD
    have eB : H2 D = some (.lst ((xs.map isI).map V.bl)) := by rw [eD, List.map_map]; rfl
    have eA2 : H2 a = some (.tup xs) := s2 _ _ eA
    refine ⟨D, xs.map isI, rfl, SqL.of eB, _, rfl, ?_⟩
    rw [all_id]
    match hA : xs.all isI with
    | false =>
      rw [lineB_odd hA] at q
      exact iteT (q H2 (s1.trans s2))
    | true =>
      refine iteF ?_
      refine ⟨_, rfl, a, xs, rfl, .inr (SqT.of eA2), rfl, _, rfl, ite2 (fun c => ?_) (fun c => ?_)⟩
      · have c0 : (xs.length : Int) = 0 := V.int.inj (of_decide_eq_true c)
        have hn : xs = [] := List.length_eq_zero_iff.mp (by omega)
        subst hn
        exact q H2 (s1.trans s2)
      · have hn : xs ≠ [] := fun z => by
          subst z
          exact c (decide_eq_true rfl)
        obtain ⟨v, g1, g2, g3⟩ := last_look hl hA hn
        refine ⟨_, rfl, _, rfl, a, xs, -1, v, rfl, rfl, SqT.of eA2, g1, g2, ?_⟩
        rw [g3]
        exact q H2 (s1.trans s2)
theorem ok_trimmed {P : Program} {w : World} {K : PySem.W.Frag}
    {mg : Str → Option Value} {base : Heap} (T : Top K mg) :
    Cl P w K mg base CX0 1 "trimmed" s_trimmed ["numbers"] (spTrim) := by
  refine T.d_trimmed.cl fun f fd F => body_0 F S_trimmed (fun vs H Q E h => by obtain ⟨_, _, rfl, _⟩ := h; rfl) ?_
  intro cdv A out s H vs Q E hG hr h
  obtain ⟨a, p, rfl, ha, hl, q⟩ := h
  refine ⟨_, (pss_cons (ps_set (i := 1) S_trimmed.nd rfl (Or.inl rfl) (pe_callB call_len_seq (by rfl) T.n_len PySem.boot_len (pa_cons (pv 0) pa_nil)))
    (pss_cons (ps_while PassesOwn.never ((pw_and (pt_cmpR op_gt (pv 1) pe_int (nomark _)) (pw_and1 (pt_cmpR op_eq (pe_ix ix_list (pv 0) (pe_op op_sub (pv 1) pe_int) (fun _ _ => rfl)) pe_int (nomark _))))).pt
      (pss_one (ps_aug (i := 1) S_trimmed.nd rfl (Or.inl rfl) pe_int ip_sub)))
    (pss_one (ps_ret (pe_callTy call_list_of (by rfl) T.n_list (by decide +kernel) (pa_cons (pe_slice sl_list (pv 0) po_none (po_some (pv 1))) pa_nil)))))), ?_⟩
  have sa : SqL K H a (p.map V.int) := SqL.of ha
  refine ⟨_, rfl, a, _, rfl, .inl sa, ?_⟩
  rw [List.length_map]
  refine ⟨fun m σ H' => σ = [some (.ref a), some (.int (m : Nat))] ∧ H' = H ∧ m ≤ p.length ∧ ∀ i, m ≤ i → co p i = 0, ⟨p.length, rfl, rfl, Nat.le_refl _, fun i h => co_big h⟩, ?_⟩
  rintro m σ H' ⟨rfl, rfl, hn, hz⟩
  have fin : (m = 0 ∨ co p (m - 1) ≠ 0) → NewL H' (p.take m) Q := fun e => by rw [← trim_take hn hz e]; exact q
  have go : (m = 0 ∨ co p (m - 1) ≠ 0) → ∃ v, ([some (V.ref a), some (V.int (m : Nat))] : L2.St)[0]? = some (some v) ∧ ∃ w, ([some (V.ref a), some (V.int (m : Nat))] : L2.St)[1]? = some (some w) ∧ ∃ i, w = V.int i ∧ rSlL K v none (some i) H' (fun x H2 => ∃ (r : Addr) (ys : List V), [x] = [V.ref r] ∧ (SqL K H2 r ys ∨ SqT K H2 r ys) ∧ ∀ l, H2 l = none → Q (.ref l) (upd H2 l (.lst ys))) := fun e => by
    refine ⟨_, rfl, _, rfl, _, rfl, a, _, rfl, sa, ?_⟩
    rw [cut_to, ← List.map_take]
    exact fun r nr => ⟨r, _, rfl, .inl (SqL.of upd_same), fun l nl => fin e _ l ((Same.put nr).trans (Same.put nl)) (Same.free (Same.put nr) nl) upd_same⟩
  have e1 : 0 < m → ((m : Nat) : Int) - 1 = ((m - 1 : Nat) : Int) := fun h => by omega
  refine ⟨_, rfl, _, _, rfl, rfl, _, rfl, ite2 (fun c1 => ?_) (fun c1 => iteF (go (.inl ?_)))⟩
  · have c2 : (0 : Int) < (m : Nat) := of_decide_eq_true c1
    refine ⟨_, rfl, _, rfl, _, _, rfl, rfl, a, _, _, _, rfl, rfl, sa, (by rw [e1 (by omega)]; exact atI_int (by omega)), rfl, _, rfl, ite2 (fun c3 => ?_) (fun c3 => go (.inr fun z => c3 (decide_eq_true (by rw [z]))))⟩
    have c4 : co p (m - 1) = 0 := V.int.inj (of_decide_eq_true c3)
    refine ⟨fun σ' H'' => ∃ m', m' < m ∧ σ' = [some (.ref a), some (.int (m' : Nat))] ∧ H'' = H' ∧ m' ≤ p.length ∧ ∀ i, m' ≤ i → co p i = 0, fun _ _ z => z, ?_⟩
    refine ⟨_, rfl, _, _, rfl, rfl, m - 1, by omega, ?_, rfl, by omega, fun i hi => ?_⟩
    · rw [← e1 (by omega)]; rfl
    · by_cases e : i = m - 1
      · rw [e]; exact c4
      · exact hz i (by omega)
  · have c2 : ¬ (0 : Int) < (m : Nat) := fun z => c1 (decide_eq_true z)
    omega
theorem ok_scaled {P : Program} {w : World} {K : PySem.W.Frag}
    {mg : Str → Option Value} {base : Heap} (T : Top K mg)
    (C_trimmed : Cl P w K mg base CX0 1 "trimmed" s_trimmed ["numbers"] (spTrim)) :
    Cl P w K mg base CX0 2 "scaled" s_scaled ["numbers", "factor"] (spScaled) := by
  refine T.d_scaled.cl fun f fd F => body_0 F S_scaled (fun vs H Q E h => by obtain ⟨_, _, _, _, rfl, _⟩ := h; rfl) ?_
  intro cdv A out s H vs Q E hG hr h
  obtain ⟨k, a, p, f, rfl, ha, hl, hb, hf, q⟩ := h
  refine ⟨_, (pss_one (ps_ret (pe_u C_trimmed hG hr (by decide) (by rfl) pass0 (pa_cons (pe_lc (own := [("number", 2)]) (g := gName 2) (tt := tYes) rfl S_scaled.nd (pi_sq (pv 0)) (blkOk_by (N := ["numbers", "factor", "number"]) (sc := defScope s_scaled) (by decide +kernel)) (fun _ _ _ _ _ => (pg_name (i := 2) S_scaled.nd rfl (Or.inl rfl))) (fun _ _ _ _ _ => pts_nil) (fun _ _ _ _ _ => (pe_op op_mulX (pv 1) (pv 2)))) pa_nil)))), ?_⟩
  refine ⟨_, rfl, k, a, rfl, ⟨_, ha.sq⟩, fun D nD => ?_⟩
  refine lc_sq (K := K) (xs := p.map V.int) (fun i H' => Same H H' ∧ H' D = some (.lst ((sclF f (p.take i)).map V.int))) ⟨Same.put nD, upd_same⟩ (fun i H' _ z => (ha.same z.1).sq) ?_ ?_
  · rintro i x H' hx ⟨s2, eD⟩
    obtain ⟨rfl, li⟩ := int_at hx
    refine ⟨rfl, yesT ⟨_, rfl, _, rfl, _, _, rfl, rfl, mulx_big hf (hb.co i), _, eD, small1000 (by simp [sclF]; omega), Same.ov nD s2, ?_⟩⟩
    rw [upd_same, take_co li]; simp [sclF]
  rintro H1 ⟨s1, eD⟩
  rw [List.length_map, List.take_length] at eD
  exact ⟨D, _, rfl, eD, by simp [sclF]; omega, q.go s1⟩
theorem ok_poly_sum {P : Program} {w : World} {K : PySem.W.Frag}
    {mg : Str → Option Value} {base : Heap} (T : Top K mg)
    (C_trimmed : Cl P w K mg base CX0 1 "trimmed" s_trimmed ["numbers"] (spTrim)) :
    Cl P w K mg base CX0 2 "poly_sum" s_poly_sum ["one", "two"] (spPSum) := by
  refine T.d_poly_sum.cl fun f fd F => body_0 F S_poly_sum (fun vs H Q E h => by obtain ⟨_, _, _, _, _, _, rfl, _⟩ := h; rfl) ?_
  intro cdv A out s H vs Q E hG hr h
  obtain ⟨k, j, a, b, p, r, rfl, ha, hb, hl, hm, q⟩ := h
  refine ⟨_, (pss_cons (ps_asg (pe_ifExp (pt_cmpR op_ge (pe_callB call_len_seq (by rfl) T.n_len PySem.boot_len (pa_cons (pv 0) pa_nil)) (pe_callB call_len_seq (by rfl) T.n_len PySem.boot_len (pa_cons (pv 1) pa_nil)) (nomark _)) (pe_tup (pa_cons (pv 0) (pa_cons (pv 1) pa_nil))) (pe_tup (pa_cons (pv 1) (pa_cons (pv 0) pa_nil)))) (pg_tup rfl (pgs_cons (pg_name (i := 2) S_poly_sum.nd rfl (Or.inl rfl)) (pgs_cons (pg_name (i := 3) S_poly_sum.nd rfl (Or.inl rfl)) pgs_nil))))
    (pss_cons (ps_setLc (i := 4) (own := [("a", 5), ("b", 6)]) (g := gTup K 2 (gCons (gName 5) (gCons (gName 6) gNil))) (tt := tYes) rfl S_poly_sum.nd rfl rfl (sw_true rfl rfl rfl (by decide +kernel)) (pi_zipS (by rfl) T.n_zip (pa_cons (pv 2) (pa_cons (pv 3) pa_nil))) (blkOk_by (N := ["one", "two", "long", "short", "both", "a", "b"]) (sc := defScope s_poly_sum) (by decide +kernel)) (fun _ _ _ _ _ => (pg_tup rfl (pgs_cons (pg_name (i := 5) S_poly_sum.nd rfl (Or.inl rfl)) (pgs_cons (pg_name (i := 6) S_poly_sum.nd rfl (Or.inl rfl)) pgs_nil)))) (fun _ _ _ _ _ => pts_nil) (fun _ _ _ _ _ => (pe_op op_add (pv 5) (pv 6))))
    (pss_one (ps_ret (pe_u C_trimmed hG hr (by decide) (by rfl) pass0 (pa_cons (pe_op op_cat (pv 4) (pe_callTy call_list_of (by rfl) T.n_list (by decide +kernel) (pa_cons (pe_slice sl_sq (pv 2) (po_some (pe_callB call_len_seq (by rfl) T.n_len PySem.boot_len (pa_cons (pv 3) pa_nil))) po_none) pa_nil))) pa_nil)))))), ?_⟩
  refine ⟨_, rfl, a, _, rfl, ha.sq.or, _, rfl, b, _, rfl, hb.sq.or, _, _, rfl, rfl, _, rfl, ?_⟩
  rw [List.length_map, List.length_map]
  refine ite2 (fun c => ?_) (fun c => ?_)
  · have c0 : (r.length : Int) ≤ p.length := of_decide_eq_true c
    refine ⟨_, rfl, _, rfl, (by show 2 ≤ sizeLine; decide), fun T nT => ⟨T, _, rfl, SqT.of upd_same, rfl, ?_⟩⟩
    have s1 : Same H (upd H T (.tup [.ref a, .ref b])) := Same.put nT
    refine ⟨_, _, rfl, _, _, rfl, rfl, _, rfl, _, rfl, k, j, a, b, _, _, rfl, (ha.same s1).sq, (hb.same s1).sq, fun D nD => ?_⟩
    refine lc_zipS (K := K) (xs := p.map V.int) (ys := r.map V.int) r.length (by rw [List.length_map, List.length_map]; omega)
      (fun i H' => Same (upd H T (.tup [.ref a, .ref b])) H' ∧ H' D = some (.lst (((List.zipWith (· + ·) p r).take i).map V.int))) ⟨Same.put nD, upd_same⟩
      (fun i H' _ z => ⟨((ha.same s1).same z.1).sq, ((hb.same s1).same z.1).sq⟩) ?_ ?_
    · rintro i x y U H' hx hy ⟨s2, eD⟩ nU
      obtain ⟨rfl, lx⟩ := int_at hx
      obtain ⟨rfl, ly⟩ := int_at hy
      have s3 := s2.trans (Same.put (o := .tup [.int (co p i), .int (co r i)]) nU)
      refine ⟨U, _, rfl, SqT.of upd_same, rfl, _, _, rfl, _, _, rfl, rfl, rfl, yesT ⟨_, rfl, _, rfl, _, _, rfl, rfl, _, Same.put nU _ _ eD, small1000 (by rw [List.length_map, List.length_take, List.length_zipWith]; omega), Same.ov nD s3, ?_⟩⟩
      rw [upd_same, List.take_add_one, List.getElem?_eq_getElem (by rw [List.length_zipWith]; omega), List.getElem_zipWith, ← co_at lx, ← co_at ly]
      simp
    rintro H2 ⟨s2, eD⟩
    have s3 := s1.trans s2
    rw [List.take_of_length_le (by rw [List.length_zipWith]; exact Nat.min_le_right _ _)] at eD
    refine ⟨_, rfl, _, rfl, _, rfl, b, _, rfl, (hb.same s3).sq.or, _, rfl, k, a, _, rfl, (ha.same s3).sq, ?_⟩
    rw [List.length_map, cut_from, ← List.map_drop]
    refine fun H4 U s4 hU => ⟨U, _, rfl, hU.or, fun L nL => ⟨D, L, _, _, rfl, rfl, Same.put nL _ _ (s4 _ _ eD), upd_same, Nat.le_of_lt (small1000 (by rw [List.length_map, List.length_map, List.length_zipWith, List.length_drop]; omega)), fun R nR => ?_⟩⟩
    refine ⟨R, List.zipWith (· + ·) p r ++ p.drop r.length, rfl, (by show upd _ R _ R = _; rw [upd_same, List.map_append]), by rw [List.length_append, List.length_zipWith, List.length_drop]; omega, ?_⟩
    rw [← addF_zip p r (by omega)]
    exact q.go (((s3.trans s4).trans (Same.put nL)).trans (Same.put nR))
  · have c0 : ¬ (r.length : Int) ≤ p.length := fun z => c (decide_eq_true z)
    refine ⟨_, rfl, _, rfl, (by show 2 ≤ sizeLine; decide), fun T nT => ⟨T, _, rfl, SqT.of upd_same, rfl, ?_⟩⟩
    have s1 : Same H (upd H T (.tup [.ref b, .ref a])) := Same.put nT
    refine ⟨_, _, rfl, _, _, rfl, rfl, _, rfl, _, rfl, j, k, b, a, _, _, rfl, (hb.same s1).sq, (ha.same s1).sq, fun D nD => ?_⟩
    refine lc_zipS (K := K) (xs := r.map V.int) (ys := p.map V.int) p.length (by rw [List.length_map, List.length_map]; omega)
      (fun i H' => Same (upd H T (.tup [.ref b, .ref a])) H' ∧ H' D = some (.lst (((List.zipWith (· + ·) r p).take i).map V.int))) ⟨Same.put nD, upd_same⟩
      (fun i H' _ z => ⟨((hb.same s1).same z.1).sq, ((ha.same s1).same z.1).sq⟩) ?_ ?_
    · rintro i x y U H' hx hy ⟨s2, eD⟩ nU
      obtain ⟨rfl, lx⟩ := int_at hx
      obtain ⟨rfl, ly⟩ := int_at hy
      have s3 := s2.trans (Same.put (o := .tup [.int (co r i), .int (co p i)]) nU)
      refine ⟨U, _, rfl, SqT.of upd_same, rfl, _, _, rfl, _, _, rfl, rfl, rfl, yesT ⟨_, rfl, _, rfl, _, _, rfl, rfl, _, Same.put nU _ _ eD, small1000 (by rw [List.length_map, List.length_take, List.length_zipWith]; omega), Same.ov nD s3, ?_⟩⟩
      rw [upd_same, List.take_add_one, List.getElem?_eq_getElem (by rw [List.length_zipWith]; omega), List.getElem_zipWith, ← co_at lx, ← co_at ly]
      simp
    rintro H2 ⟨s2, eD⟩
    have s3 := s1.trans s2
    rw [List.take_of_length_le (by rw [List.length_zipWith]; exact Nat.min_le_right _ _)] at eD
    refine ⟨_, rfl, _, rfl, _, rfl, a, _, rfl, (ha.same s3).sq.or, _, rfl, j, b, _, rfl, (hb.same s3).sq, ?_⟩
    rw [List.length_map, cut_from, ← List.map_drop]
    refine fun H4 U s4 hU => ⟨U, _, rfl, hU.or, fun L nL => ⟨D, L, _, _, rfl, rfl, Same.put nL _ _ (s4 _ _ eD), upd_same, Nat.le_of_lt (small1000 (by rw [List.length_map, List.length_map, List.length_zipWith, List.length_drop]; omega)), fun R nR => ?_⟩⟩
    refine ⟨R, List.zipWith (· + ·) r p ++ r.drop p.length, rfl, (by show upd _ R _ R = _; rw [upd_same, List.map_append]), by rw [List.length_append, List.length_zipWith, List.length_drop]; omega, ?_⟩
    rw [← addF_zip r p (by omega), addF_comm r p]
    exact q.go (((s3.trans s4).trans (Same.put nL)).trans (Same.put nR))
theorem ok_poly_less {P : Program} {w : World} {K : PySem.W.Frag}
    {mg : Str → Option Value} {base : Heap} (T : Top K mg)
    (C_poly_sum : Cl P w K mg base CX0 2 "poly_sum" s_poly_sum ["one", "two"] (spPSum))
    (C_scaled : Cl P w K mg base CX0 2 "scaled" s_scaled ["numbers", "factor"] (spScaled)) :
    Cl P w K mg base CX0 3 "poly_less" s_poly_less ["one", "two"] (spPLess) := by
  refine T.d_poly_less.cl fun f fd F => body_0 F S_poly_less (fun vs H Q E h => by obtain ⟨_, _, _, _, _, _, rfl, _⟩ := h; rfl) ?_
  intro cdv A out s H vs Q E hG hr h
  obtain ⟨k, j, a, b, p, r, rfl, ha, hb, hl, hm, hB, q⟩ := h
  refine ⟨_, (pss_one (ps_ret (pe_u C_poly_sum hG hr (by decide) (by rfl) pass0 (pa_cons (pv 0) (pa_cons (pe_u C_scaled hG hr (by decide) (by rfl) pass0 (pa_cons (pv 1) (pa_cons (pe_un un_neg pe_int) pa_nil))) pa_nil))))), ?_⟩
  refine ⟨_, rfl, _, rfl, 1, rfl, j, b, r, -1, rfl, hb, by omega, hB, (by exact pow_big (k := 1) (by decide) (by decide)), fun H1 c s1 nc ec => ?_⟩
  refine ⟨k, false, a, c, p, _, rfl, ha.same s1, ec, hl, Nat.le_trans (trim_length _) (by simpa [sclF] using hm), ?_⟩
  rw [trim_ext (q := addF p (sclF (-1) r)) fun i => by rw [co_add, co_add, co_trim]]
  exact q.go s1
theorem ok_poly_times {P : Program} {w : World} {K : PySem.W.Frag}
    {mg : Str → Option Value} {base : Heap} (T : Top K mg) :
    Cl P w K mg base CX0 1 "poly_times" s_poly_times ["one", "two"] (spPTimes) := by
  refine T.d_poly_times.cl fun f fd F => body_0 F S_poly_times (fun vs H Q E h => by obtain ⟨_, _, _, _, _, _, rfl, _⟩ := h; rfl) ?_
  intro cdv A out s H vs Q E hG hr h
  obtain ⟨k, j, a, b, p, r, rfl, ha, hb, hl, hm, hP, hR, q⟩ := h
  refine ⟨_, (pss_cons (ps_if ((pw_or (pt_cmpR op_eq (pe_callB call_len_seq (by rfl) T.n_len PySem.boot_len (pa_cons (pv 0) pa_nil)) pe_int (nomark _)) (pw_or1 (pt_cmpR op_eq (pe_callB call_len_seq (by rfl) T.n_len PySem.boot_len (pa_cons (pv 1) pa_nil)) pe_int (nomark _))))).pt
      (pss_one (ps_ret (pe_lst pa_nil)))
      pss_nil)
    (pss_cons (ps_set (i := 2) S_poly_times.nd rfl (Or.inl rfl) (pe_op op_rep (pe_lst (pa_cons pe_int pa_nil)) (pe_op op_sub (pe_op op_add (pe_callB call_len_seq (by rfl) T.n_len PySem.boot_len (pa_cons (pv 0) pa_nil)) (pe_callB call_len_seq (by rfl) T.n_len PySem.boot_len (pa_cons (pv 1) pa_nil))) pe_int)))
    (pss_cons (ps_for PassesOwn.never rfl (pi_enumS (by rfl) T.n_enumerate (pa_cons (pv 0) pa_nil)) (pg_tup rfl (pgs_cons (pg_name (i := 3) S_poly_times.nd rfl (Or.inl rfl)) (pgs_cons (pg_name (i := 4) S_poly_times.nd rfl (Or.inl rfl)) pgs_nil)))
      (pss_one (ps_for PassesOwn.never rfl (pi_enumS (by rfl) T.n_enumerate (pa_cons (pv 1) pa_nil)) (pg_tup rfl (pgs_cons (pg_name (i := 5) S_poly_times.nd rfl (Or.inl rfl)) (pgs_cons (pg_name (i := 6) S_poly_times.nd rfl (Or.inl rfl)) pgs_nil)))
      (pss_one (ps_augS (pv 2) (pe_op op_add (pv 3) (pv 5)) get_L (pe_op op_mulX (pv 4) (pv 6)) ip_add set_list)))))
    (pss_one (ps_ret (pv 2)))))), ?_⟩
  refine ⟨_, rfl, a, _, rfl, ha.sq.or, rfl, _, rfl, ?_⟩
  rw [List.length_map]
  have none0 : p = [] ∨ r = [] → ∀ t, H t = none → Q (.ref t) (upd H t (.lst [])) := fun e t nt => q _ t (Same.put nt) nt (by rw [upd_same, mulF, if_pos e]; rfl)
  refine ite2 (fun c => iteT ⟨(by show 0 ≤ sizeLine; decide), none0 (.inl (List.length_eq_zero_iff.mp (by have := V.int.inj (of_decide_eq_true c); omega)))⟩) (fun c => ?_)
  have hp : p ≠ [] := fun z => c (by subst z; rfl)
  refine ⟨_, rfl, b, _, rfl, hb.sq.or, rfl, _, rfl, ?_⟩
  rw [List.length_map]
  refine ite2 (fun c => ⟨(by show 0 ≤ sizeLine; decide), none0 (.inr (List.length_eq_zero_iff.mp (by have := V.int.inj (of_decide_eq_true c); omega)))⟩) (fun c => ?_)
  have hr0 : r ≠ [] := fun z => c (by subst z; rfl)
  have lp : 0 < p.length := List.length_pos_iff.mpr hp
  have lr : 0 < r.length := List.length_pos_iff.mpr hr0
  refine ⟨(by show 1 ≤ sizeLine; decide), fun t nt => ?_⟩
  have s1 : Same H (upd H t (.lst [.int 0])) := Same.put nt
  refine ⟨_, rfl, a, _, rfl, (ha.same s1).sq.or, _, rfl, b, _, rfl, (hb.same s1).sq.or, _, _, rfl, rfl, _, _, rfl, rfl, ?_⟩
  rw [List.length_map, List.length_map]
  refine ⟨t, _, _, rfl, rfl, upd_same, (by omega), (by omega), (by show 1 * ((p.length : Int) + r.length - 1).toNat ≤ sizeLine; exact Nat.le_of_lt (small1000 (by omega))), ?_⟩
  rw [show ((p.length : Int) + r.length - 1).toNat = p.length + r.length - 1 by omega, rep0]
  intro o no
  have s2 : Same H (upd (upd H t (.lst [.int 0])) o (.lst ((List.replicate (p.length + r.length - 1) (0 : Int)).map V.int))) := s1.trans (Same.put no)
  have nH : H o = none := s1.free no
  refine ⟨_, rfl, k, a, _, rfl, (ha.same s2).sq, ?_⟩
  refine for_enumS (K := K) (xs := p.map V.int) (fun i σ H' => ∃ (R : List Int) (y3 y4 y5 y6 : Option V), σ = [some (.ref a), some (.ref b), some (.ref o), y3, y4, y5, y6] ∧
    Same H H' ∧ H' o = some (.lst (R.map V.int)) ∧ R.length = p.length + r.length - 1 ∧ ∀ t, t < R.length → co R t = cv (co (p.take i)) (co r) t) ?_ ?_ ?_ ?_
  · exact ⟨_, none, none, none, none, rfl, s2, upd_same, List.length_replicate, fun t _ => by rw [co_rep, List.take_zero, co_nil, cv_zero]⟩
  · rintro i σ H' _ ⟨R, y3, y4, y5, y6, rfl, s3, _⟩
    exact (ha.same s3).sq
  · rintro i x T σ H' hx ⟨R, y3, y4, y5, y6, rfl, s3, eo, lR, hR2⟩ nT
    obtain ⟨rfl, li⟩ := int_at hx
    refine ⟨T, _, rfl, SqT.of upd_same, rfl, _, _, rfl, _, _, rfl, rfl, ?_⟩
    have s4 := s3.trans (Same.put (o := .tup [.int (i : Nat), .int (co p i)]) nT)
    refine ⟨_, rfl, j, b, _, rfl, (hb.same s4).sq, ?_⟩
    refine for_enumS (K := K) (xs := r.map V.int) (fun m σ H' => ∃ (R : List Int) (y5 y6 : Option V), σ = [some (.ref a), some (.ref b), some (.ref o), some (.int (i : Nat)), some (.int (co p i)), y5, y6] ∧
      Same H H' ∧ H' o = some (.lst (R.map V.int)) ∧ R.length = p.length + r.length - 1 ∧ ∀ t, t < R.length → co R t = row p r i m t) ?_ ?_ ?_ ?_
    · exact ⟨R, y5, y6, rfl, s4, Same.put nT _ _ eo, lR, fun t ht => by rw [row_0]; exact hR2 t ht⟩
    · rintro m σ H' _ ⟨R, y5, y6, rfl, s3, _⟩
      exact (hb.same s3).sq
    · rintro m y U σ H' hy ⟨R, y5, y6, rfl, s5, eo, lR, hR3⟩ nU
      obtain ⟨rfl, lm⟩ := int_at hy
      have eo2 := Same.put (o := .tup [.int (m : Nat), .int (co r m)]) nU _ _ eo
      have s6 := s5.trans (Same.put (o := .tup [.int (m : Nat), .int (co r m)]) nU)
      obtain ⟨g1, g2⟩ := set_int (p := R) (i := i + m) (by omega) (co R (i + m) + co p i * co r m)
      refine ⟨U, _, rfl, SqT.of upd_same, rfl, _, _, rfl, _, _, rfl, rfl, ?_⟩
      refine ⟨_, rfl, _, rfl, _, rfl, _, _, rfl, rfl, o, _, i + m, _, rfl, rfl, SqL.of eo2, at_int (by omega), _, rfl, _, rfl, _, _, rfl, rfl, mulx_big (hP.co i) (hR.co m), _, _, rfl, rfl, o, _, _, _, rfl, rfl, eo2, g1, ?_⟩
      rw [g2]
      refine ⟨R.set (i + m) (co R (i + m) + co p i * co r m), _, _, rfl, Same.ov nH s6, upd_same, by rw [List.length_set]; exact lR, fun t ht => ?_⟩
      rw [List.length_set] at ht
      rw [co_set (by omega), row_s, hR3 _ (by omega)]
      by_cases e : t = i + m
      · rw [if_pos e, if_pos e, e]
      · rw [if_neg e, if_neg e, hR3 _ ht]
    · rintro σ H' ⟨R, y5, y6, rfl, s5, eo, lR, hR3⟩
      rw [List.length_map] at hR3
      exact ⟨R, _, _, _, _, rfl, s5, eo, lR, fun t ht => by rw [hR3 t ht, row_end li]⟩
  · rintro σ H' ⟨R, y3, y4, y5, y6, rfl, s3, eo, lR, hR2⟩
    rw [List.length_map, List.take_length] at hR2
    refine ⟨_, rfl, ?_⟩
    rw [← mul_tab hp hr0 lR hR2] at q
    exact q _ o s3 nH eo
theorem ok_content {P : Program} {w : World} {K : PySem.W.Frag}
    {mg : Str → Option Value} {base : Heap} (T : Top K mg) :
    Cl P w K mg base CX0 1 "content" s_content ["numbers"] (spContent) := by
  refine T.d_content.cl fun f fd F => body_0 F S_content (fun vs H Q E h => by obtain ⟨_, _, _, rfl, _⟩ := h; rfl) ?_
  intro cdv A out s H vs Q E hG hr h
  obtain ⟨k, a, p, rfl, ha, hl, q⟩ := h
  refine ⟨_, (pss_cons (ps_set (i := 1) S_content.nd rfl (Or.inl rfl) pe_int)
    (pss_cons (ps_for PassesOwn.never rfl (pi_sq (pv 0)) (pg_name (i := 2) S_content.nd rfl (Or.inl rfl))
      (pss_one (ps_set (i := 1) S_content.nd rfl (Or.inl rfl) (pe_callBfun cr_gcd (by rfl) T.m_gcd (pa_cons (pv 1) (pa_cons (pv 2) pa_nil))))))
    (pss_one (ps_ret (pv 1))))), ?_⟩
  refine ⟨_, rfl, k, a, rfl, ⟨_, ha.sq⟩, ?_⟩
  refine for_sq (K := K) (xs := p.map V.int) (fun i σ H' => ∃ y2 : Option V, σ = [some (.ref a), some (.int (cnt (p.take i) : Nat)), y2] ∧ H' = H) ?_ ?_ ?_ ?_
  · exact ⟨none, rfl, rfl⟩
  · rintro i σ H' _ ⟨y2, rfl, rfl⟩
    exact ha.sq
  · rintro i y σ H' hy ⟨y2, rfl, rfl⟩
    obtain ⟨rfl, li⟩ := int_at hy
    refine ⟨_, rfl, _, rfl, _, _, rfl, some (.int (co p i)), ?_, rfl⟩
    rw [take_co li, cnt_snoc]
    rfl
  · rintro σ H' ⟨y2, rfl, rfl⟩
    refine ⟨_, rfl, ?_⟩
    rw [List.length_map, List.take_length]
    exact q _ (Same.refl _)
theorem ok_poly_plain {P : Program} {w : World} {K : PySem.W.Frag}
    {mg : Str → Option Value} {base : Heap} (T : Top K mg)
    (C_content : Cl P w K mg base CX0 1 "content" s_content ["numbers"] (spContent)) :
    Cl P w K mg base CX0 2 "poly_plain" s_poly_plain ["numbers"] (spPPlainB) := by
  refine T.d_poly_plain.cl fun f fd F => body_0 F S_poly_plain (fun vs H Q E h => by obtain ⟨_, _, _, rfl, _⟩ := h; rfl) ?_
  intro cdv A out s H vs Q E hG hr h
  obtain ⟨k, a, p, rfl, ha, hl, hc, hb, q⟩ := h
  refine ⟨_, (pss_cons (ps_if (pt_cmpR op_eq (pe_callB call_len_seq (by rfl) T.n_len PySem.boot_len (pa_cons (pv 0) pa_nil)) pe_int (nomark _))
      (pss_one (ps_ret (pe_lst pa_nil)))
      pss_nil)
    (pss_cons (ps_set (i := 1) S_poly_plain.nd rfl (Or.inr rfl) (pe_u C_content hG hr (by decide) (by rfl) pass0 (pa_cons (pv 0) pa_nil)))
    (pss_cons (ps_if (pt_cmpR op_lt (pe_ix ix_sq (pv 0) (pe_un un_neg pe_int) (fun _ _ => rfl)) pe_int (nomark _))
      (pss_one (ps_set (i := 1) S_poly_plain.nd rfl (Or.inr rfl) (pe_un un_neg (pv 1))))
      pss_nil)
    (pss_one (ps_ret (pe_lc (own := [("number", 2)]) (g := gName 2) (tt := tYes) rfl S_poly_plain.nd (pi_sq (pv 0)) (blkOk_by (N := ["numbers", "common", "number"]) (sc := defScope s_poly_plain) (by decide +kernel)) (fun _ _ _ _ _ => (pg_name (i := 2) S_poly_plain.nd rfl (Or.inl rfl))) (fun _ _ _ _ _ => pts_nil) (fun _ _ _ _ _ => (pe_op op_fdivB (pv 2) (pv 1))))))))), ?_⟩
  refine ⟨_, rfl, a, _, rfl, ha.sq.or, rfl, _, rfl, ?_⟩
  rw [List.length_map]
  refine ite2 (fun c => ?_) (fun c => ?_)
  · have e : p = [] := List.length_eq_zero_iff.mp (by have := V.int.inj (of_decide_eq_true c); omega)
    subst e
    exact ⟨(by show 0 ≤ sizeLine; decide), fun t nt => q _ t (Same.put nt) nt upd_same⟩
  have hp : p ≠ [] := fun z => c (by subst z; rfl)
  refine ⟨_, rfl, k, a, p, rfl, ha, by omega, fun H1 s1 => ?_⟩
  have ha1 : At k H1 a p := ha.same s1
  have h0 := sgc_ne hc hp
  have h1 := sgc_abs p
  refine ⟨_, rfl, _, rfl, k, a, _, -1, _, rfl, rfl, ha1.sq, atI_end hp, _, _, rfl, rfl, _, rfl, ite2 (fun c => ?_) (fun c => ?_)⟩
  · have c0 : co p (p.length - 1) < 0 := of_decide_eq_true c
    have hg : sgc p = -(cnt p : Int) := if_pos c0
    refine ⟨_, rfl, _, rfl, ?_⟩
    refine ⟨_, rfl, k, a, rfl, ⟨_, ha1.sq⟩, fun D nD => ?_⟩
    refine lc_sq (K := K) (xs := p.map V.int) (fun i H' => Same H1 H' ∧ H' D = some (.lst (((plF p).take i).map V.int))) ⟨Same.put nD, upd_same⟩ (fun i H' _ z => (ha1.same z.1).sq) ?_ ?_
    · rintro i x H' hx ⟨s2, eD⟩
      obtain ⟨rfl, li⟩ := int_at hx
      refine ⟨rfl, yesT ⟨_, rfl, _, rfl, _, _, rfl, rfl, ⟨(by show -((cnt p : Nat) : Int) ≠ 0; omega), .inr (hb.co i)⟩, _, eD, small1000 (by rw [List.length_map, List.length_take]; omega), Same.ov nD s2, ?_⟩⟩
      have li2 : i < (plF p).length := by rw [plF_length]; exact li
      rw [upd_same, List.take_add_one, List.getElem?_eq_getElem li2, List.map_append]
      simp only [plF, List.getElem_map, ← co_at li, hg, Int.zero_sub]
      rfl
    rintro H2 ⟨s2, eD⟩
    rw [List.length_map, List.take_of_length_le (by rw [plF_length]; exact Nat.le_refl _)] at eD
    exact q _ D (Same.trans s1 s2) (s1.free nD) eD
  · have c0 : ¬ co p (p.length - 1) < 0 := fun z => c (decide_eq_true z)
    have hg : sgc p = (cnt p : Int) := if_neg c0
    refine ⟨_, rfl, k, a, rfl, ⟨_, ha1.sq⟩, fun D nD => ?_⟩
    refine lc_sq (K := K) (xs := p.map V.int) (fun i H' => Same H1 H' ∧ H' D = some (.lst (((plF p).take i).map V.int))) ⟨Same.put nD, upd_same⟩ (fun i H' _ z => (ha1.same z.1).sq) ?_ ?_
    · rintro i x H' hx ⟨s2, eD⟩
      obtain ⟨rfl, li⟩ := int_at hx
      refine ⟨rfl, yesT ⟨_, rfl, _, rfl, _, _, rfl, rfl, ⟨(by show ((cnt p : Nat) : Int) ≠ 0; omega), .inr (hb.co i)⟩, _, eD, small1000 (by rw [List.length_map, List.length_take]; omega), Same.ov nD s2, ?_⟩⟩
      have li2 : i < (plF p).length := by rw [plF_length]; exact li
      rw [upd_same, List.take_add_one, List.getElem?_eq_getElem li2, List.map_append]
      simp only [plF, List.getElem_map, ← co_at li, hg, Int.zero_sub]
      rfl
    rintro H2 ⟨s2, eD⟩
    rw [List.length_map, List.take_of_length_le (by rw [plF_length]; exact Nat.le_refl _)] at eD
    exact q _ D (Same.trans s1 s2) (s1.free nD) eD
theorem ok_poly_divided {P : Program} {w : World} {K : PySem.W.Frag}
    {mg : Str → Option Value} {base : Heap} (T : Top K mg)
    (C_poly_less : Cl P w K mg base CX0 3 "poly_less" s_poly_less ["one", "two"] (spPLess))
    (C_scaled : Cl P w K mg base CX0 2 "scaled" s_scaled ["numbers", "factor"] (spScaled)) :
    Cl P w K mg base CX0 4 "poly_divided" s_poly_divided ["one", "two"] (spPDiv) := by
  refine T.d_poly_divided.cl fun f fd F => body_0 F S_poly_divided (fun vs H Q E h => by obtain ⟨_, _, _, _, _, _, rfl, _⟩ := h; rfl) ?_
  intro cdv A out s H vs Q E hG hr h
  obtain ⟨a, b, p, d, n, m, rfl, ha, hb, hl, hm, cp, cd, hd, bp, bd, bt, hn, hm2, q⟩ := h
  refine ⟨_, (pss_cons (ps_par (i := 2) (j := 3) rfl S_poly_divided.nd rfl rfl (by decide) rfl rfl (pa_cons pe_int (pa_cons (pe_callTy call_list_of (by rfl) T.n_list (by decide +kernel) (pa_cons (pv 0) pa_nil)) pa_nil)) (by rfl))
    (pss_cons (ps_set (i := 4) S_poly_divided.nd rfl (Or.inl rfl) (pe_op op_rep (pe_lst (pa_cons pe_int pa_nil)) (pe_callB (call_max2 rfl) (by rfl) T.n_max (by decide +kernel) (pa_cons pe_int (pa_cons (pe_op op_add (pe_op op_sub (pe_callB call_len_seq (by rfl) T.n_len PySem.boot_len (pa_cons (pv 0) pa_nil)) (pe_callB call_len_seq (by rfl) T.n_len PySem.boot_len (pa_cons (pv 1) pa_nil))) pe_int) pa_nil)))))
    (pss_cons (ps_set (i := 5) S_poly_divided.nd rfl (Or.inl rfl) (pe_ix ix_list (pv 1) (pe_un un_neg pe_int) (fun _ _ => rfl)))
    (pss_cons (ps_while PassesOwn.never (pt_cmpR op_ge (pe_callB call_len_seq (by rfl) T.n_len PySem.boot_len (pa_cons (pv 3) pa_nil)) (pe_callB call_len_seq (by rfl) T.n_len PySem.boot_len (pa_cons (pv 1) pa_nil)) (nomark _))
      (pss_cons (ps_set (i := 6) S_poly_divided.nd rfl (Or.inr rfl) (pe_op op_fdivB (pe_callB call_abs (by rfl) T.n_abs (by decide +kernel) (pa_cons (pv 5) pa_nil)) (pe_callBfun cr_gcd (by rfl) T.m_gcd (pa_cons (pe_ix ix_list (pv 3) (pe_un un_neg pe_int) (fun _ _ => rfl)) (pa_cons (pv 5) pa_nil)))))
    (pss_cons (ps_set (i := 7) S_poly_divided.nd rfl (Or.inl rfl) (pe_op op_fdivB (pe_op op_mulX (pe_ix ix_list (pv 3) (pe_un un_neg pe_int) (fun _ _ => rfl)) (pv 6)) (pv 5)))
    (pss_cons (ps_set (i := 8) S_poly_divided.nd rfl (Or.inl rfl) (pe_op op_sub (pe_callB call_len_seq (by rfl) T.n_len PySem.boot_len (pa_cons (pv 3) pa_nil)) (pe_callB call_len_seq (by rfl) T.n_len PySem.boot_len (pa_cons (pv 1) pa_nil))))
    (pss_cons (ps_set (i := 2) S_poly_divided.nd rfl (Or.inl rfl) (pe_op op_mulX (pv 2) (pv 6)))
    (pss_cons (ps_setLc (i := 4) (own := [("part", 9)]) (g := gName 9) (tt := tYes) rfl S_poly_divided.nd rfl rfl (sw_true rfl rfl rfl (by decide +kernel)) (pi_list (pv 4)) (blkOk_by (N := ["one", "two", "least", "rest", "quotient", "top", "factor", "number", "shift", "part"]) (sc := defScope s_poly_divided) (by decide +kernel)) (fun _ _ _ _ _ => (pg_name (i := 9) S_poly_divided.nd rfl (Or.inl rfl))) (fun _ _ _ _ _ => pts_nil) (fun _ _ _ _ _ => (pe_op op_mulX (pv 6) (pv 9))))
    (pss_cons (ps_asg (pv 7) (pg_sub (pv 4) (pv 8) set_list))
    (pss_one (ps_set (i := 3) S_poly_divided.nd rfl (Or.inl rfl) (pe_u C_poly_less hG hr (by decide) (by rfl) pass0 (pa_cons (pe_u C_scaled hG hr (by decide) (by rfl) pass0 (pa_cons (pv 3) (pa_cons (pv 6) pa_nil))) (pa_cons (pe_op op_cat (pe_op op_rep (pe_lst (pa_cons pe_int pa_nil)) (pv 8)) (pe_u C_scaled hG hr (by decide) (by rfl) pass0 (pa_cons (pv 1) (pa_cons (pv 7) pa_nil)))) pa_nil))))))))))))
    (pss_one (ps_ret (pe_tup (pa_cons (pv 2) (pa_cons (pv 4) (pa_cons (pv 3) pa_nil)))))))))), ?_⟩
  have sz : ∀ {n : Nat}, n ≤ 1000 → n ≤ sizeLine := fun h => Nat.le_of_lt (small1000 h)
  have ld : 0 < d.length := List.length_pos_iff.mpr hd
  have t0 := cn_last cd hd
  generalize ht : co d (d.length - 1) = t at t0 bt
  refine ⟨_, rfl, a, _, rfl, .inl (SqL.of ha), fun o no => ⟨_, _, rfl, ?_⟩⟩
  have s1 : Same H (upd H o (.lst (p.map V.int))) := Same.put no
  refine ⟨sz (by decide : 1 ≤ 1000), fun t1 nt1 => ?_⟩
  have s2 := s1.trans (Same.put (o := .lst [.int 0]) nt1)
  refine ⟨_, rfl, a, _, rfl, .inl (SqL.of (s2 _ _ ha)), _, rfl, b, _, rfl, .inl (SqL.of (s2 _ _ hb)), _, _, rfl, rfl, _, _, rfl, rfl, _, _, rfl, ?_⟩
  rw [List.length_map, List.length_map, show (if (p.length : Int) - d.length + 1 > 0 then (p.length : Int) - d.length + 1 else 0) = ((p.length + 1 - d.length : Nat) : Int) by split <;> omega]
  refine ⟨t1, _, _, rfl, rfl, upd_same, by omega, by omega, sz (by show 1 * (((p.length + 1 - d.length : Nat) : Int)).toNat ≤ 1000; omega), ?_⟩
  rw [Int.toNat_natCast, rep0]
  intro u0 nu0
  generalize hg : upd _ u0 _ = H3
  have s3 : Same H H3 := by rw [← hg]; exact s2.trans (Same.put nu0)
  have ho3 : At false H3 o p := by rw [← hg]; exact Same.put nu0 _ _ (Same.put nt1 _ _ upd_same)
  have hu3 : At false H3 u0 (List.replicate (p.length + 1 - d.length) (0 : Int)) := by rw [← hg]; exact upd_same
  have nH : H u0 = none := s2.free nu0
  have ou : u0 ≠ o := fun e => by
    rw [e] at nu0
    have : upd (upd H o (HO.lst (p.map V.int))) t1 (HO.lst [V.int 0]) o = some (.lst (p.map V.int)) := Same.put nt1 _ _ upd_same
    rw [this] at nu0; cases nu0
  clear hg
  refine ⟨_, rfl, _, rfl, b, _, -1, _, rfl, rfl, SqL.of (s3 _ _ hb), atI_end hd, ?_⟩
  rw [ht]
  have dwb : ∀ k, k ≤ p.length + 1 - d.length → n + k * (m + 1) ≤ dw p d n m := fun k hk => by
    unfold dw; have := Nat.mul_le_mul_right (m + 1) hk; omega
  have dwB : dw p d n m + m + 2 ≤ 60000000 := by
    unfold dw
    have h1 : (p.length + 1 - d.length) * (m + 1) ≤ 401 * 60001 := Nat.mul_le_mul (by omega) (by omega)
    omega
  refine ⟨fun w σ H' => ∃ (c : Int) (D r : List Int) (u v : Addr) (k : Nat) (y6 y7 y8 : Option V), σ = [some (.ref a), some (.ref b), some (.int c), some (.ref v), some (.ref u), some (.int t), y6, y7, y8, none] ∧
    Same H H' ∧ At false H' u D ∧ At false H' v r ∧ u ≠ v ∧ H u = none ∧ H v = none ∧ DI p d c D r ∧ w = r.length ∧ k + r.length ≤ p.length ∧ (0 < k → k + d.length ≤ p.length + 1) ∧
    Bd (n + k * (m + 1)) D ∧ Bd (n + k * (m + 1)) r ∧ c.natAbs < 2 ^ (k * (m + 1) + 1), ⟨p.length, 1, _, p, u0, o, 0, none, none, none, rfl, s3, hu3, ho3, ou, nH, no, di_init d cp, rfl, by omega, fun h => absurd h (by decide), ?_, by simpa using bp, by rw [Nat.zero_mul]; decide⟩, ?_⟩
  · intro z hz
    rw [List.eq_of_mem_replicate hz]
    exact Nat.two_pow_pos _
  rintro w σ H' ⟨c, D, r, u, v, k, y6, y7, y8, rfl, s4, hu, hv, uv, nu, nv, I, rfl, hk, hk2, bD, br, bc⟩
  have hd' : At false H' b d := hb.same s4
  refine ⟨_, rfl, v, _, rfl, .inl (SqL.of hv), _, rfl, b, _, rfl, .inl (SqL.of hd'), _, _, rfl, rfl, _, rfl, ?_⟩
  rw [List.length_map, List.length_map]
  refine ite2 (fun c1 => ?_) (fun c1 => ?_)
  case refine_2 =>
    have l : r.length < d.length := by
      have c2 : ¬ (d.length : Int) ≤ r.length := fun z => c1 (decide_eq_true z)
      omega
    have kk : k ≤ p.length + 1 - d.length := by
      by_cases e : 0 < k
      · have := hk2 e; omega
      · omega
    refine ⟨_, rfl, _, rfl, _, rfl, sz (by decide : 3 ≤ 1000), fun T nT => ?_⟩
    refine q _ T u v c D r (s4.trans (Same.put nT)) (s4.free nT) nu nv uv upd_same (hu.same (Same.put nT)) (hv.same (Same.put nT)) (di_done I l) (bD.mono (dwb k kk)) (br.mono (dwb k kk)) ?_
    refine Nat.lt_of_lt_of_le bc (Nat.pow_le_pow_right (by decide) ?_)
    have := dwb k kk
    omega
  have l : d.length ≤ r.length := by have := of_decide_eq_true c1; omega
  have hr : r ≠ [] := by intro e; rw [e] at l; simp at l; exact hd l
  have lr : 0 < r.length := List.length_pos_iff.mpr hr
  have kk : k + 1 ≤ p.length + 1 - d.length := by omega
  have kb := dwb _ kk
  have kb2 : n + (k + 1) * (m + 1) = n + k * (m + 1) + m + 1 := by rw [Nat.add_mul k 1]; omega
  obtain ⟨f, x, ef, ex, f0, e1, cop, hx, hf⟩ := step_num (x := co r (r.length - 1)) t0
  have tB : t.natAbs < 2 ^ m := by rw [← ht]; exact bd.co _
  have xB : (co r (r.length - 1)).natAbs < 2 ^ (n + k * (m + 1)) := br.co _
  have fB : ((f : Int)).natAbs < 2 ^ m := by rw [Int.natAbs_natCast]; omega
  have nB : x.natAbs < 2 ^ (n + k * (m + 1)) := by omega
  have fbig : ((f : Int)).natAbs < 2 ^ big := pow_big fB (by omega)
  have xbig : x.natAbs < 2 ^ big := pow_big nB (by omega)
  have cbig : c.natAbs < 2 ^ big := pow_big bc (by omega)
  -- the factor
  refine ⟨_, fun _ _ z => z, ?_⟩
  refine ⟨_, rfl, _, rfl, _, rfl, _, rfl, v, _, -1, _, rfl, rfl, SqL.of hv, atI_end hr, _, rfl, _, _, rfl, _, _, rfl, rfl, ⟨?_, .inl ?_⟩, ?_⟩
  · have : 0 < Nat.gcd (co r (r.length - 1)).natAbs t.natAbs := Nat.gcd_pos_of_pos_right _ (by omega)
    omega
  · rw [Int.natAbs_natCast]
    exact Nat.lt_of_le_of_lt (Nat.le_of_dvd (by omega) (Nat.gcd_dvd_right _ _)) bt
  have fe : (if t < 0 then -t else t).fdiv ((Nat.gcd (co r (r.length - 1)).natAbs t.natAbs : Nat) : Int) = (f : Int) := by
    rw [show (if t < 0 then -t else t) = ((t.natAbs : Nat) : Int) by split <;> omega, Int.fdiv_eq_ediv_of_nonneg _ (by omega), ef]; rfl
  rw [show (fun i j => V.int (Int.fdiv i j)) (if t < 0 then -t else t) ((Nat.gcd (co r (r.length - 1)).natAbs t.natAbs : Nat) : Int) = V.int (f : Int) from congrArg V.int fe]
  -- the number, the place
  refine ⟨_, rfl, _, rfl, v, _, -1, _, rfl, rfl, SqL.of hv, atI_end hr, _, rfl, _, _, rfl, rfl, mulx_big (pow_big xB (by omega)) fbig, _, rfl, _, _, rfl, rfl, ⟨t0, .inl bt⟩, ?_⟩
  rw [show (fun i j => V.int (Int.fdiv i j)) (co r (r.length - 1) * (f : Int)) t = V.int x from congrArg V.int ex.symm]
  refine ⟨_, rfl, v, _, rfl, .inl (SqL.of hv), _, rfl, b, _, rfl, .inl (SqL.of hd'), _, _, rfl, rfl, ?_⟩
  rw [List.length_map, List.length_map, show (fun i j => V.int (i - j)) (r.length : Int) (d.length : Int) = V.int ((r.length - d.length : Nat) : Int) from congrArg V.int (by omega)]
  generalize hs : r.length - d.length = w
  refine ⟨_, rfl, _, rfl, _, _, rfl, rfl, mulx_big cbig fbig, ?_⟩
  -- the quotient
  refine ⟨_, rfl, u, rfl, ⟨_, SqL.of hu⟩, fun D2 nD2 => ?_⟩
  have lD : D.length ≤ 401 := by rw [I.lQ]; omega
  refine lc_list (K := K) (xs := D.map V.int) (fun i H2 => Same H' H2 ∧ H2 D2 = some (.lst ((sclF (f : Int) (D.take i)).map V.int))) ⟨Same.put nD2, upd_same⟩ (fun i H2 _ z => SqL.of (hu.same z.1)) ?_ ?_
  · rintro i y H2 hy ⟨z2, eD⟩
    obtain ⟨rfl, li⟩ := int_at hy
    refine ⟨rfl, yesT ⟨_, rfl, _, rfl, _, _, rfl, rfl, mulx_big fbig (pow_big (bD.co i) (by omega)), _, eD, small1000 (by simp [sclF]; omega), Same.ov nD2 z2, ?_⟩⟩
    rw [upd_same, take_co li]; simp [sclF]
  rintro H2 ⟨z2, eD⟩
  rw [List.length_map, List.take_length] at eD
  have lw : w < D.length := by rw [I.lQ]; have := I.lr; omega
  have lS : (sclF (f : Int) D).length = D.length := by simp [sclF]
  obtain ⟨g1, g2⟩ := set_int (p := sclF (f : Int) D) (i := w) (by omega) x
  refine ⟨_, rfl, _, rfl, _, rfl, D2, _, _, _, rfl, rfl, eD, g1, ?_⟩
  rw [g2]
  generalize hg : upd H2 D2 _ = H4
  have nD : H D2 = none := s4.free nD2
  have s5 : Same H H4 := by rw [← hg]; exact Same.ov nD (s4.trans z2)
  have hv4 : At false H4 v r := by rw [← hg]; exact (hv.same z2).ovn (hv.ne nD2)
  have hb4 : At false H4 b d := hb.same s5
  have hD4 : At false H4 D2 ((sclF (f : Int) D).set w x) := by rw [← hg]; exact upd_same
  have vD : D2 ≠ v := (hv.ne nD2).symm
  clear hg g2
  -- the rest
  have lr4 : r.length ≤ 400 := by have := I.lr; omega
  refine ⟨_, rfl, _, rfl, false, v, r, f, rfl, hv4, by omega, bd_big br (by omega), fbig, fun H5 e1' s6 n6 g6 => ?_⟩
  refine ⟨sz (by decide : 1 ≤ 1000), fun t2 nt2 => ⟨_, rfl, t2, _, _, rfl, rfl, upd_same, by omega, by omega, sz (by show 1 * ((w : Int)).toNat ≤ 1000; omega), ?_⟩⟩
  rw [Int.toNat_natCast, rep0]
  intro t3 nt3
  have s7 := (Same.put (o := .lst [.int 0]) nt2).trans (Same.put (o := .lst ((List.replicate w (0 : Int)).map V.int)) nt3)
  refine ⟨_, rfl, _, rfl, false, b, d, x, rfl, (hb4.same s6).same s7, by omega, bd_big bd (by omega), xbig, fun H6 e2' s8 n8 g8 => ?_⟩
  have lt2 : (trim (sclF x d)).length ≤ d.length := Nat.le_trans (trim_length _) (by simp [sclF])
  refine ⟨t3, e2', _, _, rfl, rfl, s8 _ _ upd_same, g8, sz (by rw [List.length_map, List.length_map, List.length_replicate]; omega), ?_⟩
  rw [← List.map_append]
  intro t4 nt4
  have s9 := s7.trans (s8.trans (Same.put (o := .lst ((List.replicate w (0 : Int) ++ trim (sclF x d)).map V.int)) nt4))
  have lt3 : (trim (sclF (f : Int) r)).length ≤ 400 := Nat.le_trans (trim_length _) (by simp [sclF]; omega)
  have bw : Bd big (List.replicate w (0 : Int) ++ trim (sclF x d)) := fun z hz => by
    rcases List.mem_append.mp hz with hz | hz
    · rw [List.eq_of_mem_replicate hz]; exact Nat.two_pow_pos _
    · exact pow_big (bd_trim (bd_scl nB bd) z hz) (by omega)
  refine ⟨false, false, e1', t4, trim (sclF (f : Int) r), shF w (trim (sclF x d)), rfl, At.same (k := false) s9 g6, upd_same, by omega, by show (List.replicate w (0 : Int) ++ trim (sclF x d)).length ≤ 500; rw [List.length_append, List.length_replicate]; omega, bw, fun H7 v' s10 n10 g10 => ?_⟩
  have sE : Same H4 H7 := s6.trans (s9.trans s10)
  have cr' : ∀ i, co (trim (addF (trim (sclF (f : Int) r)) (sclF (-1) (shF w (trim (sclF x d)))))) i = f * co r i - x * (if w ≤ i then co d (i - w) else 0) := fun i => by
    rw [co_trim, co_add, co_trim, co_scl, co_scl, co_sh]
    split
    · rw [co_trim, co_scl]; omega
    · omega
  subst hs
  obtain ⟨I2, lr2⟩ := di_step (Q' := (sclF (f : Int) D).set (r.length - d.length) x) I l hd (by omega) (by rw [ht]; exact e1) cop (by rw [List.length_set, lS]) (fun i => by rw [co_set (by omega), co_scl]) (cn_trim _) cr'
  have bstep : ∀ i, (co (trim (addF (trim (sclF (f : Int) r)) (sclF (-1) (shF (r.length - d.length) (trim (sclF x d)))))) i).natAbs < 2 ^ (n + (k + 1) * (m + 1)) := fun i => by
    have w1 := wide2 fB (br.co i)
    have w2 : (x * (if r.length - d.length ≤ i then co d (i - (r.length - d.length)) else 0)).natAbs < 2 ^ (n + k * (m + 1) + m) := by
      refine wide2 nB ?_
      split
      · exact bd.co _
      · exact Nat.two_pow_pos _
    rw [cr', kb2, Nat.pow_succ]
    rw [show m + (n + k * (m + 1)) = n + k * (m + 1) + m by omega] at w1
    omega
  refine ⟨_, lr2, _, _, _, D2, v', k + 1, _, _, _, rfl, s5.trans sE, hD4.same sE, g10, fun e => ?_, nD, s5.free ((s6.trans s9).free n10), I2, rfl, by omega, fun _ => by omega, bd_of fun i => ?_, bd_of bstep, ?_⟩
  · have := hD4.ne ((s6.trans s9).free n10)
    exact this e
  · rw [co_set (by omega), co_scl, kb2]
    split
    · exact Nat.lt_of_lt_of_le nB (Nat.pow_le_pow_right (by decide) (by omega))
    · have w1 := wide2 fB (bD.co i)
      exact Nat.lt_of_lt_of_le w1 (Nat.pow_le_pow_right (by decide) (by omega))
  · have w1 := wide2 bc fB
    exact Nat.lt_of_lt_of_le w1 (Nat.pow_le_pow_right (by decide) (by rw [Nat.add_mul k 1]; omega))
theorem ok_check_line {P : Program} {w : World} {K : PySem.W.Frag}
    {mg : Str → Option Value} {base : Heap} (T : Top K mg)
    (C_is_line : Cl P w K mg base CX0 2 "is_line" s_is_line ["value"] (spIsLine)) :
    Cl P w K mg base CX0 3 "check_line" s_check_line ["line"] (spCheck) := by
  refine T.d_check_line.cl fun f fd F => body_0 F S_check_line (fun vs H Q E h => by obtain ⟨_, rfl, _⟩ := h; rfl) ?_
  intro cdv A out s H vs Q E hG hr h
  obtain ⟨v, rfl, hv, q⟩ := h
  refine ⟨_, (pss_one (ps_if (pt_not (pt_val (pe_u C_is_line hG hr (by decide) (by rfl) pass0 (pa_cons (pv 0) pa_nil))))
      (pss_one ps_never)
      pss_nil)), ?_⟩
  exact ⟨_, rfl, v, true, rfl, hv, fun H1 s1 => ⟨_, rfl, iteF (q H1 s1)⟩⟩
theorem ok_check_lines {P : Program} {w : World} {K : PySem.W.Frag}
    {mg : Str → Option Value} {base : Heap} (T : Top K mg)
    (C_check_line : Cl P w K mg base CX0 3 "check_line" s_check_line ["line"] (spCheck)) :
    Cl P w K mg base CX0 4 "check_lines" s_check_lines ["line", "other"] (spChecks) := by
  refine T.d_check_lines.cl fun f fd F => body_0 F S_check_lines (fun vs H Q E h => by obtain ⟨_, _, rfl, _⟩ := h; rfl) ?_
  intro cdv A out s H vs Q E hG hr h
  obtain ⟨v, u, rfl, hv, hu, q⟩ := h
  refine ⟨_, (pss_cons (ps_expr (pe_u C_check_line hG hr (by decide) (by rfl) pass0 (pa_cons (pv 0) pa_nil)))
    (pss_one (ps_expr (pe_u C_check_line hG hr (by decide) (by rfl) pass0 (pa_cons (pv 1) pa_nil))))), ?_⟩
  exact ⟨_, rfl, v, rfl, hv, fun H1 s1 => ⟨_, rfl, u, rfl, hu.same s1, fun H2 s2 => q H2 (Same.trans s1 s2)⟩⟩
theorem ok_line_sum {P : Program} {w : World} {K : PySem.W.Frag}
    {mg : Str → Option Value} {base : Heap} (T : Top K mg)
    (C_check_lines : Cl P w K mg base CX0 4 "check_lines" s_check_lines ["line", "other"] (spChecks))
    (C_poly_sum : Cl P w K mg base CX0 2 "poly_sum" s_poly_sum ["one", "two"] (spPSum)) :
    Cl P w K mg base CX0 5 "line_sum" s_line_sum ["line", "other"] (spLn2 (fun p q => trim (addF p q)) fun _ _ => True) := by
  refine T.d_line_sum.cl fun f fd F => body_0 F S_line_sum (fun vs H Q E h => by obtain ⟨_, _, _, _, _, _, rfl, _⟩ := h; rfl) ?_
  intro cdv A out s H vs Q E hG hr h
  obtain ⟨k, j, a, b, p, r, rfl, ha, hb, _, q⟩ := h
  refine ⟨_, (pss_cons (ps_expr (pe_u C_check_lines hG hr (by decide) (by rfl) pass0 (pa_cons (pv 0) (pa_cons (pv 1) pa_nil))))
    (pss_one (ps_ret (pe_u C_poly_sum hG hr (by decide) (by rfl) pass0 (pa_cons (pv 0) (pa_cons (pv 1) pa_nil)))))), ?_⟩
  exact ⟨_, rfl, _, rfl, .ref a, .ref b, rfl, ha.val, hb.val, fun H1 s1 => ⟨_, rfl, _, rfl, k, j, a, b, p, r, rfl, (ha.same s1).at_, (hb.same s1).at_, by have := ha.len; omega, by have := hb.len; omega, q.go s1⟩⟩
theorem ok_line_times {P : Program} {w : World} {K : PySem.W.Frag}
    {mg : Str → Option Value} {base : Heap} (T : Top K mg)
    (C_check_lines : Cl P w K mg base CX0 4 "check_lines" s_check_lines ["line", "other"] (spChecks))
    (C_poly_times : Cl P w K mg base CX0 1 "poly_times" s_poly_times ["one", "two"] (spPTimes)) :
    Cl P w K mg base CX0 5 "line_times" s_line_times ["line", "other"] (spLn2 mulF fun p q => (mulF p q).length ≤ 13) := by
  obtain ⟨_, c_LINE_DEGREE⟩ := T.c_LINE_DEGREE
  refine T.d_line_times.cl fun f fd F => body_0 F S_line_times (fun vs H Q E h => by obtain ⟨_, _, _, _, _, _, rfl, _⟩ := h; rfl) ?_
  intro cdv A out s H vs Q E hG hr h
  obtain ⟨k, j, a, b, p, r, rfl, ha, hb, hm, q⟩ := h
  refine ⟨_, (pss_cons (ps_expr (pe_u C_check_lines hG hr (by decide) (by rfl) pass0 (pa_cons (pv 0) (pa_cons (pv 1) pa_nil))))
    (pss_cons (ps_set (i := 2) S_line_times.nd rfl (Or.inl rfl) (pe_u C_poly_times hG hr (by decide) (by rfl) pass0 (pa_cons (pv 0) (pa_cons (pv 1) pa_nil))))
    (pss_cons (ps_if (pt_cmpR op_gt (pe_callB call_len_seq (by rfl) T.n_len PySem.boot_len (pa_cons (pv 2) pa_nil)) (pe_op op_add (pe_glob (v := .int 12) (by rfl) c_LINE_DEGREE ⟨_, rfl⟩) pe_int) (nomark _))
      (pss_one ps_never)
      pss_nil)
    (pss_one (ps_ret (pv 2)))))), ?_⟩
  refine ⟨_, rfl, _, rfl, .ref a, .ref b, rfl, ha.val, hb.val, fun H1 s1 => ⟨_, rfl, _, rfl, k, j, a, b, p, r, rfl, (ha.same s1).at_, (hb.same s1).at_, by have := ha.len; omega, by have := hb.len; omega, bd_big ha.bd (by decide), bd_big hb.bd (by decide), fun H2 o s2 no eo => ?_⟩⟩
  refine ⟨_, rfl, o, _, rfl, .inl (SqL.of eo), _, _, rfl, rfl, _, _, rfl, rfl, _, rfl, ifF ?_ ?_⟩
  · rw [List.length_map]
    have h13 : (mulF p r).length ≤ 13 := hm
    exact decide_eq_false (by show ¬ (12 : Int) + 1 < _; omega)
  · exact ⟨_, rfl, q _ o (Same.trans s1 s2) (s1.free no) eo⟩
theorem ok_plain_line {P : Program} {w : World} {K : PySem.W.Frag}
    {mg : Str → Option Value} {base : Heap} (T : Top K mg)
    (C_check_line : Cl P w K mg base CX0 3 "check_line" s_check_line ["line"] (spCheck))
    (C_poly_plain : Cl P w K mg base CX0 2 "poly_plain" s_poly_plain ["numbers"] (spPPlainB)) :
    Cl P w K mg base CX0 4 "plain_line" s_plain_line ["line"] (spLnPB) := by
  refine T.d_plain_line.cl fun f fd F => body_0 F S_plain_line (fun vs H Q E h => by obtain ⟨_, _, _, rfl, _⟩ := h; rfl) ?_
  intro cdv A out s H vs Q E hG hr h
  obtain ⟨k, a, p, rfl, ha, hn, q⟩ := h
  refine ⟨_, (pss_cons (ps_expr (pe_u C_check_line hG hr (by decide) (by rfl) pass0 (pa_cons (pv 0) pa_nil)))
    (pss_one (ps_ret (pe_u C_poly_plain hG hr (by decide) (by rfl) pass0 (pa_cons (pv 0) pa_nil))))), ?_⟩
  exact ⟨_, rfl, .ref a, rfl, ha.val, fun H1 s1 => ⟨_, rfl, k, a, p, rfl, (ha.same s1).at_, by have := ha.len; omega, ha.cn, hn, q.go s1⟩⟩
theorem ok_poly_common {P : Program} {w : World} {K : PySem.W.Frag}
    {mg : Str → Option Value} {base : Heap} (T : Top K mg)
    (C_poly_divided : Cl P w K mg base CX0 4 "poly_divided" s_poly_divided ["one", "two"] (spPDiv))
    (C_poly_plain : Cl P w K mg base CX0 2 "poly_plain" s_poly_plain ["numbers"] (spPPlainB)) :
    Cl P w K mg base CX0 5 "poly_common" s_poly_common ["one", "two"] (spPComm) := by
  refine T.d_poly_common.cl fun f fd F => body_0 F S_poly_common (fun vs H Q E h => by obtain ⟨_, _, _, _, _, _, rfl, _⟩ := h; rfl) ?_
  intro cdv A out s H vs Q E hG hr h
  obtain ⟨k, j, a, b, p, r, rfl, ha, hb, lp, lq, cp, cq, bp, bq, kp, kq, q⟩ := h
  refine ⟨_, (pss_cons (ps_par (i := 2) (j := 3) rfl S_poly_common.nd rfl rfl (by decide) rfl rfl (pa_cons (pe_u C_poly_plain hG hr (by decide) (by rfl) pass0 (pa_cons (pv 0) pa_nil)) (pa_cons (pe_u C_poly_plain hG hr (by decide) (by rfl) pass0 (pa_cons (pv 1) pa_nil)) pa_nil)) (by rfl))
    (pss_cons (ps_while PassesOwn.never (pt_cmpR op_gt (pe_callB call_len_seq (by rfl) T.n_len PySem.boot_len (pa_cons (pv 3) pa_nil)) pe_int (nomark _))
      (pss_one (ps_par (i := 2) (j := 3) rfl S_poly_common.nd rfl rfl (by decide) rfl rfl (pa_cons (pv 3) (pa_cons (pe_u C_poly_plain hG hr (by decide) (by rfl) pass0 (pa_cons (pe_ix ix_tup (pe_u C_poly_divided hG hr (by decide) (by rfl) pass0 (pa_cons (pv 2) (pa_cons (pv 3) pa_nil))) pe_int (fun _ _ => rfl)) pa_nil)) pa_nil)) (by rfl))))
    (pss_one (ps_ret (pv 2))))), ?_⟩
  refine ⟨_, rfl, k, a, p, rfl, ha, by omega, cp, kp, fun H1 e1 s1 n1 g1 => ?_⟩
  refine ⟨_, rfl, j, b, r, rfl, hb.same s1, by omega, cq, kq, fun H2 e2 s2 n2 g2 => ⟨_, _, rfl, ?_⟩⟩
  refine ⟨fun w σ H' => ∃ (P S : List Int) (u v : Addr) (n m : Nat), σ = [some (.ref a), some (.ref b), some (.ref u), some (.ref v)] ∧
    Same H H' ∧ At false H' u P ∧ At false H' v S ∧ H u = none ∧ H v = none ∧ CB P S n m ∧ w = S.length ∧ ∀ g, Gc P S g → Gc (plF p) (plF r) g,
    ⟨_, _, _, e1, e2, 8, 8, rfl, Same.trans s1 s2, At.same (k := false) s2 g1, g2, n1, s1.free n2, CB.first cp cq lp lq bp bq, rfl, fun g h => h⟩, ?_⟩
  rintro w σ H' ⟨P, S, u, v, n, m, rfl, s3, hu, hv, nu, nv, I, rfl, hg⟩
  refine ⟨_, rfl, v, _, rfl, .inl (SqL.of hv), _, _, rfl, rfl, _, rfl, ?_⟩
  rw [List.length_map]
  refine ite2 (fun c => ?_) (fun c => ?_)
  · have c0 : (0 : Int) < (S.length : Nat) := of_decide_eq_true c
    have hS : S ≠ [] := List.length_pos_iff.mp (by omega)
    have lP := I.lp
    have lS := I.ls
    have sm := I.small
    refine ⟨_, fun _ _ z => z, ?_⟩
    refine ⟨_, rfl, _, rfl, _, rfl, u, v, P, S, n, m, rfl, hu, hv, by omega, by omega, I.p.1, I.s.1, hS, I.bp, I.bs, I.top hS, sm.1, sm.2, ?_⟩
    intro H4 T x y cc D rr s4 nT nx ny xy eT hx hy dv bD br bc
    obtain ⟨I2, kr⟩ := I.next hS dv.cr dv.len br
    have lr := dv.len
    refine ⟨T, _, 2, _, rfl, rfl, SqT.of eT, rfl, false, y, rr, rfl, hy, by omega, dv.cr, kr, fun H5 z s5 nz gz => ⟨_, _, rfl, ?_⟩⟩
    refine ⟨(plF rr).length, by rw [plF_length]; exact lr, S, plF rr, v, z, m, _, rfl, s3.trans (Same.trans s4 s5), hv.same (Same.trans s4 s5), gz, nv, s3.free (s4.free nz), I2, rfl, fun g h => hg g (.step hS dv.toDq h)⟩
  · have c0 : ¬ (0 : Int) < (S.length : Nat) := fun z => c (decide_eq_true z)
    have hS : S = [] := List.length_eq_zero_iff.mp (by omega)
    subst hS
    exact ⟨_, rfl, q _ u P s3 nu hu (hg P (.done P)) I.done I.lp⟩
theorem ok_line_divided {P : Program} {w : World} {K : PySem.W.Frag}
    {mg : Str → Option Value} {base : Heap} (T : Top K mg)
    (C_check_lines : Cl P w K mg base CX0 4 "check_lines" s_check_lines ["line", "other"] (spChecks))
    (C_poly_divided : Cl P w K mg base CX0 4 "poly_divided" s_poly_divided ["one", "two"] (spPDiv)) :
    Cl P w K mg base CX0 5 "line_divided" s_line_divided ["line", "other"] (spLnD) := by
  refine T.d_line_divided.cl fun f fd F => body_0 F S_line_divided (fun vs H Q E h => by obtain ⟨_, _, _, _, _, _, rfl, _⟩ := h; rfl) ?_
  intro cdv A out s H vs Q E hG hr h
  obtain ⟨a, b, p, r, n, m, rfl, ha, hb, hr0, bt, bp, br, hn, hm, q⟩ := h
  refine ⟨_, (pss_cons (ps_expr (pe_u C_check_lines hG hr (by decide) (by rfl) pass0 (pa_cons (pv 0) (pa_cons (pv 1) pa_nil))))
    (pss_cons (ps_if (pt_cmpR op_eq (pe_callB call_len_seq (by rfl) T.n_len PySem.boot_len (pa_cons (pv 1) pa_nil)) pe_int (nomark _))
      (pss_one ps_never)
      pss_nil)
    (pss_one (ps_ret (pe_u C_poly_divided hG hr (by decide) (by rfl) pass0 (pa_cons (pv 0) (pa_cons (pv 1) pa_nil))))))), ?_⟩
  refine ⟨_, rfl, _, rfl, .ref a, .ref b, rfl, ha.val, hb.val, fun H1 s1 => ⟨_, rfl, b, _, rfl, .inl (SqL.of (hb.same s1).at_), rfl, _, rfl, ifF ?_ ?_⟩⟩
  · rw [List.length_map]
    exact decide_eq_false fun e => hr0 (List.length_eq_zero_iff.mp (by have := V.int.inj e; omega))
  · refine ⟨_, rfl, _, rfl, a, b, p, r, n, m, rfl, (ha.same s1).at_, (hb.same s1).at_, by have := ha.len; omega, by have := hb.len; omega, ha.cn, hb.cn, hr0, bp, br, bt, hn, hm, ?_⟩
    exact fun H2 T u v c D x s2 nT nu nv uv eT hu hv dv bD bx bc => q H2 T u v c D x (Same.trans s1 s2) (s1.free nT) (s1.free nu) (s1.free nv) uv eT hu hv dv bD bx bc
theorem ok_line_common {P : Program} {w : World} {K : PySem.W.Frag}
    {mg : Str → Option Value} {base : Heap} (T : Top K mg)
    (C_check_lines : Cl P w K mg base CX0 4 "check_lines" s_check_lines ["line", "other"] (spChecks))
    (C_poly_common : Cl P w K mg base CX0 5 "poly_common" s_poly_common ["one", "two"] (spPComm)) :
    Cl P w K mg base CX0 6 "line_common" s_line_common ["line", "other"] (spLnC) := by
  refine T.d_line_common.cl fun f fd F => body_0 F S_line_common (fun vs H Q E h => by obtain ⟨_, _, _, _, _, _, rfl, _⟩ := h; rfl) ?_
  intro cdv A out s H vs Q E hG hr h
  obtain ⟨k, j, a, b, p, r, rfl, ha, hb, lp, lq, bp, bq, kp, kq, q⟩ := h
  refine ⟨_, (pss_cons (ps_expr (pe_u C_check_lines hG hr (by decide) (by rfl) pass0 (pa_cons (pv 0) (pa_cons (pv 1) pa_nil))))
    (pss_one (ps_ret (pe_u C_poly_common hG hr (by decide) (by rfl) pass0 (pa_cons (pv 0) (pa_cons (pv 1) pa_nil)))))), ?_⟩
  refine ⟨_, rfl, _, rfl, .ref a, .ref b, rfl, ha.val, hb.val, fun H1 s1 => ⟨_, rfl, _, rfl, k, j, a, b, p, r, rfl, (ha.same s1).at_, (hb.same s1).at_, lp, lq, ha.cn, hb.cn, bp, bq, kp, kq, ?_⟩⟩
  exact fun H2 u g s2 nu hu hg bg lg => q H2 u g (Same.trans s1 s2) (s1.free nu) hu hg bg lg
theorem ok__law_trim {P : Program} {w : World} {K : PySem.W.Frag}
    {mg : Str → Option Value} {base : Heap} (T : Top K mg) :
    Cl P w K mg base CX0 1 "_law_trim" s__law_trim ["_law_numbers"] (spTrim) := by
  refine T.d__law_trim.cl fun f fd F => body_0 F S__law_trim (fun vs H Q E h => by obtain ⟨_, _, rfl, _⟩ := h; rfl) ?_
  intro cdv A out s H vs Q E hG hr h
  obtain ⟨a, p, rfl, ha, hl, q⟩ := h
  refine ⟨_, (pss_cons (ps_set (i := 1) S__law_trim.nd rfl (Or.inl rfl) (pe_callTy call_list_of (by rfl) T.n_list (by decide +kernel) (pa_cons (pv 0) pa_nil)))
    (pss_cons (ps_while PassesOwn.never ((pw_and (pt_cmpR (op_neD (hu64 hr)) (pv 1) (pe_lst pa_nil) (nomark _)) (pw_and1 (pt_cmpR op_eq (pe_ix ix_list (pv 1) (pe_un un_neg pe_int) (fun _ _ => rfl)) pe_int (nomark _))))).pt
      (pss_one (ps_expr (pe_bm0 PySem.F.plainAttrs_list PySem.F.slot_list_pop PySem.F.type_list_pop mt_pop (pv 1)))))
    (pss_one (ps_ret (pv 1))))), ?_⟩
  refine ⟨_, rfl, a, _, rfl, .inl (SqL.of ha), fun o no => ?_⟩
  refine ⟨fun m σ H' => σ = [some (.ref a), some (.ref o)] ∧ Same H H' ∧ H' o = some (.lst ((p.take m).map V.int)) ∧ m ≤ p.length ∧ ∀ i, m ≤ i → co p i = 0, ⟨p.length, rfl, Same.put no, by rw [upd_same, List.take_length], Nat.le_refl _, fun i h => co_big h⟩, ?_⟩
  rintro m σ H' ⟨rfl, s1, eo, hn, hz⟩
  have lt : (p.take m).length = m := by rw [List.length_take]; omega
  refine ⟨_, rfl, (by show 0 ≤ sizeLine; decide), fun e ne => ?_⟩
  have s2 : Same H' (upd H' e (.lst [])) := Same.put ne
  have go : ∀ H4, Same H' H4 → (m = 0 ∨ co p (m - 1) ≠ 0) → Q (.ref o) H4 := fun H4 s4 z => by
    have t := trim_take hn hz z
    exact q _ o (s1.trans s4) no (by rw [t]; exact s4 _ _ eo)
  refine neL (p := p.take m) (q := []) (s2 _ _ eo) upd_same ⟨_, rfl, ?_⟩
  by_cases h0 : p.take m = []
  · rw [h0]
    exact iteF (iteF ⟨_, rfl, go _ s2 (.inl (by rw [← lt, h0]; rfl))⟩)
  have m0 : 0 < m := by rw [← lt]; exact List.length_pos_iff.mpr h0
  have c0 : co (p.take m) ((p.take m).length - 1) = co p (m - 1) := by rw [lt, co_take, if_pos (by omega)]
  rw [decide_eq_false h0]
  refine iteT ⟨_, rfl, _, rfl, o, _, -1, _, rfl, rfl, SqL.of (s2 _ _ eo), atI_end h0, rfl, _, rfl, ite2 (fun c => ?_) (fun c => ⟨_, rfl, go _ s2 (.inr fun z => c (decide_eq_true (by rw [c0, z])))⟩)⟩
  have c1 : co p (m - 1) = 0 := by rw [← c0]; exact V.int.inj (of_decide_eq_true c)
  obtain ⟨d1, d2⟩ := drop_last h0
  refine ⟨fun σ' H'' => ∃ m', m' < m ∧ σ' = [some (.ref a), some (.ref o)] ∧ Same H H'' ∧ H'' o = some (.lst ((p.take m').map V.int)) ∧ m' ≤ p.length ∧ ∀ i, m' ≤ i → co p i = 0, fun _ _ z => z, ?_⟩
  refine ⟨_, rfl, .inl ⟨rfl, _, SqL.of (s2 _ _ eo)⟩, o, _, _, rfl, rfl, s2 _ _ eo, d1, ?_⟩
  rw [d2]
  refine ⟨m - 1, by omega, rfl, Same.ov no (s1.trans s2), ?_, by omega, fun i hi => ?_⟩
  · rw [upd_same, lt, List.take_take, Nat.min_eq_left (by omega)]
  · by_cases e : i = m - 1
    · rw [e]; exact c1
    · exact hz i (by omega)
theorem ok__law_sum {P : Program} {w : World} {K : PySem.W.Frag}
    {mg : Str → Option Value} {base : Heap} (T : Top K mg)
    (C__law_trim : Cl P w K mg base CX0 1 "_law_trim" s__law_trim ["_law_numbers"] (spTrim)) :
    Cl P w K mg base CX0 2 "_law_sum" s__law_sum ["_law_line_here", "_law_other", "_law_factor"] (spLSum) := by
  refine T.d__law_sum.cl fun f fd F => body_0 F S__law_sum (fun vs H Q E h => by obtain ⟨_, _, _, _, _, rfl, _⟩ := h; rfl) ?_
  intro cdv A out s H vs Q E hG hr h
  obtain ⟨a, b, p, r, f, rfl, ha, hb, hl, hm, hB, hf, q⟩ := h
  refine ⟨_, (pss_cons (ps_set (i := 3) S__law_sum.nd rfl (Or.inl rfl) (pe_callB (call_max2 rfl) (by rfl) T.n_max (by decide +kernel) (pa_cons (pe_callB call_len_seq (by rfl) T.n_len PySem.boot_len (pa_cons (pv 0) pa_nil)) (pa_cons (pe_callB call_len_seq (by rfl) T.n_len PySem.boot_len (pa_cons (pv 1) pa_nil)) pa_nil))))
    (pss_cons (ps_par (i := 4) (j := 5) rfl S__law_sum.nd rfl rfl (by decide) rfl rfl (pa_cons (pe_op op_cat (pv 0) (pe_op op_rep (pe_lst (pa_cons pe_int pa_nil)) (pe_op op_sub (pv 3) (pe_callB call_len_seq (by rfl) T.n_len PySem.boot_len (pa_cons (pv 0) pa_nil))))) (pa_cons (pe_op op_cat (pv 1) (pe_op op_rep (pe_lst (pa_cons pe_int pa_nil)) (pe_op op_sub (pv 3) (pe_callB call_len_seq (by rfl) T.n_len PySem.boot_len (pa_cons (pv 1) pa_nil))))) pa_nil)) (by rfl))
    (pss_one (ps_ret (pe_u C__law_trim hG hr (by decide) (by rfl) pass0 (pa_cons (pe_lc (own := [("_law_one", 6), ("_law_two", 7)]) (g := gTup K 2 (gCons (gName 6) (gCons (gName 7) gNil))) (tt := tYes) rfl S__law_sum.nd (pi_zipS (by rfl) T.n_zip (pa_cons (pv 4) (pa_cons (pv 5) pa_nil))) (blkOk_by (N := ["_law_line_here", "_law_other", "_law_factor", "_law_wide", "_law_near", "_law_far", "_law_one", "_law_two"]) (sc := defScope s__law_sum) (by decide +kernel)) (fun _ _ _ _ _ => (pg_tup rfl (pgs_cons (pg_name (i := 6) S__law_sum.nd rfl (Or.inl rfl)) (pgs_cons (pg_name (i := 7) S__law_sum.nd rfl (Or.inl rfl)) pgs_nil)))) (fun _ _ _ _ _ => pts_nil) (fun _ _ _ _ _ => (pe_op op_add (pv 6) (pe_op op_mulX (pv 2) (pv 7))))) pa_nil)))))), ?_⟩
  refine ⟨_, rfl, a, _, rfl, .inl (SqL.of ha), _, rfl, b, _, rfl, .inl (SqL.of hb), _, _, rfl, ?_⟩
  rw [List.length_map, List.length_map]
  obtain ⟨w, hw⟩ : ∃ w : Nat, (if (r.length : Int) > p.length then (r.length : Int) else p.length) = (w : Nat) ∧ p.length ≤ w ∧ r.length ≤ w ∧ w ≤ 500 := by
    by_cases c : (r.length : Int) > p.length
    · rw [if_pos c]; exact ⟨_, rfl, by omega, by omega, by omega⟩
    · rw [if_neg c]; exact ⟨_, rfl, by omega, by omega, by omega⟩
  obtain ⟨hw, w1, w2, w3⟩ := hw
  rw [hw]
  have sz : ∀ {n : Nat}, n ≤ 1000 → n ≤ sizeLine := fun h => Nat.le_of_lt (small1000 h)
  refine ⟨_, rfl, sz (by show 1 ≤ 1000; decide), fun t nt => ⟨_, rfl, _, rfl, a, _, rfl, .inl (SqL.of (ha.same (Same.put nt))), _, _, rfl, rfl, ?_⟩⟩
  rw [List.length_map]
  have s1 : Same H (upd H t (.lst [.int 0])) := Same.put nt
  refine ⟨t, _, _, rfl, rfl, upd_same, by omega, by omega, sz (by show 1 * _ ≤ 1000; omega), ?_⟩
  rw [show ((w : Int) - p.length).toNat = w - p.length by omega, rep0]
  intro u nu
  have s2 := s1.trans (Same.put (o := .lst ((List.replicate (w - p.length) (0 : Int)).map V.int)) nu)
  refine ⟨a, u, _, _, rfl, rfl, s2 _ _ ha, upd_same, sz (by rw [List.length_map, List.length_map, List.length_replicate]; omega), ?_⟩
  rw [← List.map_append]
  intro x nx
  have s3 := s2.trans (Same.put (o := .lst ((p ++ List.replicate (w - p.length) (0 : Int)).map V.int)) nx)
  refine ⟨_, rfl, sz (by show 1 ≤ 1000; decide), fun t2 nt2 => ⟨_, rfl, _, rfl, b, _, rfl, .inl (SqL.of (hb.same (s3.trans (Same.put nt2)))), _, _, rfl, rfl, ?_⟩⟩
  rw [List.length_map]
  have s4 := s3.trans (Same.put (o := .lst [.int 0]) nt2)
  refine ⟨t2, _, _, rfl, rfl, upd_same, by omega, by omega, sz (by show 1 * _ ≤ 1000; omega), ?_⟩
  rw [show ((w : Int) - r.length).toNat = w - r.length by omega, rep0]
  intro u2 nu2
  have s5 := s4.trans (Same.put (o := .lst ((List.replicate (w - r.length) (0 : Int)).map V.int)) nu2)
  refine ⟨b, u2, _, _, rfl, rfl, s5 _ _ hb, upd_same, sz (by rw [List.length_map, List.length_map, List.length_replicate]; omega), ?_⟩
  rw [← List.map_append]
  intro y ny
  generalize hG6 : upd _ y _ = H6
  have s6 : Same H H6 := by rw [← hG6]; exact s5.trans (Same.put ny)
  -- both as wide as the wider one
  have hx : At false H6 x (p ++ List.replicate (w - p.length) (0 : Int)) := by
    rw [← hG6]; exact Same.put ny _ _ (Same.put nu2 _ _ (Same.put nt2 _ _ upd_same))
  have hy : At false H6 y (r ++ List.replicate (w - r.length) (0 : Int)) := by rw [← hG6]; exact upd_same
  clear hG6
  generalize hX : p ++ List.replicate (w - p.length) (0 : Int) = X at hx
  generalize hY : r ++ List.replicate (w - r.length) (0 : Int) = Y at hy
  have lX : X.length = w := by rw [← hX, List.length_append, List.length_replicate]; omega
  have lY : Y.length = w := by rw [← hY, List.length_append, List.length_replicate]; omega
  refine ⟨_, _, rfl, _, rfl, _, rfl, false, false, x, y, _, _, rfl, hx.sq, hy.sq, fun D nD => ?_⟩
  refine lc_zipS (K := K) (xs := X.map V.int) (ys := Y.map V.int) w (by rw [List.length_map, List.length_map]; omega)
    (fun i H' => Same H6 H' ∧ H' D = some (.lst (((List.zipWith (fun x y => x + f * y) X Y).take i).map V.int))) ⟨Same.put nD, upd_same⟩ (fun i H' _ z => ⟨(hx.same z.1).sq, (hy.same z.1).sq⟩) ?_ ?_
  · rintro i x y U H' hx2 hy2 ⟨z2, eD⟩ nU
    obtain ⟨rfl, lx⟩ := int_at hx2
    obtain ⟨rfl, ly⟩ := int_at hy2
    have z3 := z2.trans (Same.put (o := .tup [.int (co X i), .int (co Y i)]) nU)
    have hy3 : (co Y i).natAbs < 2 ^ big := by rw [← hY, co_pad]; exact hB.co i
    refine ⟨U, _, rfl, SqT.of upd_same, rfl, _, _, rfl, _, _, rfl, rfl, rfl, yesT ⟨_, rfl, _, rfl, _, rfl, _, _, rfl, rfl, mulx_big hf hy3, _, _, rfl, rfl, _, Same.put nU _ _ eD, small1000 (by rw [List.length_map, List.length_take, List.length_zipWith]; omega), Same.ov nD z3, ?_⟩⟩
    rw [upd_same, List.take_add_one, List.getElem?_eq_getElem (by rw [List.length_zipWith]; omega), List.getElem_zipWith, ← co_at lx, ← co_at ly]
    simp
  rintro H2 ⟨z2, eD⟩
  rw [List.take_of_length_le (by rw [List.length_zipWith]; omega)] at eD
  refine ⟨D, _, rfl, eD, by rw [List.length_zipWith]; omega, ?_⟩
  rw [← hX, ← hY, pad_sum f (by omega)]
  exact q.go (s6.trans z2)
theorem ok__law_times {P : Program} {w : World} {K : PySem.W.Frag}
    {mg : Str → Option Value} {base : Heap} (T : Top K mg)
    (C__law_trim : Cl P w K mg base CX0 1 "_law_trim" s__law_trim ["_law_numbers"] (spTrim)) :
    Cl P w K mg base CX0 2 "_law_times" s__law_times ["_law_line_here", "_law_other"] (spLTimes) := by
  refine T.d__law_times.cl fun f fd F => body_0 F S__law_times (fun vs H Q E h => by obtain ⟨_, _, _, _, rfl, _⟩ := h; rfl) ?_
  intro cdv A out s H vs Q E hG hr h
  obtain ⟨a, b, p, r, rfl, ha, hb, hl, hm, hP, hR, q⟩ := h
  refine ⟨_, (pss_cons (ps_set (i := 2) S__law_times.nd rfl (Or.inl rfl) (pe_op op_rep (pe_lst (pa_cons pe_int pa_nil)) (pe_op op_add (pe_callB call_len_seq (by rfl) T.n_len PySem.boot_len (pa_cons (pv 0) pa_nil)) (pe_callB call_len_seq (by rfl) T.n_len PySem.boot_len (pa_cons (pv 1) pa_nil)))))
    (pss_cons (ps_for PassesOwn.never rfl (pi_enumS (by rfl) T.n_enumerate (pa_cons (pv 0) pa_nil)) (pg_tup rfl (pgs_cons (pg_name (i := 3) S__law_times.nd rfl (Or.inl rfl)) (pgs_cons (pg_name (i := 4) S__law_times.nd rfl (Or.inl rfl)) pgs_nil)))
      (pss_one (ps_for PassesOwn.never rfl (pi_enumS (by rfl) T.n_enumerate (pa_cons (pv 1) pa_nil)) (pg_tup rfl (pgs_cons (pg_name (i := 5) S__law_times.nd rfl (Or.inl rfl)) (pgs_cons (pg_name (i := 6) S__law_times.nd rfl (Or.inl rfl)) pgs_nil)))
      (pss_one (ps_asg (pe_op op_add (pe_ix ix_list (pv 2) (pe_op op_add (pv 3) (pv 5)) (fun _ _ => rfl)) (pe_op op_mulX (pv 4) (pv 6))) (pg_sub (pv 2) (pe_op op_add (pv 3) (pv 5)) set_list))))))
    (pss_one (ps_ret (pe_u C__law_trim hG hr (by decide) (by rfl) pass0 (pa_cons (pv 2) pa_nil)))))), ?_⟩
  refine ⟨(by show 1 ≤ sizeLine; decide), fun t nt => ?_⟩
  have s1 : Same H (upd H t (.lst [.int 0])) := Same.put nt
  refine ⟨_, rfl, a, _, rfl, .inl (SqL.of (s1 _ _ ha)), _, rfl, b, _, rfl, .inl (SqL.of (s1 _ _ hb)), _, _, rfl, rfl, ?_⟩
  rw [List.length_map, List.length_map]
  refine ⟨t, _, _, rfl, rfl, upd_same, (by omega), (by omega), (by show 1 * ((p.length : Int) + r.length).toNat ≤ sizeLine; exact Nat.le_of_lt (small1000 (by omega))), ?_⟩
  rw [show ((p.length : Int) + r.length).toNat = p.length + r.length by omega, rep0]
  intro o no
  have s2 : Same H (upd (upd H t (.lst [.int 0])) o (.lst ((List.replicate (p.length + r.length) (0 : Int)).map V.int))) := s1.trans (Same.put no)
  have nH : H o = none := s1.free no
  refine ⟨_, rfl, false, a, _, rfl, (ha.same s2).sq, ?_⟩
  refine for_enumS (K := K) (xs := p.map V.int) (fun i σ H' => ∃ (R : List Int) (y3 y4 y5 y6 : Option V), σ = [some (.ref a), some (.ref b), some (.ref o), y3, y4, y5, y6] ∧
    Same H H' ∧ H' o = some (.lst (R.map V.int)) ∧ R.length = p.length + r.length ∧ ∀ t, t < R.length → co R t = cv (co (p.take i)) (co r) t) ?_ ?_ ?_ ?_
  · exact ⟨_, none, none, none, none, rfl, s2, upd_same, List.length_replicate, fun t _ => by rw [co_rep, List.take_zero, co_nil, cv_zero]⟩
  · rintro i σ H' _ ⟨R, y3, y4, y5, y6, rfl, s3, _⟩
    exact (ha.same s3).sq
  · rintro i x T σ H' hx ⟨R, y3, y4, y5, y6, rfl, s3, eo, lR, hR2⟩ nT
    obtain ⟨rfl, li⟩ := int_at hx
    refine ⟨T, _, rfl, SqT.of upd_same, rfl, _, _, rfl, _, _, rfl, rfl, ?_⟩
    have s4 := s3.trans (Same.put (o := .tup [.int (i : Nat), .int (co p i)]) nT)
    refine ⟨_, rfl, false, b, _, rfl, (hb.same s4).sq, ?_⟩
    refine for_enumS (K := K) (xs := r.map V.int) (fun m σ H' => ∃ (R : List Int) (y5 y6 : Option V), σ = [some (.ref a), some (.ref b), some (.ref o), some (.int (i : Nat)), some (.int (co p i)), y5, y6] ∧
      Same H H' ∧ H' o = some (.lst (R.map V.int)) ∧ R.length = p.length + r.length ∧ ∀ t, t < R.length → co R t = row p r i m t) ?_ ?_ ?_ ?_
    · exact ⟨R, y5, y6, rfl, s4, Same.put nT _ _ eo, lR, fun t ht => by rw [row_0]; exact hR2 t ht⟩
    · rintro m σ H' _ ⟨R, y5, y6, rfl, s3, _⟩
      exact (hb.same s3).sq
    · rintro m y U σ H' hy ⟨R, y5, y6, rfl, s5, eo, lR, hR3⟩ nU
      obtain ⟨rfl, lm⟩ := int_at hy
      have eo2 := Same.put (o := .tup [.int (m : Nat), .int (co r m)]) nU _ _ eo
      have s6 := s5.trans (Same.put (o := .tup [.int (m : Nat), .int (co r m)]) nU)
      obtain ⟨g1, g2⟩ := set_int (p := R) (i := i + m) (by omega) (co R (i + m) + co p i * co r m)
      refine ⟨U, _, rfl, SqT.of upd_same, rfl, _, _, rfl, _, _, rfl, rfl, ?_⟩
      refine ⟨_, rfl, _, rfl, _, rfl, _, _, rfl, rfl, o, _, _, _, rfl, rfl, SqL.of eo2, atI_int (i := i + m) (by omega), _, rfl, _, rfl, _, _, rfl, rfl, mulx_big (hP.co i) (hR.co m), _, _, rfl, rfl, _, rfl, _, rfl, _, rfl, _, _, rfl, rfl, o, _, _, _, rfl, rfl, eo2, g1, ?_⟩
      rw [g2]
      refine ⟨R.set (i + m) (co R (i + m) + co p i * co r m), _, _, rfl, Same.ov nH s6, upd_same, by rw [List.length_set]; exact lR, fun t ht => ?_⟩
      rw [List.length_set] at ht
      rw [co_set (by omega), row_s, hR3 _ (by omega)]
      by_cases e : t = i + m
      · rw [if_pos e, if_pos e, e]
      · rw [if_neg e, if_neg e, hR3 _ ht]
    · rintro σ H' ⟨R, y5, y6, rfl, s5, eo, lR, hR3⟩
      rw [List.length_map] at hR3
      exact ⟨R, _, _, _, _, rfl, s5, eo, lR, fun t ht => by rw [hR3 t ht, row_end li]⟩
  · rintro σ H' ⟨R, y3, y4, y5, y6, rfl, s3, eo, lR, hR2⟩
    rw [List.length_map, List.take_length] at hR2
    refine ⟨_, rfl, o, R, rfl, eo, by omega, ?_⟩
    rw [trim_tab (by omega) hR2]
    exact q.go s3
theorem ok__law_greatest {P : Program} {w : World} {K : PySem.W.Frag}
    {mg : Str → Option Value} {base : Heap} (T : Top K mg) :
    Cl P w K mg base CX0 1 "_law_greatest" s__law_greatest ["_law_some"] (spLGreatB) := by
  refine T.d__law_greatest.cl fun f fd F => body_0 F S__law_greatest (fun vs H Q E h => by obtain ⟨_, _, rfl, _⟩ := h; rfl) ?_
  intro cdv A out s H vs Q E hG hr h
  obtain ⟨a, p, rfl, ha, hl, hb, q⟩ := h
  refine ⟨_, (pss_cons (ps_set (i := 1) S__law_greatest.nd rfl (Or.inl rfl) pe_int)
    (pss_cons (ps_for PassesOwn.never rfl (pi_list (pv 0)) (pg_name (i := 2) S__law_greatest.nd rfl (Or.inl rfl))
      (pss_cons (ps_set (i := 3) S__law_greatest.nd rfl (Or.inl rfl) (pe_callB call_abs (by rfl) T.n_abs (by decide +kernel) (pa_cons (pv 2) pa_nil)))
    (pss_one (ps_while PassesOwn.never (pt_cmpR op_ne (pv 3) pe_int (nomark _))
      (pss_one (ps_par (i := 1) (j := 3) rfl S__law_greatest.nd rfl rfl (by decide) rfl rfl (pa_cons (pv 3) (pa_cons (pe_op op_sub (pv 1) (pe_op op_mulX (pe_op op_fdivB (pv 1) (pv 3)) (pv 3))) pa_nil)) (by rfl)))))))
    (pss_one (ps_ret (pv 1))))), ?_⟩
  obtain ⟨B, hB, B0⟩ : ∃ B : Nat, B = 2 ^ k13 ∧ 0 < B := ⟨_, rfl, Nat.two_pow_pos _⟩
  have toBig : ∀ n : Nat, n < B → ((n : Nat) : Int).natAbs < 2 ^ big := fun n h => by
    rw [Int.natAbs_natCast]; rw [hB] at h
    exact Nat.lt_of_lt_of_le h (Nat.pow_le_pow_right (by decide) (big_le k13_big))
  refine ⟨_, rfl, a, rfl, ⟨_, SqL.of ha⟩, ?_⟩
  refine for_list (K := K) (xs := p.map V.int) (fun i σ H' => ∃ y2 y3 : Option V, σ = [some (.ref a), some (.int (cnt (p.take i) : Nat)), y2, y3] ∧ H' = H ∧ cnt (p.take i) < B) ?_ ?_ ?_ ?_
  · exact ⟨none, none, rfl, rfl, by rw [List.take_zero]; exact B0⟩
  · rintro i σ H' _ ⟨y2, y3, rfl, rfl, _⟩
    exact SqL.of ha
  · rintro i y σ H' hy ⟨y2, y3, rfl, rfl, hc⟩
    obtain ⟨rfl, li⟩ := int_at hy
    have bi : (co p i).natAbs < B := by rw [hB]; exact hb.co i
    have ea : (if co p i < 0 then -co p i else co p i) = (((co p i).natAbs : Nat) : Int) := by split <;> omega
    refine ⟨_, rfl, _, rfl, ?_⟩
    rw [ea]
    refine ⟨fun m σ H'' => ∃ x y : Nat, σ = [some (.ref a), some (.int (x : Nat)), some (.int (co p i)), some (.int (y : Nat))] ∧ H'' = H' ∧ m = y ∧ x < B ∧ y < B ∧ Nat.gcd x y = cnt (p.take (i + 1)), ⟨_, _, _, rfl, rfl, rfl, hc, bi, by rw [take_co li, cnt_snoc]⟩, ?_⟩
    rintro m σ H'' ⟨x, y, rfl, rfl, rfl, hx, hy2, hg⟩
    refine ⟨_, rfl, rfl, _, rfl, ?_⟩
    by_cases y0 : m = 0
    · subst y0
      rw [Nat.gcd_zero_right] at hg
      refine ifF (by simp) ⟨_, _, by rw [hg], rfl, by omega⟩
    refine ifT (by simpa using y0) ?_
    obtain ⟨e1, e2, e3⟩ := euclid (x := x) y0
    refine ⟨_, fun _ _ z => z, ?_⟩
    have lt : x % m < m := Nat.mod_lt _ (by omega)
    have le := Nat.div_le_self x m
    refine ⟨_, rfl, _, rfl, _, rfl, _, rfl, _, _, rfl, rfl, ⟨by omega, .inr (by rw [← hB, Int.natAbs_natCast]; exact hx)⟩, _, rfl, _, _, rfl, rfl, mulx_big (by rw [e2]; exact toBig _ (by omega)) (toBig _ hy2), _, _, rfl, rfl, _, _, rfl, x % m, lt, m, x % m, (by rw [← e1]; rfl), rfl, rfl, hy2, by omega, by rw [e3]; exact hg⟩
  · rintro σ H' ⟨y2, y3, rfl, rfl, _⟩
    refine ⟨_, rfl, ?_⟩
    rw [List.length_map, List.take_length]
    exact q
theorem ok__law_plain {P : Program} {w : World} {K : PySem.W.Frag}
    {mg : Str → Option Value} {base : Heap} (T : Top K mg)
    (C__law_greatest : Cl P w K mg base CX0 1 "_law_greatest" s__law_greatest ["_law_some"] (spLGreatB)) :
    Cl P w K mg base CX0 2 "_law_plain" s__law_plain ["_law_line_here"] (spLPlainB) := by
  refine T.d__law_plain.cl fun f fd F => body_0 F S__law_plain (fun vs H Q E h => by obtain ⟨_, _, rfl, _⟩ := h; rfl) ?_
  intro cdv A out s H vs Q E hG hr h
  obtain ⟨a, p, rfl, ha, hl, hc, hb, q⟩ := h
  refine ⟨_, (pss_cons (ps_set (i := 1) S__law_plain.nd rfl (Or.inr rfl) (pe_u C__law_greatest hG hr (by decide) (by rfl) pass0 (pa_cons (pv 0) pa_nil)))
    (pss_cons (ps_if (pt_cmpR (op_eqD (hu64 hr)) (pv 0) (pe_lst pa_nil) (nomark _))
      (pss_one (ps_ret (pe_lst pa_nil)))
      pss_nil)
    (pss_cons (ps_set (i := 1) S__law_plain.nd rfl (Or.inr rfl) (pe_ifExp (pt_cmpR op_gt (pe_ix ix_list (pv 0) (pe_un un_neg pe_int) (fun _ _ => rfl)) pe_int (nomark _)) (pv 1) (pe_op op_sub pe_int (pv 1))))
    (pss_one (ps_ret (pe_lc (own := [("_law_number", 2)]) (g := gName 2) (tt := tYes) rfl S__law_plain.nd (pi_list (pv 0)) (blkOk_by (N := ["_law_line_here", "_law_common_here", "_law_number"]) (sc := defScope s__law_plain) (by decide +kernel)) (fun _ _ _ _ _ => (pg_name (i := 2) S__law_plain.nd rfl (Or.inl rfl))) (fun _ _ _ _ _ => pts_nil) (fun _ _ _ _ _ => (pe_op op_fdivB (pv 2) (pv 1))))))))), ?_⟩
  refine ⟨_, rfl, a, p, rfl, ha, hl, hb, _, rfl, (by show 0 ≤ sizeLine; decide), fun e ne => ?_⟩
  have s1 : Same H (upd H e (.lst [])) := Same.put ne
  refine eqL (p := p) (q := []) (s1 _ _ ha) upd_same ⟨_, rfl, ?_⟩
  by_cases hp : p = []
  · subst hp
    exact iteT ⟨(by show 0 ≤ sizeLine; decide), fun t nt => q _ t (s1.trans (Same.put nt)) (s1.free nt) upd_same⟩
  rw [decide_eq_false hp]
  refine iteF ?_
  have h0 := sgc_ne hc hp
  have h1 := sgc_abs p
  have hne := cn_last hc hp
  generalize hg1 : upd H e _ = H1 at s1
  have ha1 : At false H1 a p := ha.same s1
  refine ⟨_, rfl, _, rfl, a, _, -1, _, rfl, rfl, SqL.of ha1, atI_end hp, _, _, rfl, rfl, _, rfl, ite2 (fun c => ?_) (fun c => ?_)⟩
  · have c0 : 0 < co p (p.length - 1) := of_decide_eq_true c
    have hg : sgc p = (cnt p : Int) := if_neg (by omega)
    refine ⟨_, rfl, ?_⟩
    refine ⟨_, rfl, a, rfl, ⟨_, SqL.of ha1⟩, fun D nD => ?_⟩
    refine lc_list (K := K) (xs := p.map V.int) (fun i H' => Same H1 H' ∧ H' D = some (.lst (((plF p).take i).map V.int))) ⟨Same.put nD, upd_same⟩ (fun i H' _ z => SqL.of (ha1.same z.1)) ?_ ?_
    · rintro i x H' hx ⟨s2, eD⟩
      obtain ⟨rfl, li⟩ := int_at hx
      refine ⟨rfl, yesT ⟨_, rfl, _, rfl, _, _, rfl, rfl, ⟨(by show ((cnt p : Nat) : Int) ≠ 0; omega), .inr (hb.co i)⟩, _, eD, small1000 (by rw [List.length_map, List.length_take]; omega), Same.ov nD s2, ?_⟩⟩
      have li2 : i < (plF p).length := by rw [plF_length]; exact li
      rw [upd_same, List.take_add_one, List.getElem?_eq_getElem li2, List.map_append]
      simp only [plF, List.getElem_map, ← co_at li, hg, Int.zero_sub]
      rfl
    rintro H2 ⟨s2, eD⟩
    rw [List.length_map, List.take_of_length_le (by rw [plF_length]; exact Nat.le_refl _)] at eD
    exact q _ D (Same.trans s1 s2) (s1.free nD) eD
  · have c0 : ¬ 0 < co p (p.length - 1) := fun z => c (decide_eq_true z)
    have hg : sgc p = -(cnt p : Int) := if_pos (by omega)
    refine ⟨_, rfl, _, _, rfl, rfl, ?_⟩
    refine ⟨_, rfl, a, rfl, ⟨_, SqL.of ha1⟩, fun D nD => ?_⟩
    refine lc_list (K := K) (xs := p.map V.int) (fun i H' => Same H1 H' ∧ H' D = some (.lst (((plF p).take i).map V.int))) ⟨Same.put nD, upd_same⟩ (fun i H' _ z => SqL.of (ha1.same z.1)) ?_ ?_
    · rintro i x H' hx ⟨s2, eD⟩
      obtain ⟨rfl, li⟩ := int_at hx
      refine ⟨rfl, yesT ⟨_, rfl, _, rfl, _, _, rfl, rfl, ⟨(by show (0 : Int) - ((cnt p : Nat) : Int) ≠ 0; omega), .inr (hb.co i)⟩, _, eD, small1000 (by rw [List.length_map, List.length_take]; omega), Same.ov nD s2, ?_⟩⟩
      have li2 : i < (plF p).length := by rw [plF_length]; exact li
      rw [upd_same, List.take_add_one, List.getElem?_eq_getElem li2, List.map_append]
      simp only [plF, List.getElem_map, ← co_at li, hg, Int.zero_sub]
      rfl
    rintro H2 ⟨s2, eD⟩
    rw [List.length_map, List.take_of_length_le (by rw [plF_length]; exact Nat.le_refl _)] at eD
    exact q _ D (Same.trans s1 s2) (s1.free nD) eD
theorem ok__law_common {P : Program} {w : World} {K : PySem.W.Frag}
    {mg : Str → Option Value} {base : Heap} (T : Top K mg)
    (C__law_plain : Cl P w K mg base CX0 2 "_law_plain" s__law_plain ["_law_line_here"] (spLPlainB))
    (C__law_sum : Cl P w K mg base CX0 2 "_law_sum" s__law_sum ["_law_line_here", "_law_other", "_law_factor"] (spLSum)) :
    Cl P w K mg base CX0 3 "_law_common" s__law_common ["_law_line_here", "_law_other"] (spLComm) := by
  refine T.d__law_common.cl fun f fd F => body_0 F S__law_common (fun vs H Q E h => by obtain ⟨_, _, _, _, rfl, _⟩ := h; rfl) ?_
  intro cdv A out s H vs Q E hG hr h
  obtain ⟨a, b, p, r, rfl, ha, hb, lp, lq, cp, cq, bp, bq, kp, kq, q⟩ := h
  refine ⟨_, (pss_cons (ps_asg (pe_tup (pa_cons (pe_u C__law_plain hG hr (by decide) (by rfl) pass0 (pa_cons (pv 0) pa_nil)) (pa_cons (pe_u C__law_plain hG hr (by decide) (by rfl) pass0 (pa_cons (pv 1) pa_nil)) pa_nil))) (pg_tup rfl (pgs_cons (pg_name (i := 2) S__law_common.nd rfl (Or.inl rfl)) (pgs_cons (pg_name (i := 3) S__law_common.nd rfl (Or.inr rfl)) pgs_nil))))
    (pss_cons (ps_while PassesOwn.never (pt_cmpR (op_neD (hu64 hr)) (pv 3) (pe_lst pa_nil) (nomark _))
      (pss_cons (ps_set (i := 4) S__law_common.nd rfl (Or.inl rfl) (pv 2))
    (pss_cons (ps_while PassesOwn.never (pt_cmpR op_ge (pe_callB call_len_seq (by rfl) T.n_len PySem.boot_len (pa_cons (pv 4) pa_nil)) (pe_callB call_len_seq (by rfl) T.n_len PySem.boot_len (pa_cons (pv 3) pa_nil)) (nomark _))
      (pss_one (ps_set (i := 4) S__law_common.nd rfl (Or.inl rfl) (pe_u C__law_sum hG hr (by decide) (by rfl) pass0 (pa_cons (pe_lc (own := [("_law_number", 5)]) (g := gName 5) (tt := tYes) rfl S__law_common.nd (pi_list (pv 4)) (blkOk_by (N := ["_law_line_here", "_law_other", "_law_near", "_law_far", "_law_rest", "_law_number"]) (sc := defScope s__law_common) (by decide +kernel)) (fun _ _ _ _ _ => (pg_name (i := 5) S__law_common.nd rfl (Or.inl rfl))) (fun _ _ _ _ _ => pts_nil) (fun _ _ _ _ _ => (pe_op op_mulX (pv 5) (pe_ix (ix_listK (K := K) rfl) (pv 3) (pe_un un_neg pe_int) (fun _ _ => rfl))))) (pa_cons (pe_op op_cat (pe_op op_rep (pe_lst (pa_cons pe_int pa_nil)) (pe_op op_sub (pe_callB call_len_seq (by rfl) T.n_len PySem.boot_len (pa_cons (pv 4) pa_nil)) (pe_callB call_len_seq (by rfl) T.n_len PySem.boot_len (pa_cons (pv 3) pa_nil)))) (pv 3)) (pa_cons (pe_op op_sub pe_int (pe_ix ix_list (pv 4) (pe_un un_neg pe_int) (fun _ _ => rfl))) pa_nil)))))))
    (pss_one (ps_asg (pe_tup (pa_cons (pv 3) (pa_cons (pe_u C__law_plain hG hr (by decide) (by rfl) pass0 (pa_cons (pv 4) pa_nil)) pa_nil))) (pg_tup rfl (pgs_cons (pg_name (i := 2) S__law_common.nd rfl (Or.inl rfl)) (pgs_cons (pg_name (i := 3) S__law_common.nd rfl (Or.inr rfl)) pgs_nil))))))))
    (pss_one (ps_ret (pv 2))))), ?_⟩
  have sz : ∀ {n : Nat}, n ≤ 1000 → n ≤ sizeLine := fun h => Nat.le_of_lt (small1000 h)
  refine ⟨_, rfl, a, p, rfl, ha, by omega, cp, kp, fun H1 e1 s1 n1 g1 => ?_⟩
  refine ⟨_, rfl, b, r, rfl, hb.same s1, by omega, cq, kq, fun H2 e2 s2 n2 g2 => ⟨sz (by decide : 2 ≤ 1000), fun T nT => ⟨T, _, rfl, SqT.of upd_same, rfl, _, _, rfl, _, _, rfl, rfl, ?_⟩⟩⟩
  have s12 := Same.trans s1 s2
  have sT : Same H2 (upd H2 T (.tup [.ref e1, .ref e2])) := Same.put nT
  refine ⟨fun w σ H' => ∃ (P S : List Int) (u v : Addr) (n m : Nat) (y4 : Option V), σ = [some (.ref a), some (.ref b), some (.ref u), some (.ref v), y4, none] ∧
    Same H H' ∧ At false H' u P ∧ At false H' v S ∧ H u = none ∧ H v = none ∧ CB P S n m ∧ w = S.length ∧ ∀ g, Gc P S g → Gc (plF p) (plF r) g,
    ⟨_, _, _, e1, e2, 8, 8, none, rfl, Same.trans s12 sT, At.same (k := false) (Same.trans s2 sT) g1, At.same (k := false) sT g2, n1, s1.free n2, CB.first cp cq lp lq bp bq, rfl, fun g h => h⟩, ?_⟩
  rintro w σ H' ⟨P, S, u, v, n, m, y4, rfl, s3, hu, hv, nu, nv, I, rfl, hg⟩
  refine ⟨_, rfl, sz (by decide : 0 ≤ 1000), fun L nL => ?_⟩
  have sL : Same H' (upd H' L (.lst [])) := Same.put nL
  refine neL (p := S) (q := []) (hv.same sL) upd_same ⟨_, rfl, ?_⟩
  by_cases hS : S = []
  · subst hS
    exact iteF ⟨_, rfl, q _ u P (s3.trans sL) nu (hu.same sL) (hg P (.done P)) I.done I.lp⟩
  rw [decide_eq_false hS]
  refine iteT ⟨_, fun _ _ z => z, ?_⟩
  have lP := I.lp
  have lS := I.ls
  have sm := I.small
  have lS0 : 0 < S.length := List.length_pos_iff.mpr hS
  generalize hgL : upd H' L _ = K1 at sL
  have sK : Same H K1 := s3.trans sL
  have hu1 : At false K1 u P := hu.same sL
  have hv1 : At false K1 v S := hv.same sL
  clear hgL
  have dwb : ∀ k, k ≤ P.length + 1 - S.length → n + k * (m + 1) ≤ dw P S n m := fun k hk => by
    unfold dw; have := Nat.mul_le_mul_right (m + 1) hk; omega
  have dwB : dw P S n m + m + 2 ≤ 60000000 := by
    unfold dw
    have h1 : (P.length + 1 - S.length) * (m + 1) ≤ 401 * 60001 := Nat.mul_le_mul (by omega) (by omega)
    omega
  refine ⟨_, rfl, ?_⟩
  refine ⟨fun w σ H' => ∃ (c : Int) (D x : List Int) (y : Addr) (k : Nat), σ = [some (.ref a), some (.ref b), some (.ref u), some (.ref v), some (.ref y), none] ∧
    Same K1 H' ∧ At false H' y x ∧ H y = none ∧ c ≠ 0 ∧ (∀ i, c * co P i = cv (co D) (co S) i + co x i) ∧ Cn x ∧ w = x.length ∧ k + x.length ≤ P.length ∧ (0 < k → k + S.length ≤ P.length + 1) ∧
    Bd (n + k * (m + 1)) x, ⟨P.length, 1, [], P, u, 0, rfl, Same.refl _, hu1, nu, by decide, fun i => by rw [co_nil, cv_zero]; omega, I.p.1, rfl, by omega, fun h => absurd h (by decide), by simpa using I.bp⟩, ?_⟩
  rintro w σ H4 ⟨c, D, x, y, k, rfl, s4, hy, ny, c0, eq, cx, rfl, hk, hk2, bx⟩
  have hv4 : At false H4 v S := hv1.same s4
  refine ⟨_, rfl, y, _, rfl, .inl (SqL.of hy), _, rfl, v, _, rfl, .inl (SqL.of hv4), _, _, rfl, rfl, _, rfl, ?_⟩
  rw [List.length_map, List.length_map]
  refine ite2 (fun c1 => ?_) (fun c1 => ?_)
  case refine_2 =>
    have l : x.length < S.length := by
      have c2 : ¬ (S.length : Int) ≤ x.length := fun z => c1 (decide_eq_true z)
      omega
    have kk : k ≤ P.length + 1 - S.length := by
      by_cases e : 0 < k
      · have := hk2 e; omega
      · omega
    obtain ⟨I2, kr⟩ := I.next hS cx l (bx.mono (dwb k kk))
    refine ⟨_, rfl, _, rfl, y, x, rfl, hy, by omega, cx, kr, fun H5 z s5 nz gz => ⟨sz (by decide : 2 ≤ 1000), fun T nT => ⟨T, _, rfl, SqT.of upd_same, rfl, _, _, rfl, _, _, rfl, rfl, ?_⟩⟩⟩
    have s6 := Same.trans s4 (Same.trans s5 (Same.put (o := .tup [.ref v, .ref z]) nT))
    exact ⟨(plF x).length, by rw [plF_length]; exact l, S, plF x, v, z, m, _, _, rfl, Same.trans sK s6, hv1.same s6, At.same (k := false) (Same.put nT) gz, nv, Same.free (Same.trans sK s4) nz, I2, rfl, fun g h => hg g (.step (c := c) (Q := D) hS ⟨c0, cx, l, eq⟩ h)⟩
  have l : S.length ≤ x.length := by have := of_decide_eq_true c1; omega
  have hx : x ≠ [] := by intro e; rw [e] at l; simp at l; exact hS l
  have lx : x.length ≤ 8 := by omega
  have kk : k + 1 ≤ P.length + 1 - S.length := by omega
  have kb := dwb _ kk
  have kb2 : n + (k + 1) * (m + 1) = n + k * (m + 1) + m + 1 := by rw [Nat.add_mul k 1]; omega
  refine ⟨_, fun _ _ z => z, ?_⟩
  -- each times the last of the other
  refine ⟨_, rfl, y, rfl, ⟨_, SqL.of hy⟩, fun D2 nD2 => ?_⟩
  refine lc_list (K := K) (xs := x.map V.int) (fun i H2 => Same H4 H2 ∧ H2 D2 = some (.lst ((sclF (co S (S.length - 1)) (x.take i)).map V.int))) ⟨Same.put nD2, upd_same⟩ (fun i H2 _ z => SqL.of (hy.same z.1)) ?_ ?_
  · rintro i y H2 hy2 ⟨z2, eD⟩
    obtain ⟨rfl, li⟩ := int_at hy2
    refine ⟨rfl, yesT ⟨_, rfl, _, rfl, _, rfl, v, _, -1, _, rfl, rfl, SqL.of (hv4.same z2), atI_end hS, _, _, rfl, rfl, mulx_big (pow_big (bx.co i) (by omega)) (pow_big (I.bs.co _) (by omega)), _, eD, small1000 (by simp [sclF]; omega), Same.ov nD2 z2, ?_⟩⟩
    rw [upd_same, take_co li]
    simp [sclF, Int.mul_comm]
  rintro H5 ⟨s5, eD⟩
  rw [List.length_map, List.take_length] at eD
  have hD2 : At false H5 D2 (sclF (co S (S.length - 1)) x) := eD
  refine ⟨sz (by decide : 1 ≤ 1000), fun t2 nt2 => ?_⟩
  have s6 := s5.trans (Same.put (o := .lst [.int 0]) nt2)
  refine ⟨_, rfl, y, _, rfl, .inl (SqL.of (hy.same s6)), _, rfl, v, _, rfl, .inl (SqL.of (hv4.same s6)), _, _, rfl, rfl, ?_⟩
  rw [List.length_map, List.length_map]
  refine ⟨t2, _, _, rfl, rfl, upd_same, by omega, by omega, sz (by show 1 * ((x.length : Int) - S.length).toNat ≤ 1000; omega), ?_⟩
  rw [show ((x.length : Int) - S.length).toNat = x.length - S.length by omega, rep0]
  intro t3 nt3
  have s7 := (Same.put (o := .lst [.int 0]) nt2).trans (Same.put (o := .lst ((List.replicate (x.length - S.length) (0 : Int)).map V.int)) nt3)
  refine ⟨_, rfl, t3, v, _, _, rfl, rfl, upd_same, (hv4.same s5).same s7, sz (by rw [List.length_map, List.length_map, List.length_replicate]; omega), ?_⟩
  rw [← List.map_append]
  intro t4 nt4
  have s8 := s7.trans (Same.put (o := .lst ((List.replicate (x.length - S.length) (0 : Int) ++ S).map V.int)) nt4)
  refine ⟨_, rfl, _, rfl, y, _, -1, _, rfl, rfl, SqL.of ((hy.same s5).same s8), atI_end hx, _, _, rfl, rfl, ?_⟩
  have lD : (sclF (co S (S.length - 1)) x).length = x.length := by simp [sclF]
  have bw : Bd m (shF (x.length - S.length) S) := fun z hz => by
    rcases List.mem_append.mp hz with hz | hz
    · rw [List.eq_of_mem_replicate hz]; exact Nat.two_pow_pos _
    · exact I.bs z hz
  have xB : (0 - co x (x.length - 1)).natAbs < 2 ^ (n + k * (m + 1)) := by rw [Int.zero_sub, Int.natAbs_neg]; exact bx.co _
  refine ⟨D2, t4, sclF (co S (S.length - 1)) x, shF (x.length - S.length) S, 0 - co x (x.length - 1), rfl, hD2.same s8, upd_same, by omega, (by show (List.replicate (x.length - S.length) (0 : Int) ++ S).length ≤ 500; rw [List.length_append, List.length_replicate]; omega), bd_big bw (by omega), pow_big xB (by omega), fun H6 y' s9 n9 g9 => ?_⟩
  have er : ∀ i, co (trim (addF (sclF (co S (S.length - 1)) x) (sclF (0 - co x (x.length - 1)) (shF (x.length - S.length) S)))) i = co S (S.length - 1) * co x i + -co x (x.length - 1) * (if x.length - S.length ≤ i then co S (i - (x.length - S.length)) else 0) := fun i => by
    rw [co_trim, co_add, co_scl, co_scl, co_sh, Int.zero_sub]
  obtain ⟨g1, ⟨D', g2⟩, g3⟩ := pseudo (P := P) (D := D) c0 hS I.s.1 rfl rfl l rfl eq (cn_trim _) er
  have sE : Same H4 H6 := s5.trans (s8.trans s9)
  refine ⟨_, g3, c * co S (S.length - 1), D', _, y', k + 1, rfl, Same.trans s4 sE, g9, Same.free (Same.trans (Same.trans sK s4) (s5.trans s8)) n9, g1, g2, cn_trim _, rfl, by omega, fun _ => by omega, bd_of fun i => ?_⟩
  · have w1 := wide2 (I.bs.co (S.length - 1)) (bx.co i)
    have w2 : (-co x (x.length - 1) * (if x.length - S.length ≤ i then co S (i - (x.length - S.length)) else 0)).natAbs < 2 ^ (n + k * (m + 1) + m) := by
      refine wide2 (by rw [Int.natAbs_neg]; exact bx.co _) ?_
      split
      · exact I.bs.co _
      · exact Nat.two_pow_pos _
    rw [er, kb2, Nat.pow_succ]
    rw [show m + (n + k * (m + 1)) = n + k * (m + 1) + m by omega] at w1
    omega
theorem ok__law_divided_right {P : Program} {w : World} {K : PySem.W.Frag}
    {mg : Str → Option Value} {base : Heap} (T : Top K mg)
    (C__law_greatest : Cl P w K mg base CX0 1 "_law_greatest" s__law_greatest ["_law_some"] (spLGreatB))
    (C__law_sum : Cl P w K mg base CX0 2 "_law_sum" s__law_sum ["_law_line_here", "_law_other", "_law_factor"] (spLSum))
    (C__law_times : Cl P w K mg base CX0 2 "_law_times" s__law_times ["_law_line_here", "_law_other"] (spLTimes))
    (C__law_trim : Cl P w K mg base CX0 1 "_law_trim" s__law_trim ["_law_numbers"] (spTrim))
    (C_line_divided : Cl P w K mg base CX0 5 "line_divided" s_line_divided ["line", "other"] (spLnD)) :
    Cl P w K mg base CX0 6 "_law_divided_right" s__law_divided_right ["_law_one", "_law_other"] (spDivR) := by
  refine T.d__law_divided_right.cl fun f fd F => body_0 F S__law_divided_right (fun vs H Q E h => by obtain ⟨_, _, _, _, rfl, _⟩ := h; rfl) ?_
  intro cdv A out s H vs Q E hG hr h
  obtain ⟨a, b, p, r, rfl, ha, hb, cp, cr, lp, lr, hr0, bp, br, q⟩ := h
  refine ⟨_, (pss_cons (ps_par (i := 2) (j := 3) rfl S__law_divided_right.nd rfl rfl (by decide) rfl rfl (pa_cons (pe_callB (call_shown hG (hu64 hr)) (by rfl) T.n_repr (by decide +kernel) (pa_cons (pe_lst (pa_cons (pv 0) (pa_cons (pv 1) pa_nil))) pa_nil)) (pa_cons (pe_u C_line_divided hG hr (by decide) (by rfl) pass0 (pa_cons (pv 0) (pa_cons (pv 1) pa_nil))) pa_nil)) (by rfl))
    (pss_cons (ps_if ((pw_or (pt_not (pt_val (pe_callB call_isi (by rfl) T.n_isinstance (by decide +kernel) (pa_cons (pv 3) (pa_cons (pe_bltn (v := .ty "tuple") (u := .type "tuple") (by rfl) T.n_tuple (by decide +kernel) rfl) pa_nil))))) (pw_or (pt_cmpR op_ne (pe_callB call_len_seq (by rfl) T.n_len PySem.boot_len (pa_cons (pv 3) pa_nil)) pe_int (nomark _)) (pw_or (pt_cmpR op_lt (pe_ix ix_tup (pv 3) pe_int (fun _ _ => rfl)) pe_int (nomark _)) (pw_or1 (pt_cmpR (op_neD (hu64 hr)) (pe_uk C_line_divided (kw_line_divided_other_line) hG hr (by decide) (by rfl) pass0 (pk_cons (pv 1) (pk_cons (pv 0) pk_nil))) (pv 3) (nomark _))))))).pt
      (pss_one (ps_ret pe_bl))
      pss_nil)
    (pss_cons (ps_asg (pv 3) (pg_tup rfl (pgs_cons (pg_name (i := 4) S__law_divided_right.nd rfl (Or.inr rfl)) (pgs_cons (pg_name (i := 5) S__law_divided_right.nd rfl (Or.inl rfl)) (pgs_cons (pg_name (i := 6) S__law_divided_right.nd rfl (Or.inl rfl)) pgs_nil)))))
    (pss_cons (ps_if ((pw_or (pt_cmpR (op_neD (hu64 hr)) (pe_u C__law_trim hG hr (by decide) (by rfl) pass0 (pa_cons (pv 5) pa_nil)) (pv 5) (nomark _)) (pw_or (pt_cmpR (op_neD (hu64 hr)) (pe_u C__law_trim hG hr (by decide) (by rfl) pass0 (pa_cons (pv 6) pa_nil)) (pv 6) (nomark _)) (pw_or (pt_cmpR op_ge (pe_callB call_len_seq (by rfl) T.n_len PySem.boot_len (pa_cons (pv 6) pa_nil)) (pe_callB call_len_seq (by rfl) T.n_len PySem.boot_len (pa_cons (pv 1) pa_nil)) (nomark _)) (pw_or1 (pt_cmpR op_ne (pe_callB (call_shown hG (hu64 hr)) (by rfl) T.n_repr (by decide +kernel) (pa_cons (pe_lst (pa_cons (pv 0) (pa_cons (pv 1) pa_nil))) pa_nil)) (pv 2) (nomark _))))))).pt
      (pss_one (ps_ret pe_bl))
      pss_nil)
    (pss_cons (ps_if (pt_cmpR op_ne (pe_u C__law_greatest hG hr (by decide) (by rfl) pass0 (pa_cons (pe_op op_cat (pe_op op_cat (pe_lst (pa_cons (pv 4) pa_nil)) (pv 5)) (pv 6)) pa_nil)) pe_int (nomark _))
      (pss_one (ps_ret pe_bl))
      pss_nil)
    (pss_one (ps_ret (pe_cmpR (op_eqD (hu64 hr)) (pe_u C__law_sum hG hr (by decide) (by rfl) pass0 (pa_cons (pe_u C__law_times hG hr (by decide) (by rfl) pass0 (pa_cons (pv 5) (pa_cons (pe_callTy call_list_of (by rfl) T.n_list (by decide +kernel) (pa_cons (pv 1) pa_nil)) pa_nil))) (pa_cons (pv 6) (pa_cons pe_int pa_nil)))) (pe_lc (own := [("_law_coefficient", 7)]) (g := gName 7) (tt := tYes) rfl S__law_divided_right.nd (pi_list (pv 0)) (blkOk_by (N := ["_law_one", "_law_other", "_law_shown", "_law_told", "_law_number", "_law_quotient", "_law_rest", "_law_coefficient"]) (sc := defScope s__law_divided_right) (by decide +kernel)) (fun _ _ _ _ _ => (pg_name (i := 7) S__law_divided_right.nd rfl (Or.inl rfl))) (fun _ _ _ _ _ => pts_nil) (fun _ _ _ _ _ => (pe_op op_mulX (pv 4) (pv 7)))) (nomark _))))))))), ?_⟩
  have sz : ∀ {n : Nat}, n ≤ 1000 → n ≤ sizeLine := fun h => Nat.le_of_lt (small1000 h)
  have l0 : 0 < r.length := List.length_pos_iff.mpr hr0
  have smp := bd_sm bp (by decide)
  have smr := bd_sm br (by decide)
  have lnp : ∀ {K1 : Hp}, At false K1 a p → Ln false K1 a p := fun h => ⟨h, cp, by omega, bp.mono (by decide)⟩
  have lnr : ∀ {K1 : Hp}, At false K1 b r → Ln false K1 b r := fun h => ⟨h, cr, by omega, br.mono (by decide)⟩
  have tp : (co r (r.length - 1)).natAbs < 2 ^ k9 := Nat.lt_of_lt_of_le (br.co _) (Nat.pow_le_pow_right (by decide) (k9_le (by decide)))
  have dwv : dw p r 12 4 ≤ 62 := by
    unfold dw
    have := Nat.mul_le_mul_right (4 + 1) (show p.length + 1 - r.length ≤ 10 by omega)
    omega
  refine ⟨_, rfl, _, rfl, sz (by decide : 2 ≤ 1000), fun u nu => ⟨_, _, rfl, sh_two (k := false) (j := false) upd_same (ha.same (Same.put nu)) (hb.same (Same.put nu)) smp smr (by omega) (by omega), ?_⟩⟩
  have s1 : Same H (upd H u (.lst [.ref a, .ref b])) := Same.put nu
  refine ⟨_, rfl, _, rfl, a, b, p, r, 12, 4, rfl, lnp (ha.same s1), lnr (hb.same s1), hr0, tp, bp, br, by decide, by decide, ?_⟩
  intro H2 T x y c D s s2 nT nx ny xy eT hx hy dv bD bs bc
  refine ⟨_, _, rfl, ?_⟩
  have S2 := Same.trans s1 s2
  have lD : D.length ≤ 9 := Nat.le_trans (dv_len cr hr0 dv) lp
  have ls : s.length ≤ 6 := by have := dv.len; omega
  have c64 : c.natAbs < 2 ^ 64 := Nat.lt_of_lt_of_le bc (Nat.pow_le_pow_right (by decide) (by omega))
  have bD64 : Bd 64 D := bD.mono (by omega)
  have bs64 : Bd 64 s := bs.mono (by omega)
  -- it is a tuple of three, told again by names
  refine ⟨_, rfl, _, _, _, _, true, rfl, .ty _, (Kd.tup eT).ty, kit_ty (by decide +kernel), _, rfl, ifF rfl ?_⟩
  refine ⟨_, rfl, T, _, rfl, .inr (SqT.of eT), rfl, _, rfl, ifF (by simp) ?_⟩
  refine ⟨_, rfl, T, _, 0, _, rfl, rfl, SqT.of eT, rfl, _, _, rfl, rfl, _, rfl, ifF (decide_eq_false (by have := dv.pos; omega)) ?_⟩
  refine ⟨_, rfl, _, rfl, a, b, p, r, 12, 4, rfl, lnp (ha.same S2), lnr (hb.same S2), hr0, tp, bp, br, by decide, by decide, ?_⟩
  intro H3 T' x' y' c' D' s' s3 nT' nx' ny' xy' eT' hx' hy' dv' bD' bs' bc'
  obtain ⟨rfl, rfl, rfl⟩ := dv_uniq cr dv dv'
  have S3 := Same.trans S2 s3
  refine ⟨_, rfl, ne3 eT' hx' hy' (s3 _ _ eT) (hx.same s3) (hy.same s3) ⟨_, rfl, ifF (by simp) ?_⟩⟩
  -- its three
  refine ⟨_, rfl, T, _, rfl, SqT.of (s3 _ _ eT), rfl, _, _, rfl, _, _, rfl, _, _, rfl, rfl, ?_⟩
  have hx3 := hx.same s3
  have hy3 := hy.same s3
  refine ⟨_, rfl, x, D, rfl, hx3, by omega, fun H4 e4 s4 _ g4 => ⟨_, rfl, neL g4 (hx3.same s4) ⟨_, rfl, ifF (by rw [trim_cn dv.cQ]; simp) ?_⟩⟩⟩
  refine ⟨_, rfl, y, s, rfl, hy3.same s4, by omega, fun H5 e5 s5 _ g5 => ⟨_, rfl, neL g5 (hy3.same (Same.trans s4 s5)) ⟨_, rfl, ifF (by rw [trim_cn dv.cr]; simp) ?_⟩⟩⟩
  have T5 := Same.trans s4 s5
  have S5 := Same.trans S3 T5
  refine ⟨_, rfl, y, _, rfl, .inl (SqL.of (hy3.same T5)), _, rfl, b, _, rfl, .inl (SqL.of (hb.same S5)), _, _, rfl, rfl, _, rfl, ifF ?_ ?_⟩
  · rw [List.length_map, List.length_map]
    have := dv.len
    exact decide_eq_false (by omega)
  refine ⟨_, rfl, _, rfl, sz (by decide : 2 ≤ 1000), fun u2 nu2 => ⟨_, _, rfl, sh_two (k := false) (j := false) upd_same (ha.same (Same.trans S5 (Same.put nu2))) (hb.same (Same.trans S5 (Same.put nu2))) smp smr (by omega) (by omega), _, rfl, rfl, _, rfl, ifF (by simp) ?_⟩⟩
  have S6 := Same.trans S5 (Same.put (o := .lst [.ref a, .ref b]) nu2)
  have T6 := Same.trans T5 (Same.put (o := .lst [.ref a, .ref b]) nu2)
  generalize upd H5 u2 _ = H6 at S6 T6
  have hx6 := hx3.same T6
  have hy6 := hy3.same T6
  -- no divisor common to all
  refine ⟨_, rfl, sz (by decide : 1 ≤ 1000), fun t nt => ⟨_, rfl, t, x, _, _, rfl, rfl, upd_same, hx6.same (Same.put nt), sz (by rw [List.length_map]; show 1 + D.length ≤ 1000; omega), fun t2 nt2 => ?_⟩⟩
  have T7 := (Same.put (o := .lst [.int c]) nt).trans (Same.put (o := .lst ([.int c] ++ D.map V.int)) nt2)
  refine ⟨_, rfl, t2, y, _, _, rfl, rfl, upd_same, hy6.same T7, sz (by rw [List.length_append, List.length_map, List.length_map]; show 1 + D.length + s.length ≤ 1000; omega), fun t3 nt3 => ?_⟩
  have T8 := T7.trans (Same.put (o := .lst ([.int c] ++ D.map V.int ++ s.map V.int)) nt3)
  have bAll : Bd k13 (c :: (D ++ s)) := fun z hz => by
    have h64 : z.natAbs < 2 ^ 64 := by
      rcases List.mem_cons.mp hz with e | hz
      · rw [e]; exact c64
      · rcases List.mem_append.mp hz with hz | hz
        · exact bD64 z hz
        · exact bs64 z hz
    exact Nat.lt_of_lt_of_le h64 (Nat.pow_le_pow_right (by decide) (k13_le (by decide)))
  refine ⟨t3, c :: (D ++ s), rfl, (by show upd _ t3 _ t3 = _; rw [upd_same]; simp), by simp; omega, bAll, rfl, _, rfl, ifF (by rw [cnt_prim dv.prim]; simp) ?_⟩
  generalize upd (upd (upd H6 t _) t2 _) t3 _ = H7 at T8
  have S7 := Same.trans S6 T8
  -- the product and the rest
  refine ⟨_, rfl, _, rfl, b, _, rfl, .inl (SqL.of (hb.same S7)), fun l nl => ?_⟩
  have T9 := T8.trans (Same.put (o := .lst (r.map V.int)) nl)
  refine ⟨x, l, D, r, rfl, hx6.same T9, upd_same, by omega, by omega, bd_big bD64 (by decide), bd_big br (by decide), fun H8 e8 s8 _ g8 => ?_⟩
  have bm : Bd 73 (mulF D r) := bd_mul (n := 5) bD64 br (by omega)
  refine ⟨_, rfl, e8, y, trim (mulF D r), s, 1, rfl, g8, (hy6.same T9).same s8, Nat.le_trans (trim_length _) (Nat.le_trans (mulF_le _ _) (by omega)), by omega, bd_big bs64 (by decide), int_big (by decide), fun H9 e9 s9 _ g9 => ?_⟩
  have S9 := Same.trans S7 ((Same.put (o := .lst (r.map V.int)) nl).trans (Same.trans s8 s9))
  refine ⟨_, rfl, a, rfl, ⟨_, SqL.of (ha.same S9)⟩, fun D2 nD2 => ?_⟩
  refine lc_list (K := K) (xs := p.map V.int) (fun i H2 => Same H9 H2 ∧ H2 D2 = some (.lst ((sclF c (p.take i)).map V.int))) ⟨Same.put nD2, upd_same⟩ (fun i H2 _ z => SqL.of ((ha.same S9).same z.1)) ?_ ?_
  · rintro i y2 H2 hy2 ⟨z2, eD⟩
    obtain ⟨rfl, li⟩ := int_at hy2
    refine ⟨rfl, yesT ⟨_, rfl, _, rfl, _, _, rfl, rfl, mulx_big (pow_big c64 (by decide)) (pow_big (bp.co i) (by decide)), _, eD, small1000 (by simp [sclF]; omega), Same.ov nD2 z2, ?_⟩⟩
    rw [upd_same, take_co li]; simp [sclF]
  rintro HA ⟨sA, eD⟩
  rw [List.length_map, List.take_length] at eD
  refine eqL (At.same (k := false) sA g9) eD ?_
  rw [scl_1, trim_cn (cn_mul dv.cQ cr), dv_sum cp dv, decide_eq_true rfl]
  exact q HA (Same.trans S9 sA)
theorem ok__law_common_right {P : Program} {w : World} {K : PySem.W.Frag}
    {mg : Str → Option Value} {base : Heap} (T : Top K mg)
    (C__law_common : Cl P w K mg base CX0 3 "_law_common" s__law_common ["_law_line_here", "_law_other"] (spLComm))
    (C__law_pick : Cl P w K mg base CX0 2 "_law_pick" s__law_pick ["_law_pot_here", "_law_some"] (spPick K))
    (C__law_plain : Cl P w K mg base CX0 2 "_law_plain" s__law_plain ["_law_line_here"] (spLPlainB))
    (C__law_times : Cl P w K mg base CX0 2 "_law_times" s__law_times ["_law_line_here", "_law_other"] (spLTimes))
    (C_line_common : Cl P w K mg base CX0 6 "line_common" s_line_common ["line", "other"] (spLnC))
    (C_line_divided : Cl P w K mg base CX0 5 "line_divided" s_line_divided ["line", "other"] (spLnD))
    (C_line_times : Cl P w K mg base CX0 5 "line_times" s_line_times ["line", "other"] (spLn2 mulF fun p q => (mulF p q).length ≤ 13))
    (C_plain_line : Cl P w K mg base CX0 4 "plain_line" s_plain_line ["line"] (spLnPB)) :
    Cl P w K mg base CX0 7 "_law_common_right" s__law_common_right ["_law_pot_here", "_law_one", "_law_other", "_law_shared"] (spCommR) := by
  refine T.d__law_common_right.cl fun f fd F => body_0 F S__law_common_right (fun vs H Q E h => by obtain ⟨_, _, _, _, _, _, _, rfl, _⟩ := h; rfl) ?_
  intro cdv A out s H vs Q E hG hr h
  obtain ⟨a, b, c, e, p, r, s, rfl, hpot, hb, hc, he, ba, ca, ea, cp, cr, cs, p0, r0, s0, lp, lr, ls, smp, smr, sms, q⟩ := h
  refine ⟨_, (pss_cons (ps_par (i := 4) (j := 5) rfl S__law_common_right.nd rfl rfl (by decide) rfl rfl (pa_cons (pe_u C_line_times hG hr (by decide) (by rfl) pass0 (pa_cons (pv 1) (pa_cons (pv 3) pa_nil))) (pa_cons (pe_u C_line_times hG hr (by decide) (by rfl) pass0 (pa_cons (pv 2) (pa_cons (pv 3) pa_nil))) pa_nil)) (by rfl))
    (pss_cons (ps_set (i := 6) S__law_common_right.nd rfl (Or.inl rfl) (pe_u C__law_common hG hr (by decide) (by rfl) pass0 (pa_cons (pv 4) (pa_cons (pv 5) pa_nil))))
    (pss_cons (ps_if ((pw_or (pt_cmpR (op_neD (hu64 hr)) (pe_u C_line_common hG hr (by decide) (by rfl) pass0 (pa_cons (pv 4) (pa_cons (pv 5) pa_nil))) (pv 6) (nomark _)) (pw_or1 (pt_cmpR (op_neD (hu64 hr)) (pe_uk C_line_common (kw_line_common_other_line) hG hr (by decide) (by rfl) pass0 (pk_cons (pe_callTy call_tuple_of (by rfl) T.n_tuple (by decide +kernel) (pa_cons (pv 4) pa_nil)) (pk_cons (pv 5) pk_nil))) (pv 6) (nomark _))))).pt
      (pss_one (ps_ret pe_bl))
      pss_nil)
    (pss_cons (ps_set (i := 7) S__law_common_right.nd rfl (Or.inl rfl) (pe_u C__law_common hG hr (by decide) (by rfl) pass0 (pa_cons (pv 1) (pa_cons (pv 2) pa_nil))))
    (pss_cons (ps_if (pt_cmpR (op_neD (hu64 hr)) (pv 6) (pe_u C__law_plain hG hr (by decide) (by rfl) pass0 (pa_cons (pe_u C__law_times hG hr (by decide) (by rfl) pass0 (pa_cons (pv 7) (pa_cons (pv 3) pa_nil))) pa_nil)) (nomark _))
      (pss_one (ps_ret pe_bl))
      pss_nil)
    (pss_cons (ps_if ((pw_or (pt_cmpR (op_neD (hu64 hr)) (pe_ix ix_tup (pe_u C_line_divided hG hr (by decide) (by rfl) pass0 (pa_cons (pv 4) (pa_cons (pv 6) pa_nil))) pe_int (fun _ _ => rfl)) (pe_lst pa_nil) (nomark _)) (pw_or (pt_cmpR (op_neD (hu64 hr)) (pe_ix ix_tup (pe_u C_line_divided hG hr (by decide) (by rfl) pass0 (pa_cons (pv 5) (pa_cons (pv 6) pa_nil))) pe_int (fun _ _ => rfl)) (pe_lst pa_nil) (nomark _)) (pw_or1 (pt_cmpR (op_neD (hu64 hr)) (pe_ix ix_tup (pe_u C_line_divided hG hr (by decide) (by rfl) pass0 (pa_cons (pv 4) (pa_cons (pv 3) pa_nil))) pe_int (fun _ _ => rfl)) (pe_lst pa_nil) (nomark _)))))).pt
      (pss_one (ps_ret pe_bl))
      pss_nil)
    (pss_cons (ps_set (i := 8) S__law_common_right.nd rfl (Or.inr rfl) (pe_u C__law_pick hG hr (by decide) (by rfl) pass0 (pa_cons (pv 0) (pa_cons (pe_lst (pa_cons (pe_un un_neg pe_int) (pa_cons pe_int (pa_cons (pe_un un_neg pe_int) pa_nil)))) pa_nil))))
    (pss_cons (ps_if ((pw_or (pt_cmpR (op_neD (hu64 hr)) (pe_u C_line_common hG hr (by decide) (by rfl) pass0 (pa_cons (pe_lc (own := [("_law_coefficient", 9)]) (g := gName 9) (tt := tYes) rfl S__law_common_right.nd (pi_list (pv 4)) (blkOk_by (N := ["_law_pot_here", "_law_one", "_law_other", "_law_shared", "_law_near", "_law_far", "_law_due", "_law_apart", "_law_number", "_law_coefficient"]) (sc := defScope s__law_common_right) (by decide +kernel)) (fun _ _ _ _ _ => (pg_name (i := 9) S__law_common_right.nd rfl (Or.inl rfl))) (fun _ _ _ _ _ => pts_nil) (fun _ _ _ _ _ => (pe_op op_mulX (pv 8) (pv 9)))) (pa_cons (pv 5) pa_nil))) (pv 6) (nomark _)) (pw_or1 (pt_cmpR (op_neD (hu64 hr)) (pe_u C_line_common hG hr (by decide) (by rfl) pass0 (pa_cons (pv 4) (pa_cons (pv 4) pa_nil))) (pe_u C_plain_line hG hr (by decide) (by rfl) pass0 (pa_cons (pv 4) pa_nil)) (nomark _))))).pt
      (pss_one (ps_ret pe_bl))
      pss_nil)
    (pss_one (ps_ret (pe_and (pe_cmpR (op_eqD (hu64 hr)) (pe_u C_line_common hG hr (by decide) (by rfl) pass0 (pa_cons (pv 4) (pa_cons (pe_lst pa_nil) pa_nil))) (pe_u C_plain_line hG hr (by decide) (by rfl) pass0 (pa_cons (pv 4) pa_nil)) (nomark _)) (pe_and (pe_cmpR (op_eqD (hu64 hr)) (pe_u C_line_common hG hr (by decide) (by rfl) pass0 (pa_cons (pe_lst pa_nil) (pa_cons (pv 5) pa_nil))) (pe_u C__law_plain hG hr (by decide) (by rfl) pass0 (pa_cons (pv 5) pa_nil)) (nomark _)) (pe_one (pe_cmpR (op_eqD (hu64 hr)) (pe_u C_line_common hG hr (by decide) (by rfl) pass0 (pa_cons (pe_lst pa_nil) (pa_cons (pe_lst pa_nil) pa_nil))) (pe_lst pa_nil) (nomark _))))))))))))))), ?_⟩
  have sz : ∀ {n : Nat}, n ≤ 1000 → n ≤ sizeLine := fun h => Nat.le_of_lt (small1000 h)
  have l1 : 0 < p.length := List.length_pos_iff.mpr p0
  have l2 : 0 < r.length := List.length_pos_iff.mpr r0
  have l3 : 0 < s.length := List.length_pos_iff.mpr s0
  have bp : Bd 4 p := fun z hz => Nat.lt_of_le_of_lt (smp z hz) (by decide)
  have br : Bd 4 r := fun z hz => Nat.lt_of_le_of_lt (smr z hz) (by decide)
  have bs : Bd 3 s := fun z hz => Nat.lt_of_le_of_lt (sms z hz) (by decide)
  have ln : ∀ {K1 : Hp} {k : Bool} {o : Addr} {x : List Int} {n : Nat}, Cn x → x.length ≤ 13 → Bd n x → n ≤ 9000 → At k K1 o x → Ln k K1 o x := fun c l b n h => ⟨h, c, l, b.mono (Nat.le_trans n (by decide))⟩
  have bN : Bd 8 (mulF p s) := mul_few smp sms ls (by decide)
  have bM : Bd 8 (mulF r s) := mul_few smr sms ls (by decide)
  have cN : Cn (mulF p s) := cn_mul cp cs
  have cM : Cn (mulF r s) := cn_mul cr cs
  have lN : (mulF p s).length ≤ 8 := Nat.le_trans (mulF_le _ _) (by omega)
  have lM : (mulF r s).length ≤ 8 := Nat.le_trans (mulF_le _ _) (by omega)
  have N0 : mulF p s ≠ [] := List.length_pos_iff.mp (by rw [mulF_length p0 s0]; omega)
  have M0 : mulF r s ≠ [] := List.length_pos_iff.mp (by rw [mulF_length r0 s0]; omega)
  have eN : ∃ N, mulF p s = N := ⟨_, rfl⟩
  have eM : ∃ M, mulF r s = M := ⟨_, rfl⟩
  have prodN : ∀ {g f : List Int}, Gc (plF p) (plF r) g → Gc (plF (mulF p s)) (plF (mulF r s)) f → f = plF (mulF g s) := fun h h' => gc_prod cp cr cs s0 h h'
  have gsN : Gi s (mulF p s) := gi_mul p s
  obtain ⟨N, hN⟩ := eN
  obtain ⟨M, hM⟩ := eM
  rw [hN] at bN cN lN N0 gsN
  rw [hM] at bM cM lM M0
  rw [hN, hM] at prodN
  have pN : Bd 8 (plF N) := bd_pl cN bN
  have pM : Bd 8 (plF M) := bd_pl cM bM
  have kN : Bd k13 N := bN.mono (k13_le (by decide))
  have kM : Bd k13 M := bM.mono (k13_le (by decide))
  have lnN : ∀ {K1 : Hp} {k : Bool} {o : Addr}, At k K1 o N → Ln k K1 o N := fun h => ln cN (by omega) bN (by decide) h
  have lnM : ∀ {K1 : Hp} {k : Bool} {o : Addr}, At k K1 o M → Ln k K1 o M := fun h => ln cM (by omega) bM (by decide) h
  have lns : ∀ {K1 : Hp} {o : Addr}, At false K1 o s → Ln false K1 o s := fun h => ln cs (by omega) bs (by decide) h
  refine ⟨_, rfl, _, rfl, false, false, b, e, p, s, rfl, ln cp (by omega) bp (by decide) hb, lns he, (by show (mulF p s).length ≤ 13; rw [hN]; omega), fun H1 o1 s1 n1 g1 => ?_⟩
  refine ⟨_, rfl, _, rfl, false, false, c, e, r, s, rfl, ln cr (by omega) br (by decide) (hc.same s1), lns (he.same s1), (by show (mulF r s).length ≤ 13; rw [hM]; omega), fun H2 o2 s2 n2 g2 => ⟨_, _, rfl, ?_⟩⟩
  rw [hN] at g1
  rw [hM] at g2
  have S2 := Same.trans s1 s2
  have h1 : At false H2 o1 N := At.same (k := false) s2 g1
  have h2 : At false H2 o2 M := g2
  refine ⟨_, rfl, _, rfl, o1, o2, N, M, rfl, h1, h2, lN, lM, cN, cM, pN, pM, kN, kM, fun H3 u1 d1 s3 nu1 hu1 gc1 bd1 ld1 => ?_⟩
  have S3 := Same.trans S2 s3
  have P1 := gc_pls gc1 (pl_plF cN) (pl_plF cM)
  have d0 : d1 ≠ [] := fun z => by
    have g := gi_pl cN (gi_both gc1).1
    rw [z] at g
    obtain ⟨cc, A, n, hA⟩ := g
    exact N0 (nil_of cN fun i => by
      have := hA i
      rw [co_nil, cv_comm, cv_zero] at this
      exact (Int.mul_eq_zero.mp this).resolve_left n)
  have ldl : 0 < d1.length := List.length_pos_iff.mpr d0
  have top1 : (co d1 (d1.length - 1)).natAbs < 2 ^ k9 := bd1.co _
  have lnd : ∀ {K1 : Hp} {o : Addr}, At false K1 o d1 → Ln false K1 o d1 := fun h => ln P1.1 (by omega) bd1 (by rw [k9_val]; decide) h
  -- the common part, twice
  refine ⟨_, rfl, _, rfl, false, false, o1, o2, N, M, rfl, lnN (h1.same s3), lnM (h2.same s3), lN, lM, pN, pM, kN, kM, fun H4 u2 d2 s4 _ hu2 gc2 _ _ => ?_⟩
  refine ⟨_, rfl, neL hu2 (hu1.same s4) ⟨_, rfl, ifF (by rw [gc_det gc2 (cn_pl cM) _ gc1]; simp) ?_⟩⟩
  refine ⟨_, rfl, o1, _, rfl, .inl ⟨SqL.of (h1.same (Same.trans s3 s4)), fun l nl => ?_⟩⟩
  have sl : Same H4 (upd H4 l (.tup (N.map V.int))) := Same.put nl
  have T4 := Same.trans s3 s4
  refine ⟨_, rfl, false, true, o2, l, M, N, rfl, lnM ((h2.same T4).same sl), lnN (k := true) upd_same, lM, lN, pM, pN, kM, kN, fun H5 u3 d3 s5 _ hu3 gc3 _ _ => ?_⟩
  have T5 := Same.trans s4 (Same.trans sl s5)
  refine ⟨_, rfl, neL hu3 (hu1.same T5) ⟨_, rfl, ifF (by rw [gc_comm (pl_plF cN) (pl_plF cM) gc1 gc3]; simp) ?_⟩⟩
  have S5 := Same.trans S3 T5
  -- what is common to the others
  refine ⟨_, rfl, _, rfl, b, c, p, r, rfl, hb.same S5, hc.same S5, by omega, by omega, cp, cr, (bd_pl cp bp).mono (by decide), (bd_pl cr br).mono (by decide), bp.mono (k13_le (by decide)), br.mono (k13_le (by decide)), fun H6 u4 d4 s6 nu4 hu4 gc4 bd4 ld4 => ?_⟩
  have P4 := gc_pls gc4 (pl_plF cp) (pl_plF cr)
  have T6 := Same.trans T5 s6
  have S6 := Same.trans S5 s6
  have bds : Bd k13 (mulF d4 s) := (bd_mul (n := 4) bd4 bs (by omega)).mono (k9_13 (by decide))
  refine ⟨_, rfl, _, rfl, _, rfl, u4, e, d4, s, rfl, hu4, he.same S6, by omega, by omega, bd_big bd4 (by rw [k9_val]; decide), bd_big bs (by decide), fun H7 e7 s7 _ g7 => ?_⟩
  refine ⟨e7, trim (mulF d4 s), rfl, g7, Nat.le_trans (trim_length _) (Nat.le_trans (mulF_le _ _) (by omega)), cn_trim _, bd_trim bds, fun H8 e8 s8 _ g8 => ?_⟩
  have T8 := Same.trans T6 (Same.trans s7 s8)
  have S8 := Same.trans S6 (Same.trans s7 s8)
  refine neL (hu1.same T8) g8 ⟨_, rfl, ifF (by rw [trim_cn (cn_mul P4.1 cs), ← prodN gc4 gc1]; simp) ?_⟩
  have R8 := Same.trans s3 T8
  have i1 := h1.same R8
  have i2 := h2.same R8
  have iu := hu1.same T8
  have ie := he.same S8
  -- it goes into both, the shared one too
  refine ⟨_, rfl, _, rfl, o1, u1, N, d1, 8, k9, rfl, lnN i1, lnd iu, d0, top1, bN, bd1, by decide, by rw [k9_val]; decide, fun H9 T x y cc D rr s9 _ _ _ _ eT hx hy dv _ _ _ => ?_⟩
  have rr0 : rr = [] := gi_rest P1.1 dv.toDq (gi_pl cN (gi_both gc1).1)
  refine ⟨T, _, 2, _, rfl, rfl, SqT.of eT, rfl, sz (by decide : 0 ≤ 1000), fun L nL => ?_⟩
  refine neL (q := []) (hy.same (Same.put nL)) upd_same ⟨_, rfl, ifF (by rw [rr0]; simp) ?_⟩
  have V1 := Same.trans s9 (Same.put (o := .lst []) nL)
  generalize upd H9 L _ = HA at V1
  refine ⟨_, rfl, _, rfl, o2, u1, M, d1, 8, k9, rfl, lnM (i2.same V1), lnd (iu.same V1), d0, top1, bM, bd1, by decide, by rw [k9_val]; decide, fun HB T2 x2 y2 cc2 D2 rr2 sB _ _ _ _ eT2 hx2 hy2 dv2 _ _ _ => ?_⟩
  have rr20 : rr2 = [] := gi_rest P1.1 dv2.toDq (gi_pl cM (gi_both gc1).2)
  refine ⟨T2, _, 2, _, rfl, rfl, SqT.of eT2, rfl, sz (by decide : 0 ≤ 1000), fun L2 nL2 => ?_⟩
  refine neL (q := []) (hy2.same (Same.put nL2)) upd_same ⟨_, rfl, ifF (by rw [rr20]; simp) ?_⟩
  have V2 := Same.trans V1 (Same.trans sB (Same.put (o := .lst []) nL2))
  generalize upd HB L2 _ = HC at V2
  refine ⟨_, rfl, _, rfl, o1, e, N, s, 8, 3, rfl, lnN (i1.same V2), lns (ie.same V2), s0, Nat.lt_of_lt_of_le (bs.co _) (Nat.pow_le_pow_right (by decide) (k9_le (by decide))), bN, bs, by decide, by decide, fun HD T3 x3 y3 cc3 D3 rr3 sD _ _ _ _ eT3 hx3 hy3 dv3 _ _ _ => ?_⟩
  have rr30 : rr3 = [] := gi_rest cs dv3.toDq gsN
  refine ⟨T3, _, 2, _, rfl, rfl, SqT.of eT3, rfl, sz (by decide : 0 ≤ 1000), fun L3 nL3 => ?_⟩
  refine neL (q := []) (hy3.same (Same.put nL3)) upd_same ⟨_, rfl, ifF (by rw [rr30]; simp) ?_⟩
  have V3 := Same.trans V2 (Same.trans sD (Same.put (o := .lst []) nL3))
  generalize upd HD L3 _ = HE at V3
  -- a number
  have SE := Same.trans S8 V3
  have pE : PotAt HE a := Same.pot SE hpot
  refine ⟨_, rfl, _, rfl, _, rfl, sz (by decide : 3 ≤ 1000), fun w nw => ?_⟩
  have sw : Same HE (upd HE w (.lst [.int (-1), .int 4, .int (-6)])) := Same.put nw
  refine ⟨a, w, _, rfl, Same.pot sw pE, pE.ne nw, SqL.of upd_same, List.cons_ne_nil _ _, (by show 3 ≤ 1000; decide), fun HF z c2 p2 hz => ?_⟩
  obtain ⟨n, rfl, n0, hn⟩ : ∃ n : Int, z = .int n ∧ n ≠ 0 ∧ n.natAbs < 2 ^ 3 := by
    simp only [List.mem_cons, List.not_mem_nil, or_false] at hz
    rcases hz with h | h | h
    · exact ⟨-1, h, by decide, by decide⟩
    · exact ⟨4, h, by decide, by decide⟩
    · exact ⟨-6, h, by decide, by decide⟩
  have a1 : o1 ≠ a := hpot.ne n1
  have a2 : o2 ≠ a := hpot.ne (s1.free n2)
  have au : u1 ≠ a := hpot.ne (Same.free S2 nu1)
  have j1 : At false HF o1 N := ((i1.same V3).same sw).chg c2 a1
  have j2 : At false HF o2 M := ((i2.same V3).same sw).chg c2 a2
  have ju : At false HF u1 d1 := ((iu.same V3).same sw).chg c2 au
  have cg : Chg a H HF := Chg.trans (.of (Same.trans SE sw)) c2
  have cS : Cn (sclF n N) := cn_scl n0 cN
  have bS : Bd 11 (sclF n N) := bd_scl (j := 3) (k := 8) hn bN
  have lS : (sclF n N).length = N.length := by simp [sclF]
  have pS : plF (sclF n N) = plF N := pl_times cN n0
  refine ⟨_, rfl, o1, rfl, ⟨_, SqL.of j1⟩, fun D4 nD4 => ?_⟩
  refine lc_list (K := K) (xs := N.map V.int) (fun i H2 => Same HF H2 ∧ H2 D4 = some (.lst ((sclF n (N.take i)).map V.int))) ⟨Same.put nD4, upd_same⟩ (fun i H2 _ z => SqL.of (j1.same z.1)) ?_ ?_
  · rintro i y4 H2 hy4 ⟨z2, eD⟩
    obtain ⟨rfl, li⟩ := int_at hy4
    refine ⟨rfl, yesT ⟨_, rfl, _, rfl, _, _, rfl, rfl, mulx_big (pow_big hn (by decide)) (pow_big (bN.co i) (by decide)), _, eD, small1000 (by simp [sclF]; omega), Same.ov nD4 z2, ?_⟩⟩
    rw [upd_same, take_co li]; simp [sclF]
  rintro HG ⟨sG, eD⟩
  rw [List.length_map, List.take_length] at eD
  refine ⟨_, rfl, false, false, D4, o2, sclF n N, M, rfl, ln (k := false) cS (by omega) bS (by decide) eD, lnM (j2.same sG), by omega, lM, by rw [pS]; exact pN, pM, bS.mono (k13_le (by decide)), kM, fun HI u5 d5 sI _ hu5 gc5 _ _ => ?_⟩
  rw [pS] at gc5
  have W1 := Same.trans sG sI
  refine ⟨_, rfl, neL hu5 (ju.same W1) ⟨_, rfl, ifF (by rw [gc_det gc5 (cn_pl cM) _ gc1]; simp) ?_⟩⟩
  refine ⟨_, rfl, _, rfl, false, false, o1, o1, N, N, rfl, lnN (j1.same W1), lnN (j1.same W1), lN, lN, pN, pN, kN, kN, fun HJ u6 d6 sJ _ hu6 gc6 _ _ => ?_⟩
  have W2 := Same.trans W1 sJ
  refine ⟨_, rfl, false, o1, N, rfl, lnN (j1.same W2), kN, fun HK e9 sK _ g9 => ?_⟩
  have W3 := Same.trans W2 sK
  refine neL (hu6.same sK) g9 ⟨_, rfl, ifF (by rw [gc_det gc6 (cn_pl cN) _ gc_self]; simp) ?_⟩
  -- with nought
  have ln0 : ∀ {K1 : Hp} {o : Addr}, At false K1 o [] → Ln false K1 o [] := fun h => ln cn_nil (by decide) (nil_bd 0) (by decide) h
  have p0' : Bd 8 (plF []) := nil_bd 8
  refine ⟨_, rfl, sz (by decide : 0 ≤ 1000), fun L5 nL5 => ?_⟩
  have W4 := Same.trans W3 (Same.put (o := .lst []) nL5)
  refine ⟨false, false, o1, L5, N, [], rfl, lnN (j1.same W4), ln0 upd_same, lN, by decide, pN, p0', kN, nil_bd _, fun HL u7 d7 sL _ hu7 gc7 _ _ => ?_⟩
  have W5 := Same.trans W4 sL
  refine ⟨_, rfl, false, o1, N, rfl, lnN (j1.same W5), kN, fun HM e10 sM _ g10 => ?_⟩
  have W6 := Same.trans W5 sM
  refine eqL (hu7.same sM) g10 ⟨_, rfl, ifT (by rw [gc_det gc7 cn_nil _ (.done _)]; simp) ?_⟩
  refine ⟨sz (by decide : 0 ≤ 1000), fun L6 nL6 => ⟨_, rfl, ?_⟩⟩
  have W7 := Same.trans W6 (Same.put (o := .lst []) nL6)
  refine ⟨false, false, L6, o2, [], M, rfl, ln0 upd_same, lnM (j2.same W7), by decide, lM, p0', pM, nil_bd _, kM, fun HN u8 d8 sN _ hu8 gc8 _ _ => ?_⟩
  have W8 := Same.trans W7 sN
  refine ⟨_, rfl, o2, M, rfl, j2.same W8, by omega, cM, kM, fun HO e11 sO _ g11 => ?_⟩
  have W9 := Same.trans W8 sO
  refine eqL (hu8.same sO) g11 ⟨_, rfl, ifT (by rw [gc_det gc8 (cn_pl cM) _ gc_none]; simp) ?_⟩
  refine ⟨sz (by decide : 0 ≤ 1000), fun L7 nL7 => ⟨sz (by decide : 0 ≤ 1000), fun L8 nL8 => ?_⟩⟩
  have sX := (Same.put (o := .lst []) nL7).trans (Same.put (o := .lst []) nL8)
  refine ⟨false, false, L7, L8, [], [], rfl, ln0 (Same.put nL8 _ _ upd_same), ln0 upd_same, by decide, by decide, p0', p0', nil_bd _, nil_bd _, fun HP u9 d9 sP _ hu9 gc9 _ _ => ⟨sz (by decide : 0 ≤ 1000), fun L9 nL9 => ?_⟩⟩
  refine eqL (q := []) (hu9.same (Same.put nL9)) upd_same ?_
  rw [gc_det gc9 cn_nil _ (.done _)]
  have WZ := Same.trans W9 (sX.trans (Same.trans sP (Same.put (o := .lst []) nL9)))
  exact q _ (Chg.trans cg (.of WZ)) (Same.pot WZ p2)
theorem ok__law_right {P : Program} {w : World} {K : PySem.W.Frag}
    {mg : Str → Option Value} {base : Heap} (T : Top K mg)
    (C__law_common_right : Cl P w K mg base CX0 7 "_law_common_right" s__law_common_right ["_law_pot_here", "_law_one", "_law_other", "_law_shared"] (spCommR))
    (C__law_divided_right : Cl P w K mg base CX0 6 "_law_divided_right" s__law_divided_right ["_law_one", "_law_other"] (spDivR))
    (C__law_draw : Cl P w K mg base CX0 1 "_law_draw" s__law_draw ["_law_pot_here", "_law_many"] (spDraw))
    (C__law_line : Cl P w K mg base CX0 3 "_law_line" s__law_line ["_law_pot_here", "_law_most", "_law_wide"] (spLine))
    (C_line_divided : Cl P w K mg base CX0 5 "line_divided" s_line_divided ["line", "other"] (spLnD))
    (C_line_sum : Cl P w K mg base CX0 5 "line_sum" s_line_sum ["line", "other"] (spLn2 (fun p q => trim (addF p q)) fun _ _ => True))
    (C_line_times : Cl P w K mg base CX0 5 "line_times" s_line_times ["line", "other"] (spLn2 mulF fun p q => (mulF p q).length ≤ 13)) :
    Cl P w K mg base CX0 8 "_law_right" s__law_right ["_law_pot_here"] (spHolds) := by
  refine T.d__law_right.cl fun f fd F => body_0 F S__law_right (fun vs H Q E h => by obtain ⟨_, rfl, _⟩ := h; rfl) ?_
  intro cdv A out s H vs Q E hG hr h
  obtain ⟨a, rfl, hpot, q⟩ := h
  refine ⟨_, (pss_cons (ps_par3 (i := 1) (j := 2) (l := 3) rfl S__law_right.nd rfl rfl rfl (by decide) (by decide) (by decide) rfl rfl rfl (pa_cons (pe_u C__law_line hG hr (by decide) (by rfl) pass0 (pa_cons (pv 0) (pa_cons (pe_u C__law_draw hG hr (by decide) (by rfl) pass0 (pa_cons (pv 0) (pa_cons pe_int pa_nil))) (pa_cons pe_int pa_nil)))) (pa_cons (pe_u C__law_line hG hr (by decide) (by rfl) pass0 (pa_cons (pv 0) (pa_cons (pe_u C__law_draw hG hr (by decide) (by rfl) pass0 (pa_cons (pv 0) (pa_cons pe_int pa_nil))) (pa_cons pe_int pa_nil)))) (pa_cons (pe_u C__law_line hG hr (by decide) (by rfl) pass0 (pa_cons (pv 0) (pa_cons (pe_u C__law_draw hG hr (by decide) (by rfl) pass0 (pa_cons (pv 0) (pa_cons pe_int pa_nil))) (pa_cons pe_int pa_nil)))) pa_nil))) (by rfl))
    (pss_cons (ps_if ((pw_or (pt_not (pt_val (pe_u C__law_divided_right hG hr (by decide) (by rfl) pass0 (pa_cons (pv 1) (pa_cons (pv 2) pa_nil))))) (pw_or (pt_not (pt_val (pe_u C__law_divided_right hG hr (by decide) (by rfl) pass0 (pa_cons (pv 2) (pa_cons (pv 3) pa_nil))))) (pw_or1 (pt_not (pt_val (pe_u C__law_divided_right hG hr (by decide) (by rfl) pass0 (pa_cons (pe_u C_line_times hG hr (by decide) (by rfl) pass0 (pa_cons (pv 1) (pa_cons (pv 2) pa_nil))) (pa_cons (pv 3) pa_nil))))))))).pt
      (pss_one (ps_ret pe_bl))
      pss_nil)
    (pss_cons (ps_if (pt_not (pt_val (pe_u C__law_common_right hG hr (by decide) (by rfl) pass0 (pa_cons (pv 0) (pa_cons (pv 1) (pa_cons (pv 2) (pa_cons (pv 3) pa_nil)))))))
      (pss_one (ps_ret pe_bl))
      pss_nil)
    (pss_cons (ps_set (i := 4) S__law_right.nd rfl (Or.inl rfl) (pe_ifExp (pt_cmpR op_gt (pe_callB call_len_seq (by rfl) T.n_len PySem.boot_len (pa_cons (pv 2) pa_nil)) pe_int (nomark _)) (pe_u C__law_line hG hr (by decide) (by rfl) pass0 (pa_cons (pv 0) (pa_cons (pe_op op_sub (pe_callB call_len_seq (by rfl) T.n_len PySem.boot_len (pa_cons (pv 2) pa_nil)) pe_int) (pa_cons pe_int pa_nil)))) (pe_lst pa_nil)))
    (pss_cons (ps_if (pt_cmpR (op_neD (hu64 hr)) (pe_u C_line_divided hG hr (by decide) (by rfl) pass0 (pa_cons (pe_u C_line_sum hG hr (by decide) (by rfl) pass0 (pa_cons (pe_u C_line_times hG hr (by decide) (by rfl) pass0 (pa_cons (pv 1) (pa_cons (pv 2) pa_nil))) (pa_cons (pv 4) pa_nil))) (pa_cons (pv 2) pa_nil))) (pe_tup (pa_cons pe_int (pa_cons (pv 1) (pa_cons (pv 4) pa_nil)))) (nomark _))
      (pss_one (ps_ret pe_bl))
      pss_nil)
    (pss_one (ps_ret (pe_and (pe_cmpR (op_eqD (hu64 hr)) (pe_u C_line_divided hG hr (by decide) (by rfl) pass0 (pa_cons (pe_lst (pa_cons pe_int (pa_cons pe_int (pa_cons pe_int pa_nil)))) (pa_cons (pe_lst (pa_cons pe_int (pa_cons pe_int pa_nil))) pa_nil))) (pe_tup (pa_cons pe_int (pa_cons (pe_lst (pa_cons (pe_un un_neg pe_int) (pa_cons pe_int pa_nil))) (pa_cons (pe_lst (pa_cons pe_int pa_nil)) pa_nil)))) (nomark _)) (pe_and (pe_cmpR (op_eqD (hu64 hr)) (pe_u C_line_divided hG hr (by decide) (by rfl) pass0 (pa_cons (pe_lst (pa_cons pe_int pa_nil)) (pa_cons (pe_lst (pa_cons pe_int (pa_cons pe_int pa_nil))) pa_nil))) (pe_tup (pa_cons pe_int (pa_cons (pe_lst pa_nil) (pa_cons (pe_lst (pa_cons pe_int pa_nil)) pa_nil)))) (nomark _)) (pe_one (pe_cmpR (op_eqD (hu64 hr)) (pe_u C_line_divided hG hr (by decide) (by rfl) pass0 (pa_cons (pe_lst pa_nil) (pa_cons (pv 1) pa_nil))) (pe_tup (pa_cons pe_int (pa_cons (pe_lst pa_nil) (pa_cons (pe_lst pa_nil) pa_nil)))) (nomark _)))))))))))), ?_⟩
  have sz : ∀ {n : Nat}, n ≤ 1000 → n ≤ sizeLine := fun h => Nat.le_of_lt (small1000 h)
  have ln : ∀ {K1 : Hp} {k : Bool} {o : Addr} {x : List Int} {n : Nat}, Cn x → x.length ≤ 13 → Bd n x → n ≤ 9000 → At k K1 o x → Ln k K1 o x := fun c l b n h => ⟨h, c, l, b.mono (Nat.le_trans n (by decide))⟩
  refine ⟨_, rfl, _, rfl, a, 5, rfl, hpot, by decide, by decide, fun H1 d c1 p1 d0 d1 => ?_⟩
  obtain ⟨n1, rfl⟩ := Int.eq_ofNat_of_zero_le d0
  refine ⟨a, n1, 5, rfl, p1, by omega, by decide, by decide, fun H2 x1 f1 c2 p2 _ a1 h1 l1 w1 v1 => ?_⟩
  refine ⟨_, rfl, _, rfl, a, 4, rfl, p2, by decide, by decide, fun H3 d c3 p3 d0 d1' => ?_⟩
  obtain ⟨n2, rfl⟩ := Int.eq_ofNat_of_zero_le d0
  refine ⟨a, n2, 5, rfl, p3, by omega, by decide, by decide, fun H4 x2 f2 c4 p4 _ a2 h2 l2 w2 v2 => ?_⟩
  refine ⟨_, rfl, _, rfl, a, 4, rfl, p4, by decide, by decide, fun H5 d c5 p5 d0 d1'' => ?_⟩
  obtain ⟨n3, rfl⟩ := Int.eq_ofNat_of_zero_le d0
  refine ⟨a, n3, 3, rfl, p5, by omega, by decide, by decide, fun H6 x3 f3 c6 p6 _ a3 h3 l3 w3 v3 => ⟨_, _, _, rfl, ?_⟩⟩
  have c46 := Chg.trans c5 c6
  have c26 := Chg.trans (Chg.trans c3 c4) c46
  have g1 : At false H6 x1 f1 := At.chg (k := false) c26 a1 h1
  have g2 : At false H6 x2 f2 := At.chg (k := false) c46 a2 h2
  have g3 : At false H6 x3 f3 := h3
  have cH : Chg a H H6 := Chg.trans (Chg.trans c1 c2) c26
  have m1 : f1.length ≤ 5 := by omega
  have m2 : f2.length ≤ 4 := by omega
  have m3 : f3.length ≤ 4 := by omega
  have e1 : f1 ≠ [] := List.length_pos_iff.mp (by omega)
  have e2 : f2 ≠ [] := List.length_pos_iff.mp (by omega)
  have e3 : f3 ≠ [] := List.length_pos_iff.mp (by omega)
  have b1 : Bd 4 f1 := fun z hz => Nat.lt_of_le_of_lt (show z.natAbs ≤ 8 by have := w1 z hz; omega) (by decide)
  have b2 : Bd 4 f2 := fun z hz => Nat.lt_of_le_of_lt (show z.natAbs ≤ 8 by have := w2 z hz; omega) (by decide)
  have b3 : Bd 4 f3 := fun z hz => Nat.lt_of_le_of_lt (show z.natAbs ≤ 8 by have := w3 z hz; omega) (by decide)
  have b12 : Bd 12 (mulF f1 f2) := bd_mul (n := 4) b1 b2 (by omega)
  have l12 : (mulF f1 f2).length ≤ 8 := Nat.le_trans (mulF_le _ _) (by omega)
  have t1 : (co f1 (f1.length - 1)).natAbs < 2 ^ k9 := Nat.lt_of_lt_of_le (b1.co _) (Nat.pow_le_pow_right (by decide) (k9_le (by decide)))
  have t2 : (co f2 (f2.length - 1)).natAbs < 2 ^ k9 := Nat.lt_of_lt_of_le (b2.co _) (Nat.pow_le_pow_right (by decide) (k9_le (by decide)))
  refine ⟨_, rfl, _, rfl, x1, x2, f1, f2, rfl, g1, g2, v1, v2, by omega, by omega, e2, b1.mono (by decide), b2, fun H7 s7 => ⟨_, rfl, iteF ?_⟩⟩
  refine ⟨_, rfl, _, rfl, x2, x3, f2, f3, rfl, g2.same s7, g3.same s7, v2, v3, by omega, by omega, e3, b2.mono (by decide), b3, fun H8 s8 => ⟨_, rfl, iteF ?_⟩⟩
  have S8 := Same.trans s7 s8
  refine ⟨_, rfl, _, rfl, false, false, x1, x2, f1, f2, rfl, ln v1 (by omega) b1 (by decide) (g1.same S8), ln v2 (by omega) b2 (by decide) (g2.same S8), (by show (mulF f1 f2).length ≤ 13; omega), fun H9 o s9 _ eo => ?_⟩
  have S9 := Same.trans S8 s9
  refine ⟨_, rfl, o, x3, mulF f1 f2, f3, rfl, eo, g3.same S9, cn_mul v1 v2, v3, by omega, by omega, e3, b12, b3, fun HA sA => ⟨_, rfl, iteF ?_⟩⟩
  have SA := Same.trans S9 sA
  refine ⟨_, rfl, _, rfl, _, rfl, _, rfl, a, x1, x2, x3, f1, f2, f3, rfl, Same.pot SA p6, g1.same SA, g2.same SA, g3.same SA, a1, a2, a3, v1, v2, v3, e1, e2, e3, m1, m2, m3,
    fun z hz => by have := w1 z hz; omega, fun z hz => by have := w2 z hz; omega, fun z hz => by have := w3 z hz; omega, fun HB cB pB => ⟨_, rfl, iteF ?_⟩⟩
  have y1 := (g1.same SA).chg cB a1
  have y2 := (g2.same SA).chg cB a2
  have cHB : Chg a H HB := Chg.trans (Chg.trans cH (.of SA)) cB
  refine ⟨_, rfl, x2, _, rfl, .inl (SqL.of y2), _, _, rfl, rfl, _, rfl, ?_⟩
  rw [List.length_map]
  refine ite2 (fun cc => ?_) (fun cc => ?_)
  · have cc0 : (1 : Int) < (f2.length : Nat) := of_decide_eq_true cc
    refine ⟨_, rfl, _, rfl, x2, _, rfl, .inl (SqL.of y2), _, _, rfl, rfl, ?_⟩
    rw [List.length_map, show (fun i j => V.int (i - j)) (f2.length : Int) 2 = V.int ((f2.length - 2 : Nat) : Int) from congrArg V.int (by omega)]
    refine ⟨a, f2.length - 2, 4, rfl, pB, by omega, by decide, by decide, fun HZ y R cz' pz _ ya hR' lR' wR cR => ?_⟩
    have hR : At false HZ y R := hR'
    have lR : R.length < f2.length := by omega
    have bR : Bd 4 R := fun z hz => Nat.lt_of_le_of_lt (show z.natAbs ≤ 8 by have := wR z hz; omega) (by decide)
    have cz : Chg a H HZ := Chg.trans cHB cz'
    have z1 := y1.chg cz' a1
    have z2 := y2.chg cz' a2
    have W : ∀ {o : Addr}, HZ o = none → H o = none := fun n => cz.free (pz.ne n) n
    have cS : Cn (trim (addF (mulF f1 f2) R)) := cn_trim _
    have lS : (trim (addF (mulF f1 f2) R)).length ≤ 9 := Nat.le_trans (trim_length _) (by rw [addF_length]; omega)
    have bS : Bd 13 (trim (addF (mulF f1 f2) R)) := bd_trim (bd_add b12 (bR.mono (by decide)))
    refine ⟨_, rfl, _, rfl, false, false, x1, x2, f1, f2, rfl, ln v1 (by omega) b1 (by decide) z1, ln v2 (by omega) b2 (by decide) z2, (by show (mulF f1 f2).length ≤ 13; omega), fun Ka o s4 _ eo => ?_⟩
    refine ⟨_, rfl, false, false, o, y, mulF f1 f2, R, rfl, ln (k := false) (cn_mul v1 v2) (by omega) b12 (by decide) eo, ln (k := false) cR (by omega) bR (by decide) (hR.same s4), trivial, fun Kb o2 s5 _ eo2 => ?_⟩
    have S5 := Same.trans s4 s5
    refine ⟨_, rfl, o2, x2, trim (addF (mulF f1 f2) R), f2, 13, 4, rfl, ln (k := false) cS (by omega) bS (by decide) eo2, ln v2 (by omega) b2 (by decide) (z2.same S5), e2, t2, bS, b2, by decide, by decide, fun Kc T x w c D r s6 _ _ _ _ eT hx hw dv _ _ _ => ?_⟩
    have S6 := Same.trans S5 s6
    refine ⟨_, rfl, _, rfl, sz (by decide : 3 ≤ 1000), fun T2 nT2 => ?_⟩
    have sT : Same Kc (upd Kc T2 (.tup [.int 1, .ref x1, .ref y])) := Same.put nT2
    obtain ⟨u1, u2, u3⟩ := dv_uniq v2 dv (dv_times (q := f2) v1 cR lR)
    refine ne3 (sT _ _ eT) (hx.same sT) (hw.same sT) upd_same ((z1.same S6).same sT) ((hR.same S6).same sT) ⟨_, rfl, ifF (by rw [u1, u2, u3]; simp) ?_⟩
    have S7 := Same.trans S6 sT
    generalize upd Kc T2 _ = K7 at S7
    -- three that are told in numbers
    refine ⟨sz (by decide : 3 ≤ 1000), fun A1 m1 => ⟨sz (by decide : 2 ≤ 1000), fun A2 m2 => ?_⟩⟩
    have t1' := (Same.put (o := .lst [.int 1, .int 0, .int 1]) m1).trans (Same.put (o := .lst [.int 1, .int 2]) m2)
    refine ⟨A1, A2, [1, 0, 1], [1, 2], 4, 4, rfl, ln (k := false) (cn_lit (z := 1) rfl (by decide)) (by decide) (bd_lit (k := 4) (by decide)) (by decide) (Same.put m2 _ _ upd_same), ln (k := false) (cn_lit (z := 2) rfl (by decide)) (by decide) (bd_lit (k := 4) (by decide)) (by decide) upd_same, by decide, Nat.lt_of_lt_of_le (show 2 < 2 ^ 2 by decide) (Nat.pow_le_pow_right (by decide) (k9_le (by decide))), bd_lit (by decide), bd_lit (by decide), by decide, by decide, fun K8 T x w c D r s8 _ _ _ _ eT hx hw dv _ _ _ => ?_⟩
    refine ⟨_, rfl, sz (by decide : 2 ≤ 1000), fun B1 m3 => ⟨sz (by decide : 1 ≤ 1000), fun B2 m4 => ⟨sz (by decide : 3 ≤ 1000), fun T3 m5 => ?_⟩⟩⟩
    have t2' := ((Same.put (o := .lst [.int (-1), .int 2]) m3).trans (Same.put (o := .lst [.int 5]) m4)).trans (Same.put (o := .tup [.int 4, .ref B1, .ref B2]) m5)
    obtain ⟨u1, u2, u3⟩ := dv_uniq (cn_lit (z := 2) rfl (by decide)) dv dv_one
    refine eq3 (t2' _ _ eT) (hx.same t2') (hw.same t2') upd_same (D' := [-1, 2]) (r' := [5]) (Same.put m5 _ _ (Same.put m4 _ _ upd_same)) (Same.put m5 _ _ upd_same) ⟨_, rfl, ifT (by rw [u1, u2, u3]; simp) ?_⟩
    have S8 := Same.trans S7 (t1'.trans (Same.trans s8 t2'))
    generalize upd (upd (upd K8 B1 _) B2 _) T3 _ = K9 at S8
    refine ⟨sz (by decide : 1 ≤ 1000), fun A1 m1 => ⟨sz (by decide : 2 ≤ 1000), fun A2 m2 => ?_⟩⟩
    have t1' := (Same.put (o := .lst [.int 3]) m1).trans (Same.put (o := .lst [.int 0, .int 1]) m2)
    refine ⟨A1, A2, [3], [0, 1], 4, 4, rfl, ln (k := false) (cn_lit (z := 3) rfl (by decide)) (by decide) (bd_lit (k := 4) (by decide)) (by decide) (Same.put m2 _ _ upd_same), ln (k := false) (cn_lit (z := 1) rfl (by decide)) (by decide) (bd_lit (k := 4) (by decide)) (by decide) upd_same, by decide, Nat.lt_of_lt_of_le (show 1 < 2 ^ 2 by decide) (Nat.pow_le_pow_right (by decide) (k9_le (by decide))), bd_lit (by decide), bd_lit (by decide), by decide, by decide, fun Ke T x w c D r s8 _ _ _ _ eT hx hw dv _ _ _ => ?_⟩
    refine ⟨sz (by decide : 0 ≤ 1000), fun B1 m3 => ⟨sz (by decide : 1 ≤ 1000), fun B2 m4 => ⟨sz (by decide : 3 ≤ 1000), fun T3 m5 => ?_⟩⟩⟩
    have t2' := ((Same.put (o := .lst []) m3).trans (Same.put (o := .lst [.int 3]) m4)).trans (Same.put (o := .tup [.int 1, .ref B1, .ref B2]) m5)
    obtain ⟨u1, u2, u3⟩ := dv_uniq (cn_lit (z := 1) rfl (by decide)) dv dv_two
    refine eq3 (t2' _ _ eT) (hx.same t2') (hw.same t2') upd_same (D' := []) (r' := [3]) (Same.put m5 _ _ (Same.put m4 _ _ upd_same)) (Same.put m5 _ _ upd_same) ⟨_, rfl, ifT (by rw [u1, u2, u3]; simp) ?_⟩
    have S9 := Same.trans S8 (t1'.trans (Same.trans s8 t2'))
    generalize upd (upd (upd Ke B1 _) B2 _) T3 _ = Kf at S9
    refine ⟨sz (by decide : 0 ≤ 1000), fun A1 m1 => ⟨_, rfl, ?_⟩⟩
    have t1' := Same.put (o := .lst []) m1
    refine ⟨A1, x1, [], f1, 0, 4, rfl, ln (k := false) cn_nil (by decide) (nil_bd 0) (by decide) upd_same, ln v1 (by omega) b1 (by decide) ((z1.same S9).same t1'), e1, t1, nil_bd 0, b1, by decide, by decide, fun Kg T x w c D r s8 _ _ _ _ eT hx hw dv _ _ _ => ?_⟩
    refine ⟨sz (by decide : 0 ≤ 1000), fun B1 m3 => ⟨sz (by decide : 0 ≤ 1000), fun B2 m4 => ⟨sz (by decide : 3 ≤ 1000), fun T3 m5 => ?_⟩⟩⟩
    have t2' := ((Same.put (o := .lst []) m3).trans (Same.put (o := .lst []) m4)).trans (Same.put (o := .tup [.int 1, .ref B1, .ref B2]) m5)
    obtain ⟨u1, u2, u3⟩ := dv_uniq v1 dv (dv_nil e1)
    refine eq3 (t2' _ _ eT) (hx.same t2') (hw.same t2') upd_same (D' := []) (r' := []) (Same.put m5 _ _ (Same.put m4 _ _ upd_same)) (Same.put m5 _ _ upd_same) ?_
    rw [u1, u2, u3, decide_eq_true ⟨rfl, rfl, rfl⟩]
    have SA := Same.trans S9 (t1'.trans (Same.trans s8 t2'))
    exact q _ (Chg.trans cz (.of SA)) (Same.pot SA pz)
  · have cc0 : ¬ (1 : Int) < (f2.length : Nat) := fun z => cc (decide_eq_true z)
    refine ⟨sz (by decide : 0 ≤ 1000), fun y ny => ?_⟩
    generalize hgz : upd HB y _ = HZ
    have sZ : Same HB HZ := by rw [← hgz]; exact Same.put ny
    have hR : At false HZ y ([] : List Int) := by rw [← hgz]; exact upd_same
    clear hgz
    have cR : Cn ([] : List Int) := cn_nil
    generalize hRe : ([] : List Int) = R at hR cR
    have lR : R.length < f2.length := by rw [← hRe]; exact List.length_pos_iff.mpr e2
    have bR : Bd 4 R := by rw [← hRe]; exact nil_bd 4
    have cz : Chg a H HZ := Chg.trans cHB (.of sZ)
    have pz : PotAt HZ a := Same.pot sZ pB
    have z1 := y1.same sZ
    have z2 := y2.same sZ
    have W : ∀ {o : Addr}, HZ o = none → H o = none := fun n => cz.free (pz.ne n) n
    have cS : Cn (trim (addF (mulF f1 f2) R)) := cn_trim _
    have lS : (trim (addF (mulF f1 f2) R)).length ≤ 9 := Nat.le_trans (trim_length _) (by rw [addF_length]; omega)
    have bS : Bd 13 (trim (addF (mulF f1 f2) R)) := bd_trim (bd_add b12 (bR.mono (by decide)))
    refine ⟨_, rfl, _, rfl, false, false, x1, x2, f1, f2, rfl, ln v1 (by omega) b1 (by decide) z1, ln v2 (by omega) b2 (by decide) z2, (by show (mulF f1 f2).length ≤ 13; omega), fun Ka o s4 _ eo => ?_⟩
    refine ⟨_, rfl, false, false, o, y, mulF f1 f2, R, rfl, ln (k := false) (cn_mul v1 v2) (by omega) b12 (by decide) eo, ln (k := false) cR (by omega) bR (by decide) (hR.same s4), trivial, fun Kb o2 s5 _ eo2 => ?_⟩
    have S5 := Same.trans s4 s5
    refine ⟨_, rfl, o2, x2, trim (addF (mulF f1 f2) R), f2, 13, 4, rfl, ln (k := false) cS (by omega) bS (by decide) eo2, ln v2 (by omega) b2 (by decide) (z2.same S5), e2, t2, bS, b2, by decide, by decide, fun Kc T x w c D r s6 _ _ _ _ eT hx hw dv _ _ _ => ?_⟩
    have S6 := Same.trans S5 s6
    refine ⟨_, rfl, _, rfl, sz (by decide : 3 ≤ 1000), fun T2 nT2 => ?_⟩
    have sT : Same Kc (upd Kc T2 (.tup [.int 1, .ref x1, .ref y])) := Same.put nT2
    obtain ⟨u1, u2, u3⟩ := dv_uniq v2 dv (dv_times (q := f2) v1 cR lR)
    refine ne3 (sT _ _ eT) (hx.same sT) (hw.same sT) upd_same ((z1.same S6).same sT) ((hR.same S6).same sT) ⟨_, rfl, ifF (by rw [u1, u2, u3]; simp) ?_⟩
    have S7 := Same.trans S6 sT
    generalize upd Kc T2 _ = K7 at S7
    -- three that are told in numbers
    refine ⟨sz (by decide : 3 ≤ 1000), fun A1 m1 => ⟨sz (by decide : 2 ≤ 1000), fun A2 m2 => ?_⟩⟩
    have t1' := (Same.put (o := .lst [.int 1, .int 0, .int 1]) m1).trans (Same.put (o := .lst [.int 1, .int 2]) m2)
    refine ⟨A1, A2, [1, 0, 1], [1, 2], 4, 4, rfl, ln (k := false) (cn_lit (z := 1) rfl (by decide)) (by decide) (bd_lit (k := 4) (by decide)) (by decide) (Same.put m2 _ _ upd_same), ln (k := false) (cn_lit (z := 2) rfl (by decide)) (by decide) (bd_lit (k := 4) (by decide)) (by decide) upd_same, by decide, Nat.lt_of_lt_of_le (show 2 < 2 ^ 2 by decide) (Nat.pow_le_pow_right (by decide) (k9_le (by decide))), bd_lit (by decide), bd_lit (by decide), by decide, by decide, fun K8 T x w c D r s8 _ _ _ _ eT hx hw dv _ _ _ => ?_⟩
    refine ⟨_, rfl, sz (by decide : 2 ≤ 1000), fun B1 m3 => ⟨sz (by decide : 1 ≤ 1000), fun B2 m4 => ⟨sz (by decide : 3 ≤ 1000), fun T3 m5 => ?_⟩⟩⟩
    have t2' := ((Same.put (o := .lst [.int (-1), .int 2]) m3).trans (Same.put (o := .lst [.int 5]) m4)).trans (Same.put (o := .tup [.int 4, .ref B1, .ref B2]) m5)
    obtain ⟨u1, u2, u3⟩ := dv_uniq (cn_lit (z := 2) rfl (by decide)) dv dv_one
    refine eq3 (t2' _ _ eT) (hx.same t2') (hw.same t2') upd_same (D' := [-1, 2]) (r' := [5]) (Same.put m5 _ _ (Same.put m4 _ _ upd_same)) (Same.put m5 _ _ upd_same) ⟨_, rfl, ifT (by rw [u1, u2, u3]; simp) ?_⟩
    have S8 := Same.trans S7 (t1'.trans (Same.trans s8 t2'))
    generalize upd (upd (upd K8 B1 _) B2 _) T3 _ = K9 at S8
    refine ⟨sz (by decide : 1 ≤ 1000), fun A1 m1 => ⟨sz (by decide : 2 ≤ 1000), fun A2 m2 => ?_⟩⟩
    have t1' := (Same.put (o := .lst [.int 3]) m1).trans (Same.put (o := .lst [.int 0, .int 1]) m2)
    refine ⟨A1, A2, [3], [0, 1], 4, 4, rfl, ln (k := false) (cn_lit (z := 3) rfl (by decide)) (by decide) (bd_lit (k := 4) (by decide)) (by decide) (Same.put m2 _ _ upd_same), ln (k := false) (cn_lit (z := 1) rfl (by decide)) (by decide) (bd_lit (k := 4) (by decide)) (by decide) upd_same, by decide, Nat.lt_of_lt_of_le (show 1 < 2 ^ 2 by decide) (Nat.pow_le_pow_right (by decide) (k9_le (by decide))), bd_lit (by decide), bd_lit (by decide), by decide, by decide, fun Ke T x w c D r s8 _ _ _ _ eT hx hw dv _ _ _ => ?_⟩
    refine ⟨sz (by decide : 0 ≤ 1000), fun B1 m3 => ⟨sz (by decide : 1 ≤ 1000), fun B2 m4 => ⟨sz (by decide : 3 ≤ 1000), fun T3 m5 => ?_⟩⟩⟩
    have t2' := ((Same.put (o := .lst []) m3).trans (Same.put (o := .lst [.int 3]) m4)).trans (Same.put (o := .tup [.int 1, .ref B1, .ref B2]) m5)
    obtain ⟨u1, u2, u3⟩ := dv_uniq (cn_lit (z := 1) rfl (by decide)) dv dv_two
    refine eq3 (t2' _ _ eT) (hx.same t2') (hw.same t2') upd_same (D' := []) (r' := [3]) (Same.put m5 _ _ (Same.put m4 _ _ upd_same)) (Same.put m5 _ _ upd_same) ⟨_, rfl, ifT (by rw [u1, u2, u3]; simp) ?_⟩
    have S9 := Same.trans S8 (t1'.trans (Same.trans s8 t2'))
    generalize upd (upd (upd Ke B1 _) B2 _) T3 _ = Kf at S9
    refine ⟨sz (by decide : 0 ≤ 1000), fun A1 m1 => ⟨_, rfl, ?_⟩⟩
    have t1' := Same.put (o := .lst []) m1
    refine ⟨A1, x1, [], f1, 0, 4, rfl, ln (k := false) cn_nil (by decide) (nil_bd 0) (by decide) upd_same, ln v1 (by omega) b1 (by decide) ((z1.same S9).same t1'), e1, t1, nil_bd 0, b1, by decide, by decide, fun Kg T x w c D r s8 _ _ _ _ eT hx hw dv _ _ _ => ?_⟩
    refine ⟨sz (by decide : 0 ≤ 1000), fun B1 m3 => ⟨sz (by decide : 0 ≤ 1000), fun B2 m4 => ⟨sz (by decide : 3 ≤ 1000), fun T3 m5 => ?_⟩⟩⟩
    have t2' := ((Same.put (o := .lst []) m3).trans (Same.put (o := .lst []) m4)).trans (Same.put (o := .tup [.int 1, .ref B1, .ref B2]) m5)
    obtain ⟨u1, u2, u3⟩ := dv_uniq v1 dv (dv_nil e1)
    refine eq3 (t2' _ _ eT) (hx.same t2') (hw.same t2') upd_same (D' := []) (r' := []) (Same.put m5 _ _ (Same.put m4 _ _ upd_same)) (Same.put m5 _ _ upd_same) ?_
    rw [u1, u2, u3, decide_eq_true ⟨rfl, rfl, rfl⟩]
    have SA := Same.trans S9 (t1'.trans (Same.trans s8 t2'))
    exact q _ (Chg.trans cz (.of SA)) (Same.pot SA pz)
theorem fn_law {P : Program} {w : World} {K : PySem.W.Frag}
    {mg : Str → Option Value} {base : Heap} (T : Top K mg)
    (C__law_pot : Cl P w K mg base CX0 1 "_law_pot" s__law_pot ["_law_script", "_law_k"] (spPot K))
    (C__law_right : Cl P w K mg base CX0 8 "_law_right" s__law_right ["_law_pot_here"] (spHolds))
    {f : Addr} {fd : FuncData} (F : Fun K "law" "law" s_law f fd) :
    FnG P w K mg base CX0 9 f fd ["_law_script"] (spLaw K) := by
  refine body_0 F S_law (fun vs H Q E h => by obtain ⟨_, _, rfl, _⟩ := h; rfl) ?_
  intro cdv A out s H vs Q E hG hr h
  obtain ⟨a, ns, rfl, hS, hl, q⟩ := h
  refine ⟨_, (pss_one (ps_ret (pe_u C__law_right hG hr (by decide) (by rfl) pass0 (pa_cons (pe_u C__law_pot hG hr (by decide) (by rfl) pass0 (pa_cons (pv 0) (pa_cons pe_int pa_nil))) pa_nil)))), ?_⟩
  exact ⟨_, rfl, a, ns, 0, rfl, hS, by decide, by decide, fun H1 p s np pp => ⟨p, rfl, pp, fun H2 _ _ => q H2⟩⟩
/-- what the head leaves, told -/
theorem top_mk {K : PySem.W.Frag} {h : Heap} {mg : Str → Option Value} (X : K.In h) (G : h.Ns mainGlobals mg)
    {f__law_pot : Addr} {od__law_pot an__law_pot : Option Addr} {sl__law_pot : Array (Option Value)} {oc__law_pot kV__law_pot dc__law_pot pm__law_pot cd__law_pot ct__law_pot : Value}
    {f__law_draw : Addr} {od__law_draw an__law_draw : Option Addr} {sl__law_draw : Array (Option Value)} {oc__law_draw kV__law_draw dc__law_draw pm__law_draw cd__law_draw ct__law_draw : Value}
    {f__law_pick : Addr} {od__law_pick an__law_pick : Option Addr} {sl__law_pick : Array (Option Value)} {oc__law_pick kV__law_pick dc__law_pick pm__law_pick cd__law_pick ct__law_pick : Value}
    {f__law_line : Addr} {od__law_line an__law_line : Option Addr} {sl__law_line : Array (Option Value)} {oc__law_line kV__law_line dc__law_line pm__law_line cd__law_line ct__law_line : Value}
    {f_is_integer : Addr} {od_is_integer an_is_integer : Option Addr} {sl_is_integer : Array (Option Value)} {oc_is_integer kV_is_integer dc_is_integer pm_is_integer cd_is_integer ct_is_integer : Value}
    {f_is_list : Addr} {od_is_list an_is_list : Option Addr} {sl_is_list : Array (Option Value)} {oc_is_list kV_is_list dc_is_list pm_is_list cd_is_list ct_is_list : Value}
    {f_is_line : Addr} {od_is_line an_is_line : Option Addr} {sl_is_line : Array (Option Value)} {oc_is_line kV_is_line dc_is_line pm_is_line cd_is_line ct_is_line : Value}
    {f_trimmed : Addr} {od_trimmed an_trimmed : Option Addr} {sl_trimmed : Array (Option Value)} {oc_trimmed kV_trimmed dc_trimmed pm_trimmed cd_trimmed ct_trimmed : Value}
    {f_scaled : Addr} {od_scaled an_scaled : Option Addr} {sl_scaled : Array (Option Value)} {oc_scaled kV_scaled dc_scaled pm_scaled cd_scaled ct_scaled : Value}
    {f_poly_sum : Addr} {od_poly_sum an_poly_sum : Option Addr} {sl_poly_sum : Array (Option Value)} {oc_poly_sum kV_poly_sum dc_poly_sum pm_poly_sum cd_poly_sum ct_poly_sum : Value}
    {f_poly_less : Addr} {od_poly_less an_poly_less : Option Addr} {sl_poly_less : Array (Option Value)} {oc_poly_less kV_poly_less dc_poly_less pm_poly_less cd_poly_less ct_poly_less : Value}
    {f_poly_times : Addr} {od_poly_times an_poly_times : Option Addr} {sl_poly_times : Array (Option Value)} {oc_poly_times kV_poly_times dc_poly_times pm_poly_times cd_poly_times ct_poly_times : Value}
    {f_content : Addr} {od_content an_content : Option Addr} {sl_content : Array (Option Value)} {oc_content kV_content dc_content pm_content cd_content ct_content : Value}
    {f_poly_plain : Addr} {od_poly_plain an_poly_plain : Option Addr} {sl_poly_plain : Array (Option Value)} {oc_poly_plain kV_poly_plain dc_poly_plain pm_poly_plain cd_poly_plain ct_poly_plain : Value}
    {f_poly_divided : Addr} {od_poly_divided an_poly_divided : Option Addr} {sl_poly_divided : Array (Option Value)} {oc_poly_divided kV_poly_divided dc_poly_divided pm_poly_divided cd_poly_divided ct_poly_divided : Value}
    {f_check_line : Addr} {od_check_line an_check_line : Option Addr} {sl_check_line : Array (Option Value)} {oc_check_line kV_check_line dc_check_line pm_check_line cd_check_line ct_check_line : Value}
    {f_check_lines : Addr} {od_check_lines an_check_lines : Option Addr} {sl_check_lines : Array (Option Value)} {oc_check_lines kV_check_lines dc_check_lines pm_check_lines cd_check_lines ct_check_lines : Value}
    {f_line_sum : Addr} {od_line_sum an_line_sum : Option Addr} {sl_line_sum : Array (Option Value)} {oc_line_sum kV_line_sum dc_line_sum pm_line_sum cd_line_sum ct_line_sum : Value}
    {f_line_times : Addr} {od_line_times an_line_times : Option Addr} {sl_line_times : Array (Option Value)} {oc_line_times kV_line_times dc_line_times pm_line_times cd_line_times ct_line_times : Value}
    {f_plain_line : Addr} {od_plain_line an_plain_line : Option Addr} {sl_plain_line : Array (Option Value)} {oc_plain_line kV_plain_line dc_plain_line pm_plain_line cd_plain_line ct_plain_line : Value}
    {f_poly_common : Addr} {od_poly_common an_poly_common : Option Addr} {sl_poly_common : Array (Option Value)} {oc_poly_common kV_poly_common dc_poly_common pm_poly_common cd_poly_common ct_poly_common : Value}
    {f_line_divided : Addr} {od_line_divided an_line_divided : Option Addr} {sl_line_divided : Array (Option Value)} {oc_line_divided kV_line_divided dc_line_divided pm_line_divided cd_line_divided ct_line_divided : Value}
    {f_line_common : Addr} {od_line_common an_line_common : Option Addr} {sl_line_common : Array (Option Value)} {oc_line_common kV_line_common dc_line_common pm_line_common cd_line_common ct_line_common : Value}
    {f__law_trim : Addr} {od__law_trim an__law_trim : Option Addr} {sl__law_trim : Array (Option Value)} {oc__law_trim kV__law_trim dc__law_trim pm__law_trim cd__law_trim ct__law_trim : Value}
    {f__law_sum : Addr} {od__law_sum an__law_sum : Option Addr} {sl__law_sum : Array (Option Value)} {oc__law_sum kV__law_sum dc__law_sum pm__law_sum cd__law_sum ct__law_sum : Value}
    {f__law_times : Addr} {od__law_times an__law_times : Option Addr} {sl__law_times : Array (Option Value)} {oc__law_times kV__law_times dc__law_times pm__law_times cd__law_times ct__law_times : Value}
    {f__law_greatest : Addr} {od__law_greatest an__law_greatest : Option Addr} {sl__law_greatest : Array (Option Value)} {oc__law_greatest kV__law_greatest dc__law_greatest pm__law_greatest cd__law_greatest ct__law_greatest : Value}
    {f__law_plain : Addr} {od__law_plain an__law_plain : Option Addr} {sl__law_plain : Array (Option Value)} {oc__law_plain kV__law_plain dc__law_plain pm__law_plain cd__law_plain ct__law_plain : Value}
    {f__law_common : Addr} {od__law_common an__law_common : Option Addr} {sl__law_common : Array (Option Value)} {oc__law_common kV__law_common dc__law_common pm__law_common cd__law_common ct__law_common : Value}
    {f__law_divided_right : Addr} {od__law_divided_right an__law_divided_right : Option Addr} {sl__law_divided_right : Array (Option Value)} {oc__law_divided_right kV__law_divided_right dc__law_divided_right pm__law_divided_right cd__law_divided_right ct__law_divided_right : Value}
    {f__law_common_right : Addr} {od__law_common_right an__law_common_right : Option Addr} {sl__law_common_right : Array (Option Value)} {oc__law_common_right kV__law_common_right dc__law_common_right pm__law_common_right cd__law_common_right ct__law_common_right : Value}
    {f__law_right : Addr} {od__law_right an__law_right : Option Addr} {sl__law_right : Array (Option Value)} {oc__law_right kV__law_right dc__law_right pm__law_right cd__law_right ct__law_right : Value}
    {f_law : Addr} {od_law an_law : Option Addr} {sl_law : Array (Option Value)} {oc_law kV_law dc_law pm_law cd_law ct_law : Value}
    {t_LINE_DEGREE : Tok}
    (a__law_pot : PySem.W.nsIn K mainGlobals "_law_pot" = some (some (.ref f__law_pot)))
    (l__law_pot : K.lookup f__law_pot = some ⟨oc__law_pot, od__law_pot, .func (PySem.W.fnOf "_law_pot" "_law_pot" (defArgs s__law_pot) (defBody s__law_pot) (defScope s__law_pot) .none kV__law_pot dc__law_pot pm__law_pot an__law_pot cd__law_pot ct__law_pot), sl__law_pot⟩)
    (c__law_pot : PySem.W.codeIn K cd__law_pot "_law_pot" = true)
    (k__law_pot : PySem.W.keepIn K (.ref f__law_pot) = true)
    (a__law_draw : PySem.W.nsIn K mainGlobals "_law_draw" = some (some (.ref f__law_draw)))
    (l__law_draw : K.lookup f__law_draw = some ⟨oc__law_draw, od__law_draw, .func (PySem.W.fnOf "_law_draw" "_law_draw" (defArgs s__law_draw) (defBody s__law_draw) (defScope s__law_draw) .none kV__law_draw dc__law_draw pm__law_draw an__law_draw cd__law_draw ct__law_draw), sl__law_draw⟩)
    (c__law_draw : PySem.W.codeIn K cd__law_draw "_law_draw" = true)
    (k__law_draw : PySem.W.keepIn K (.ref f__law_draw) = true)
    (a__law_pick : PySem.W.nsIn K mainGlobals "_law_pick" = some (some (.ref f__law_pick)))
    (l__law_pick : K.lookup f__law_pick = some ⟨oc__law_pick, od__law_pick, .func (PySem.W.fnOf "_law_pick" "_law_pick" (defArgs s__law_pick) (defBody s__law_pick) (defScope s__law_pick) .none kV__law_pick dc__law_pick pm__law_pick an__law_pick cd__law_pick ct__law_pick), sl__law_pick⟩)
    (c__law_pick : PySem.W.codeIn K cd__law_pick "_law_pick" = true)
    (k__law_pick : PySem.W.keepIn K (.ref f__law_pick) = true)
    (a__law_line : PySem.W.nsIn K mainGlobals "_law_line" = some (some (.ref f__law_line)))
    (l__law_line : K.lookup f__law_line = some ⟨oc__law_line, od__law_line, .func (PySem.W.fnOf "_law_line" "_law_line" (defArgs s__law_line) (defBody s__law_line) (defScope s__law_line) .none kV__law_line dc__law_line pm__law_line an__law_line cd__law_line ct__law_line), sl__law_line⟩)
    (c__law_line : PySem.W.codeIn K cd__law_line "_law_line" = true)
    (k__law_line : PySem.W.keepIn K (.ref f__law_line) = true)
    (a_is_integer : PySem.W.nsIn K mainGlobals "is_integer" = some (some (.ref f_is_integer)))
    (l_is_integer : K.lookup f_is_integer = some ⟨oc_is_integer, od_is_integer, .func (PySem.W.fnOf "is_integer" "is_integer" (defArgs s_is_integer) (defBody s_is_integer) (defScope s_is_integer) .none kV_is_integer dc_is_integer pm_is_integer an_is_integer cd_is_integer ct_is_integer), sl_is_integer⟩)
    (c_is_integer : PySem.W.codeIn K cd_is_integer "is_integer" = true)
    (k_is_integer : PySem.W.keepIn K (.ref f_is_integer) = true)
    (a_is_list : PySem.W.nsIn K mainGlobals "is_list" = some (some (.ref f_is_list)))
    (l_is_list : K.lookup f_is_list = some ⟨oc_is_list, od_is_list, .func (PySem.W.fnOf "is_list" "is_list" (defArgs s_is_list) (defBody s_is_list) (defScope s_is_list) .none kV_is_list dc_is_list pm_is_list an_is_list cd_is_list ct_is_list), sl_is_list⟩)
    (c_is_list : PySem.W.codeIn K cd_is_list "is_list" = true)
    (k_is_list : PySem.W.keepIn K (.ref f_is_list) = true)
    (a_is_line : PySem.W.nsIn K mainGlobals "is_line" = some (some (.ref f_is_line)))
    (l_is_line : K.lookup f_is_line = some ⟨oc_is_line, od_is_line, .func (PySem.W.fnOf "is_line" "is_line" (defArgs s_is_line) (defBody s_is_line) (defScope s_is_line) .none kV_is_line dc_is_line pm_is_line an_is_line cd_is_line ct_is_line), sl_is_line⟩)
    (c_is_line : PySem.W.codeIn K cd_is_line "is_line" = true)
    (k_is_line : PySem.W.keepIn K (.ref f_is_line) = true)
    (a_trimmed : PySem.W.nsIn K mainGlobals "trimmed" = some (some (.ref f_trimmed)))
    (l_trimmed : K.lookup f_trimmed = some ⟨oc_trimmed, od_trimmed, .func (PySem.W.fnOf "trimmed" "trimmed" (defArgs s_trimmed) (defBody s_trimmed) (defScope s_trimmed) .none kV_trimmed dc_trimmed pm_trimmed an_trimmed cd_trimmed ct_trimmed), sl_trimmed⟩)
    (c_trimmed : PySem.W.codeIn K cd_trimmed "trimmed" = true)
    (k_trimmed : PySem.W.keepIn K (.ref f_trimmed) = true)
    (a_scaled : PySem.W.nsIn K mainGlobals "scaled" = some (some (.ref f_scaled)))
    (l_scaled : K.lookup f_scaled = some ⟨oc_scaled, od_scaled, .func (PySem.W.fnOf "scaled" "scaled" (defArgs s_scaled) (defBody s_scaled) (defScope s_scaled) .none kV_scaled dc_scaled pm_scaled an_scaled cd_scaled ct_scaled), sl_scaled⟩)
    (c_scaled : PySem.W.codeIn K cd_scaled "scaled" = true)
    (k_scaled : PySem.W.keepIn K (.ref f_scaled) = true)
    (a_poly_sum : PySem.W.nsIn K mainGlobals "poly_sum" = some (some (.ref f_poly_sum)))
    (l_poly_sum : K.lookup f_poly_sum = some ⟨oc_poly_sum, od_poly_sum, .func (PySem.W.fnOf "poly_sum" "poly_sum" (defArgs s_poly_sum) (defBody s_poly_sum) (defScope s_poly_sum) .none kV_poly_sum dc_poly_sum pm_poly_sum an_poly_sum cd_poly_sum ct_poly_sum), sl_poly_sum⟩)
    (c_poly_sum : PySem.W.codeIn K cd_poly_sum "poly_sum" = true)
    (k_poly_sum : PySem.W.keepIn K (.ref f_poly_sum) = true)
    (a_poly_less : PySem.W.nsIn K mainGlobals "poly_less" = some (some (.ref f_poly_less)))
    (l_poly_less : K.lookup f_poly_less = some ⟨oc_poly_less, od_poly_less, .func (PySem.W.fnOf "poly_less" "poly_less" (defArgs s_poly_less) (defBody s_poly_less) (defScope s_poly_less) .none kV_poly_less dc_poly_less pm_poly_less an_poly_less cd_poly_less ct_poly_less), sl_poly_less⟩)
    (c_poly_less : PySem.W.codeIn K cd_poly_less "poly_less" = true)
    (k_poly_less : PySem.W.keepIn K (.ref f_poly_less) = true)
    (a_poly_times : PySem.W.nsIn K mainGlobals "poly_times" = some (some (.ref f_poly_times)))
    (l_poly_times : K.lookup f_poly_times = some ⟨oc_poly_times, od_poly_times, .func (PySem.W.fnOf "poly_times" "poly_times" (defArgs s_poly_times) (defBody s_poly_times) (defScope s_poly_times) .none kV_poly_times dc_poly_times pm_poly_times an_poly_times cd_poly_times ct_poly_times), sl_poly_times⟩)
    (c_poly_times : PySem.W.codeIn K cd_poly_times "poly_times" = true)
    (k_poly_times : PySem.W.keepIn K (.ref f_poly_times) = true)
    (a_content : PySem.W.nsIn K mainGlobals "content" = some (some (.ref f_content)))
    (l_content : K.lookup f_content = some ⟨oc_content, od_content, .func (PySem.W.fnOf "content" "content" (defArgs s_content) (defBody s_content) (defScope s_content) .none kV_content dc_content pm_content an_content cd_content ct_content), sl_content⟩)
    (c_content : PySem.W.codeIn K cd_content "content" = true)
    (k_content : PySem.W.keepIn K (.ref f_content) = true)
    (a_poly_plain : PySem.W.nsIn K mainGlobals "poly_plain" = some (some (.ref f_poly_plain)))
    (l_poly_plain : K.lookup f_poly_plain = some ⟨oc_poly_plain, od_poly_plain, .func (PySem.W.fnOf "poly_plain" "poly_plain" (defArgs s_poly_plain) (defBody s_poly_plain) (defScope s_poly_plain) .none kV_poly_plain dc_poly_plain pm_poly_plain an_poly_plain cd_poly_plain ct_poly_plain), sl_poly_plain⟩)
    (c_poly_plain : PySem.W.codeIn K cd_poly_plain "poly_plain" = true)
    (k_poly_plain : PySem.W.keepIn K (.ref f_poly_plain) = true)
    (a_poly_divided : PySem.W.nsIn K mainGlobals "poly_divided" = some (some (.ref f_poly_divided)))
    (l_poly_divided : K.lookup f_poly_divided = some ⟨oc_poly_divided, od_poly_divided, .func (PySem.W.fnOf "poly_divided" "poly_divided" (defArgs s_poly_divided) (defBody s_poly_divided) (defScope s_poly_divided) .none kV_poly_divided dc_poly_divided pm_poly_divided an_poly_divided cd_poly_divided ct_poly_divided), sl_poly_divided⟩)
    (c_poly_divided : PySem.W.codeIn K cd_poly_divided "poly_divided" = true)
    (k_poly_divided : PySem.W.keepIn K (.ref f_poly_divided) = true)
    (a_check_line : PySem.W.nsIn K mainGlobals "check_line" = some (some (.ref f_check_line)))
    (l_check_line : K.lookup f_check_line = some ⟨oc_check_line, od_check_line, .func (PySem.W.fnOf "check_line" "check_line" (defArgs s_check_line) (defBody s_check_line) (defScope s_check_line) .none kV_check_line dc_check_line pm_check_line an_check_line cd_check_line ct_check_line), sl_check_line⟩)
    (c_check_line : PySem.W.codeIn K cd_check_line "check_line" = true)
    (k_check_line : PySem.W.keepIn K (.ref f_check_line) = true)
    (a_check_lines : PySem.W.nsIn K mainGlobals "check_lines" = some (some (.ref f_check_lines)))
    (l_check_lines : K.lookup f_check_lines = some ⟨oc_check_lines, od_check_lines, .func (PySem.W.fnOf "check_lines" "check_lines" (defArgs s_check_lines) (defBody s_check_lines) (defScope s_check_lines) .none kV_check_lines dc_check_lines pm_check_lines an_check_lines cd_check_lines ct_check_lines), sl_check_lines⟩)
    (c_check_lines : PySem.W.codeIn K cd_check_lines "check_lines" = true)
    (k_check_lines : PySem.W.keepIn K (.ref f_check_lines) = true)
    (a_line_sum : PySem.W.nsIn K mainGlobals "line_sum" = some (some (.ref f_line_sum)))
    (l_line_sum : K.lookup f_line_sum = some ⟨oc_line_sum, od_line_sum, .func (PySem.W.fnOf "line_sum" "line_sum" (defArgs s_line_sum) (defBody s_line_sum) (defScope s_line_sum) .none kV_line_sum dc_line_sum pm_line_sum an_line_sum cd_line_sum ct_line_sum), sl_line_sum⟩)
    (c_line_sum : PySem.W.codeIn K cd_line_sum "line_sum" = true)
    (k_line_sum : PySem.W.keepIn K (.ref f_line_sum) = true)
    (a_line_times : PySem.W.nsIn K mainGlobals "line_times" = some (some (.ref f_line_times)))
    (l_line_times : K.lookup f_line_times = some ⟨oc_line_times, od_line_times, .func (PySem.W.fnOf "line_times" "line_times" (defArgs s_line_times) (defBody s_line_times) (defScope s_line_times) .none kV_line_times dc_line_times pm_line_times an_line_times cd_line_times ct_line_times), sl_line_times⟩)
    (c_line_times : PySem.W.codeIn K cd_line_times "line_times" = true)
    (k_line_times : PySem.W.keepIn K (.ref f_line_times) = true)
    (a_plain_line : PySem.W.nsIn K mainGlobals "plain_line" = some (some (.ref f_plain_line)))
    (l_plain_line : K.lookup f_plain_line = some ⟨oc_plain_line, od_plain_line, .func (PySem.W.fnOf "plain_line" "plain_line" (defArgs s_plain_line) (defBody s_plain_line) (defScope s_plain_line) .none kV_plain_line dc_plain_line pm_plain_line an_plain_line cd_plain_line ct_plain_line), sl_plain_line⟩)
    (c_plain_line : PySem.W.codeIn K cd_plain_line "plain_line" = true)
    (k_plain_line : PySem.W.keepIn K (.ref f_plain_line) = true)
    (a_poly_common : PySem.W.nsIn K mainGlobals "poly_common" = some (some (.ref f_poly_common)))
    (l_poly_common : K.lookup f_poly_common = some ⟨oc_poly_common, od_poly_common, .func (PySem.W.fnOf "poly_common" "poly_common" (defArgs s_poly_common) (defBody s_poly_common) (defScope s_poly_common) .none kV_poly_common dc_poly_common pm_poly_common an_poly_common cd_poly_common ct_poly_common), sl_poly_common⟩)
    (c_poly_common : PySem.W.codeIn K cd_poly_common "poly_common" = true)
    (k_poly_common : PySem.W.keepIn K (.ref f_poly_common) = true)
    (a_line_divided : PySem.W.nsIn K mainGlobals "line_divided" = some (some (.ref f_line_divided)))
    (l_line_divided : K.lookup f_line_divided = some ⟨oc_line_divided, od_line_divided, .func (PySem.W.fnOf "line_divided" "line_divided" (defArgs s_line_divided) (defBody s_line_divided) (defScope s_line_divided) .none kV_line_divided dc_line_divided pm_line_divided an_line_divided cd_line_divided ct_line_divided), sl_line_divided⟩)
    (c_line_divided : PySem.W.codeIn K cd_line_divided "line_divided" = true)
    (k_line_divided : PySem.W.keepIn K (.ref f_line_divided) = true)
    (a_line_common : PySem.W.nsIn K mainGlobals "line_common" = some (some (.ref f_line_common)))
    (l_line_common : K.lookup f_line_common = some ⟨oc_line_common, od_line_common, .func (PySem.W.fnOf "line_common" "line_common" (defArgs s_line_common) (defBody s_line_common) (defScope s_line_common) .none kV_line_common dc_line_common pm_line_common an_line_common cd_line_common ct_line_common), sl_line_common⟩)
    (c_line_common : PySem.W.codeIn K cd_line_common "line_common" = true)
    (k_line_common : PySem.W.keepIn K (.ref f_line_common) = true)
    (a__law_trim : PySem.W.nsIn K mainGlobals "_law_trim" = some (some (.ref f__law_trim)))
    (l__law_trim : K.lookup f__law_trim = some ⟨oc__law_trim, od__law_trim, .func (PySem.W.fnOf "_law_trim" "_law_trim" (defArgs s__law_trim) (defBody s__law_trim) (defScope s__law_trim) .none kV__law_trim dc__law_trim pm__law_trim an__law_trim cd__law_trim ct__law_trim), sl__law_trim⟩)
    (c__law_trim : PySem.W.codeIn K cd__law_trim "_law_trim" = true)
    (k__law_trim : PySem.W.keepIn K (.ref f__law_trim) = true)
    (a__law_sum : PySem.W.nsIn K mainGlobals "_law_sum" = some (some (.ref f__law_sum)))
    (l__law_sum : K.lookup f__law_sum = some ⟨oc__law_sum, od__law_sum, .func (PySem.W.fnOf "_law_sum" "_law_sum" (defArgs s__law_sum) (defBody s__law_sum) (defScope s__law_sum) .none kV__law_sum dc__law_sum pm__law_sum an__law_sum cd__law_sum ct__law_sum), sl__law_sum⟩)
    (c__law_sum : PySem.W.codeIn K cd__law_sum "_law_sum" = true)
    (k__law_sum : PySem.W.keepIn K (.ref f__law_sum) = true)
    (a__law_times : PySem.W.nsIn K mainGlobals "_law_times" = some (some (.ref f__law_times)))
    (l__law_times : K.lookup f__law_times = some ⟨oc__law_times, od__law_times, .func (PySem.W.fnOf "_law_times" "_law_times" (defArgs s__law_times) (defBody s__law_times) (defScope s__law_times) .none kV__law_times dc__law_times pm__law_times an__law_times cd__law_times ct__law_times), sl__law_times⟩)
    (c__law_times : PySem.W.codeIn K cd__law_times "_law_times" = true)
    (k__law_times : PySem.W.keepIn K (.ref f__law_times) = true)
    (a__law_greatest : PySem.W.nsIn K mainGlobals "_law_greatest" = some (some (.ref f__law_greatest)))
    (l__law_greatest : K.lookup f__law_greatest = some ⟨oc__law_greatest, od__law_greatest, .func (PySem.W.fnOf "_law_greatest" "_law_greatest" (defArgs s__law_greatest) (defBody s__law_greatest) (defScope s__law_greatest) .none kV__law_greatest dc__law_greatest pm__law_greatest an__law_greatest cd__law_greatest ct__law_greatest), sl__law_greatest⟩)
    (c__law_greatest : PySem.W.codeIn K cd__law_greatest "_law_greatest" = true)
    (k__law_greatest : PySem.W.keepIn K (.ref f__law_greatest) = true)
    (a__law_plain : PySem.W.nsIn K mainGlobals "_law_plain" = some (some (.ref f__law_plain)))
    (l__law_plain : K.lookup f__law_plain = some ⟨oc__law_plain, od__law_plain, .func (PySem.W.fnOf "_law_plain" "_law_plain" (defArgs s__law_plain) (defBody s__law_plain) (defScope s__law_plain) .none kV__law_plain dc__law_plain pm__law_plain an__law_plain cd__law_plain ct__law_plain), sl__law_plain⟩)
    (c__law_plain : PySem.W.codeIn K cd__law_plain "_law_plain" = true)
    (k__law_plain : PySem.W.keepIn K (.ref f__law_plain) = true)
    (a__law_common : PySem.W.nsIn K mainGlobals "_law_common" = some (some (.ref f__law_common)))
    (l__law_common : K.lookup f__law_common = some ⟨oc__law_common, od__law_common, .func (PySem.W.fnOf "_law_common" "_law_common" (defArgs s__law_common) (defBody s__law_common) (defScope s__law_common) .none kV__law_common dc__law_common pm__law_common an__law_common cd__law_common ct__law_common), sl__law_common⟩)
    (c__law_common : PySem.W.codeIn K cd__law_common "_law_common" = true)
    (k__law_common : PySem.W.keepIn K (.ref f__law_common) = true)
    (a__law_divided_right : PySem.W.nsIn K mainGlobals "_law_divided_right" = some (some (.ref f__law_divided_right)))
    (l__law_divided_right : K.lookup f__law_divided_right = some ⟨oc__law_divided_right, od__law_divided_right, .func (PySem.W.fnOf "_law_divided_right" "_law_divided_right" (defArgs s__law_divided_right) (defBody s__law_divided_right) (defScope s__law_divided_right) .none kV__law_divided_right dc__law_divided_right pm__law_divided_right an__law_divided_right cd__law_divided_right ct__law_divided_right), sl__law_divided_right⟩)
    (c__law_divided_right : PySem.W.codeIn K cd__law_divided_right "_law_divided_right" = true)
    (k__law_divided_right : PySem.W.keepIn K (.ref f__law_divided_right) = true)
    (a__law_common_right : PySem.W.nsIn K mainGlobals "_law_common_right" = some (some (.ref f__law_common_right)))
    (l__law_common_right : K.lookup f__law_common_right = some ⟨oc__law_common_right, od__law_common_right, .func (PySem.W.fnOf "_law_common_right" "_law_common_right" (defArgs s__law_common_right) (defBody s__law_common_right) (defScope s__law_common_right) .none kV__law_common_right dc__law_common_right pm__law_common_right an__law_common_right cd__law_common_right ct__law_common_right), sl__law_common_right⟩)
    (c__law_common_right : PySem.W.codeIn K cd__law_common_right "_law_common_right" = true)
    (k__law_common_right : PySem.W.keepIn K (.ref f__law_common_right) = true)
    (a__law_right : PySem.W.nsIn K mainGlobals "_law_right" = some (some (.ref f__law_right)))
    (l__law_right : K.lookup f__law_right = some ⟨oc__law_right, od__law_right, .func (PySem.W.fnOf "_law_right" "_law_right" (defArgs s__law_right) (defBody s__law_right) (defScope s__law_right) .none kV__law_right dc__law_right pm__law_right an__law_right cd__law_right ct__law_right), sl__law_right⟩)
    (c__law_right : PySem.W.codeIn K cd__law_right "_law_right" = true)
    (k__law_right : PySem.W.keepIn K (.ref f__law_right) = true)
    (a_law : PySem.W.nsIn K mainGlobals "law" = some (some (.ref f_law)))
    (l_law : K.lookup f_law = some ⟨oc_law, od_law, .func (PySem.W.fnOf "law" "law" (defArgs s_law) (defBody s_law) (defScope s_law) .none kV_law dc_law pm_law an_law cd_law ct_law), sl_law⟩)
    (c_law : PySem.W.codeIn K cd_law "law" = true)
    (k_law : PySem.W.keepIn K (.ref f_law) = true)
    (z_abs : PySem.W.nsIn K mainGlobals "abs" = some none)
    (z_all : PySem.W.nsIn K mainGlobals "all" = some none)
    (z_bool : PySem.W.nsIn K mainGlobals "bool" = some none)
    (z_LINE_DEGREE : PySem.W.nsIn K mainGlobals "LINE_DEGREE" = some (some (.int 12 t_LINE_DEGREE)))
    (z_divmod : PySem.W.nsIn K mainGlobals "divmod" = some none)
    (z_enumerate : PySem.W.nsIn K mainGlobals "enumerate" = some none)
    (z_int : PySem.W.nsIn K mainGlobals "int" = some none)
    (z_isinstance : PySem.W.nsIn K mainGlobals "isinstance" = some none)
    (z_len : PySem.W.nsIn K mainGlobals "len" = some none)
    (z_list : PySem.W.nsIn K mainGlobals "list" = some none)
    (z_gcd : PySem.W.nsIn K mainGlobals "gcd" = some (some (.builtin "math.gcd")))
    (z_max : PySem.W.nsIn K mainGlobals "max" = some none)
    (z_range : PySem.W.nsIn K mainGlobals "range" = some none)
    (z_repr : PySem.W.nsIn K mainGlobals "repr" = some none)
    (z_tuple : PySem.W.nsIn K mainGlobals "tuple" = some none)
    (z_zip : PySem.W.nsIn K mainGlobals "zip" = some none) :
    Top K mg where
  d__law_pot := ⟨_, _, fun_mk l__law_pot c__law_pot k__law_pot, PySem.W.mg_of X G a__law_pot, (fun_mk l__law_pot c__law_pot k__law_pot).binds (ps := ["_law_script", "_law_k"]) fun _ _ _ _ _ _ us hl => match us, hl with | [_, _], _ => rfl⟩
  d__law_draw := ⟨_, _, fun_mk l__law_draw c__law_draw k__law_draw, PySem.W.mg_of X G a__law_draw, (fun_mk l__law_draw c__law_draw k__law_draw).binds (ps := ["_law_pot_here", "_law_many"]) fun _ _ _ _ _ _ us hl => match us, hl with | [_, _], _ => rfl⟩
  d__law_pick := ⟨_, _, fun_mk l__law_pick c__law_pick k__law_pick, PySem.W.mg_of X G a__law_pick, (fun_mk l__law_pick c__law_pick k__law_pick).binds (ps := ["_law_pot_here", "_law_some"]) fun _ _ _ _ _ _ us hl => match us, hl with | [_, _], _ => rfl⟩
  d__law_line := ⟨_, _, fun_mk l__law_line c__law_line k__law_line, PySem.W.mg_of X G a__law_line, (fun_mk l__law_line c__law_line k__law_line).binds (ps := ["_law_pot_here", "_law_most", "_law_wide"]) fun _ _ _ _ _ _ us hl => match us, hl with | [_, _, _], _ => rfl⟩
  d_is_integer := ⟨_, _, fun_mk l_is_integer c_is_integer k_is_integer, PySem.W.mg_of X G a_is_integer, (fun_mk l_is_integer c_is_integer k_is_integer).binds (ps := ["value"]) fun _ _ _ _ _ _ us hl => match us, hl with | [_], _ => rfl⟩
  d_is_list := ⟨_, _, fun_mk l_is_list c_is_list k_is_list, PySem.W.mg_of X G a_is_list, (fun_mk l_is_list c_is_list k_is_list).binds (ps := ["value"]) fun _ _ _ _ _ _ us hl => match us, hl with | [_], _ => rfl⟩
  d_is_line := ⟨_, _, fun_mk l_is_line c_is_line k_is_line, PySem.W.mg_of X G a_is_line, (fun_mk l_is_line c_is_line k_is_line).binds (ps := ["value"]) fun _ _ _ _ _ _ us hl => match us, hl with | [_], _ => rfl⟩
  d_trimmed := ⟨_, _, fun_mk l_trimmed c_trimmed k_trimmed, PySem.W.mg_of X G a_trimmed, (fun_mk l_trimmed c_trimmed k_trimmed).binds (ps := ["numbers"]) fun _ _ _ _ _ _ us hl => match us, hl with | [_], _ => rfl⟩
  d_scaled := ⟨_, _, fun_mk l_scaled c_scaled k_scaled, PySem.W.mg_of X G a_scaled, (fun_mk l_scaled c_scaled k_scaled).binds (ps := ["numbers", "factor"]) fun _ _ _ _ _ _ us hl => match us, hl with | [_, _], _ => rfl⟩
  d_poly_sum := ⟨_, _, fun_mk l_poly_sum c_poly_sum k_poly_sum, PySem.W.mg_of X G a_poly_sum, (fun_mk l_poly_sum c_poly_sum k_poly_sum).binds (ps := ["one", "two"]) fun _ _ _ _ _ _ us hl => match us, hl with | [_, _], _ => rfl⟩
  d_poly_less := ⟨_, _, fun_mk l_poly_less c_poly_less k_poly_less, PySem.W.mg_of X G a_poly_less, (fun_mk l_poly_less c_poly_less k_poly_less).binds (ps := ["one", "two"]) fun _ _ _ _ _ _ us hl => match us, hl with | [_, _], _ => rfl⟩
  d_poly_times := ⟨_, _, fun_mk l_poly_times c_poly_times k_poly_times, PySem.W.mg_of X G a_poly_times, (fun_mk l_poly_times c_poly_times k_poly_times).binds (ps := ["one", "two"]) fun _ _ _ _ _ _ us hl => match us, hl with | [_, _], _ => rfl⟩
  d_content := ⟨_, _, fun_mk l_content c_content k_content, PySem.W.mg_of X G a_content, (fun_mk l_content c_content k_content).binds (ps := ["numbers"]) fun _ _ _ _ _ _ us hl => match us, hl with | [_], _ => rfl⟩
  d_poly_plain := ⟨_, _, fun_mk l_poly_plain c_poly_plain k_poly_plain, PySem.W.mg_of X G a_poly_plain, (fun_mk l_poly_plain c_poly_plain k_poly_plain).binds (ps := ["numbers"]) fun _ _ _ _ _ _ us hl => match us, hl with | [_], _ => rfl⟩
  d_poly_divided := ⟨_, _, fun_mk l_poly_divided c_poly_divided k_poly_divided, PySem.W.mg_of X G a_poly_divided, (fun_mk l_poly_divided c_poly_divided k_poly_divided).binds (ps := ["one", "two"]) fun _ _ _ _ _ _ us hl => match us, hl with | [_, _], _ => rfl⟩
  d_check_line := ⟨_, _, fun_mk l_check_line c_check_line k_check_line, PySem.W.mg_of X G a_check_line, (fun_mk l_check_line c_check_line k_check_line).binds (ps := ["line"]) fun _ _ _ _ _ _ us hl => match us, hl with | [_], _ => rfl⟩
  d_check_lines := ⟨_, _, fun_mk l_check_lines c_check_lines k_check_lines, PySem.W.mg_of X G a_check_lines, (fun_mk l_check_lines c_check_lines k_check_lines).binds (ps := ["line", "other"]) fun _ _ _ _ _ _ us hl => match us, hl with | [_, _], _ => rfl⟩
  d_line_sum := ⟨_, _, fun_mk l_line_sum c_line_sum k_line_sum, PySem.W.mg_of X G a_line_sum, (fun_mk l_line_sum c_line_sum k_line_sum).binds (ps := ["line", "other"]) fun _ _ _ _ _ _ us hl => match us, hl with | [_, _], _ => rfl⟩
  d_line_times := ⟨_, _, fun_mk l_line_times c_line_times k_line_times, PySem.W.mg_of X G a_line_times, (fun_mk l_line_times c_line_times k_line_times).binds (ps := ["line", "other"]) fun _ _ _ _ _ _ us hl => match us, hl with | [_, _], _ => rfl⟩
  d_plain_line := ⟨_, _, fun_mk l_plain_line c_plain_line k_plain_line, PySem.W.mg_of X G a_plain_line, (fun_mk l_plain_line c_plain_line k_plain_line).binds (ps := ["line"]) fun _ _ _ _ _ _ us hl => match us, hl with | [_], _ => rfl⟩
  d_poly_common := ⟨_, _, fun_mk l_poly_common c_poly_common k_poly_common, PySem.W.mg_of X G a_poly_common, (fun_mk l_poly_common c_poly_common k_poly_common).binds (ps := ["one", "two"]) fun _ _ _ _ _ _ us hl => match us, hl with | [_, _], _ => rfl⟩
  d_line_divided := ⟨_, _, fun_mk l_line_divided c_line_divided k_line_divided, PySem.W.mg_of X G a_line_divided, (fun_mk l_line_divided c_line_divided k_line_divided).binds (ps := ["line", "other"]) fun _ _ _ _ _ _ us hl => match us, hl with | [_, _], _ => rfl⟩
  d_line_common := ⟨_, _, fun_mk l_line_common c_line_common k_line_common, PySem.W.mg_of X G a_line_common, (fun_mk l_line_common c_line_common k_line_common).binds (ps := ["line", "other"]) fun _ _ _ _ _ _ us hl => match us, hl with | [_, _], _ => rfl⟩
  d__law_trim := ⟨_, _, fun_mk l__law_trim c__law_trim k__law_trim, PySem.W.mg_of X G a__law_trim, (fun_mk l__law_trim c__law_trim k__law_trim).binds (ps := ["_law_numbers"]) fun _ _ _ _ _ _ us hl => match us, hl with | [_], _ => rfl⟩
  d__law_sum := ⟨_, _, fun_mk l__law_sum c__law_sum k__law_sum, PySem.W.mg_of X G a__law_sum, (fun_mk l__law_sum c__law_sum k__law_sum).binds (ps := ["_law_line_here", "_law_other", "_law_factor"]) fun _ _ _ _ _ _ us hl => match us, hl with | [_, _, _], _ => rfl⟩
  d__law_times := ⟨_, _, fun_mk l__law_times c__law_times k__law_times, PySem.W.mg_of X G a__law_times, (fun_mk l__law_times c__law_times k__law_times).binds (ps := ["_law_line_here", "_law_other"]) fun _ _ _ _ _ _ us hl => match us, hl with | [_, _], _ => rfl⟩
  d__law_greatest := ⟨_, _, fun_mk l__law_greatest c__law_greatest k__law_greatest, PySem.W.mg_of X G a__law_greatest, (fun_mk l__law_greatest c__law_greatest k__law_greatest).binds (ps := ["_law_some"]) fun _ _ _ _ _ _ us hl => match us, hl with | [_], _ => rfl⟩
  d__law_plain := ⟨_, _, fun_mk l__law_plain c__law_plain k__law_plain, PySem.W.mg_of X G a__law_plain, (fun_mk l__law_plain c__law_plain k__law_plain).binds (ps := ["_law_line_here"]) fun _ _ _ _ _ _ us hl => match us, hl with | [_], _ => rfl⟩
  d__law_common := ⟨_, _, fun_mk l__law_common c__law_common k__law_common, PySem.W.mg_of X G a__law_common, (fun_mk l__law_common c__law_common k__law_common).binds (ps := ["_law_line_here", "_law_other"]) fun _ _ _ _ _ _ us hl => match us, hl with | [_, _], _ => rfl⟩
  d__law_divided_right := ⟨_, _, fun_mk l__law_divided_right c__law_divided_right k__law_divided_right, PySem.W.mg_of X G a__law_divided_right, (fun_mk l__law_divided_right c__law_divided_right k__law_divided_right).binds (ps := ["_law_one", "_law_other"]) fun _ _ _ _ _ _ us hl => match us, hl with | [_, _], _ => rfl⟩
  d__law_common_right := ⟨_, _, fun_mk l__law_common_right c__law_common_right k__law_common_right, PySem.W.mg_of X G a__law_common_right, (fun_mk l__law_common_right c__law_common_right k__law_common_right).binds (ps := ["_law_pot_here", "_law_one", "_law_other", "_law_shared"]) fun _ _ _ _ _ _ us hl => match us, hl with | [_, _, _, _], _ => rfl⟩
  d__law_right := ⟨_, _, fun_mk l__law_right c__law_right k__law_right, PySem.W.mg_of X G a__law_right, (fun_mk l__law_right c__law_right k__law_right).binds (ps := ["_law_pot_here"]) fun _ _ _ _ _ _ us hl => match us, hl with | [_], _ => rfl⟩
  d_law := ⟨_, _, fun_mk l_law c_law k_law, PySem.W.mg_of X G a_law, (fun_mk l_law c_law k_law).binds (ps := ["_law_script"]) fun _ _ _ _ _ _ us hl => match us, hl with | [_], _ => rfl⟩
  n_abs := PySem.W.mg_none_of X G z_abs
  n_all := PySem.W.mg_none_of X G z_all
  n_bool := PySem.W.mg_none_of X G z_bool
  c_LINE_DEGREE := ⟨_, PySem.W.mg_of X G z_LINE_DEGREE⟩
  n_divmod := PySem.W.mg_none_of X G z_divmod
  n_enumerate := PySem.W.mg_none_of X G z_enumerate
  n_int := PySem.W.mg_none_of X G z_int
  n_isinstance := PySem.W.mg_none_of X G z_isinstance
  n_len := PySem.W.mg_none_of X G z_len
  n_list := PySem.W.mg_none_of X G z_list
  m_gcd := PySem.W.mg_of X G z_gcd
  n_max := PySem.W.mg_none_of X G z_max
  n_range := PySem.W.mg_none_of X G z_range
  n_repr := PySem.W.mg_none_of X G z_repr
  n_tuple := PySem.W.mg_none_of X G z_tuple
  n_zip := PySem.W.mg_none_of X G z_zip
theorem law_mk {P : Program} {w : World} {K : PySem.W.Frag} {mg : Str → Option Value} {fa : Addr} (T : Top K mg) (hfa : mg "law" = some (.ref fa)) :
    ∃ fd : FuncData, (∀ (s : Shared) (u : Value), BindsTo s fd ⟨[u], []⟩ [("_law_script", u)]) ∧
      ∀ base : Heap, K.In base → base.Ns mainGlobals mg → FnG P w K mg base CX0 9 fa fd ["_law_script"] (spLaw K) := by
  obtain ⟨f, fd, F, g, b⟩ := T.d_law.ex
  cases hfa.symm.trans g
  refine ⟨fd, fun s u => ?_, fun base _ _ => ?_⟩
  · obtain ⟨oc, od, kV, doc, pm, an, cdv, ct, osl, rfl, _, _⟩ := F.ex
    exact .of_eq rfl
  · skip
    have C__law_pot := ok__law_pot (P := P) (w := w) (base := base) T
    have C__law_draw := ok__law_draw (P := P) (w := w) (base := base) T
    have C__law_pick := ok__law_pick (P := P) (w := w) (base := base) T C__law_draw
    have C__law_line := ok__law_line (P := P) (w := w) (base := base) T C__law_draw C__law_pick
    have C_is_integer := ok_is_integer (P := P) (w := w) (base := base) T
    have C_is_list := ok_is_list (P := P) (w := w) (base := base) T
    have C_is_line := ok_is_line (P := P) (w := w) (base := base) T C_is_integer C_is_list
    have C_trimmed := ok_trimmed (P := P) (w := w) (base := base) T
    have C_scaled := ok_scaled (P := P) (w := w) (base := base) T C_trimmed
    have C_poly_sum := ok_poly_sum (P := P) (w := w) (base := base) T C_trimmed
    have C_poly_less := ok_poly_less (P := P) (w := w) (base := base) T C_poly_sum C_scaled
    have C_poly_times := ok_poly_times (P := P) (w := w) (base := base) T
    have C_content := ok_content (P := P) (w := w) (base := base) T
    have C_poly_plain := ok_poly_plain (P := P) (w := w) (base := base) T C_content
    have C_poly_divided := ok_poly_divided (P := P) (w := w) (base := base) T C_poly_less C_scaled
    have C_check_line := ok_check_line (P := P) (w := w) (base := base) T C_is_line
    have C_check_lines := ok_check_lines (P := P) (w := w) (base := base) T C_check_line
    have C_line_sum := ok_line_sum (P := P) (w := w) (base := base) T C_check_lines C_poly_sum
    have C_line_times := ok_line_times (P := P) (w := w) (base := base) T C_check_lines C_poly_times
    have C_plain_line := ok_plain_line (P := P) (w := w) (base := base) T C_check_line C_poly_plain
    have C_poly_common := ok_poly_common (P := P) (w := w) (base := base) T C_poly_divided C_poly_plain
    have C_line_divided := ok_line_divided (P := P) (w := w) (base := base) T C_check_lines C_poly_divided
    have C_line_common := ok_line_common (P := P) (w := w) (base := base) T C_check_lines C_poly_common
    have C__law_trim := ok__law_trim (P := P) (w := w) (base := base) T
    have C__law_sum := ok__law_sum (P := P) (w := w) (base := base) T C__law_trim
    have C__law_times := ok__law_times (P := P) (w := w) (base := base) T C__law_trim
    have C__law_greatest := ok__law_greatest (P := P) (w := w) (base := base) T
    have C__law_plain := ok__law_plain (P := P) (w := w) (base := base) T C__law_greatest
    have C__law_common := ok__law_common (P := P) (w := w) (base := base) T C__law_plain C__law_sum
    have C__law_divided_right := ok__law_divided_right (P := P) (w := w) (base := base) T C__law_greatest C__law_sum C__law_times C__law_trim C_line_divided
    have C__law_common_right := ok__law_common_right (P := P) (w := w) (base := base) T C__law_common C__law_pick C__law_plain C__law_times C_line_common C_line_divided C_line_times C_plain_line
    have C__law_right := ok__law_right (P := P) (w := w) (base := base) T C__law_common_right C__law_divided_right C__law_draw C__law_line C_line_divided C_line_sum C_line_times
    exact fn_law T C__law_pot C__law_right F
end Kr
open PySem PySem.W PyProof.Rows
set_option maxHeartbeats 0 in
theorem PySem.Challenge.cw_curvepieces_k12_whole_division_and_commo_holds : PySem.Challenge.rw_curvepieces_k12_whole_division_and_commo.Holds := by
  w_on; o_law; k_head; (case hw => w_witness2)
  k_fill
  refine Kr.walkG (l := PySem.Challenge.rw_curvepieces_k12_whole_division_and_commo) (n := 63) (k := 9) (x := "_law_script") (sp := fun K => Kr.spLaw K) rfl (by decide) rfl ⟨rfl, by decide, by decide⟩ (fun w h Y => PySem.W.kIn_of Y) ?F (fun _ _ a ns hl hS => ⟨a, ns, rfl, hS, hl, fun _ => rfl⟩)
  case F =>
    intro w mg fa h KX G hmg
    refine' Kr.law_mk (Kr.top_mk KX G ?a__law_pot ?l__law_pot ?c__law_pot ?k__law_pot ?a__law_draw ?l__law_draw ?c__law_draw ?k__law_draw ?a__law_pick ?l__law_pick ?c__law_pick ?k__law_pick ?a__law_line ?l__law_line ?c__law_line ?k__law_line ?a_is_integer ?l_is_integer ?c_is_integer ?k_is_integer ?a_is_list ?l_is_list ?c_is_list ?k_is_list ?a_is_line ?l_is_line ?c_is_line ?k_is_line ?a_trimmed ?l_trimmed ?c_trimmed ?k_trimmed ?a_scaled ?l_scaled ?c_scaled ?k_scaled ?a_poly_sum ?l_poly_sum ?c_poly_sum ?k_poly_sum ?a_poly_less ?l_poly_less ?c_poly_less ?k_poly_less ?a_poly_times ?l_poly_times ?c_poly_times ?k_poly_times ?a_content ?l_content ?c_content ?k_content ?a_poly_plain ?l_poly_plain ?c_poly_plain ?k_poly_plain ?a_poly_divided ?l_poly_divided ?c_poly_divided ?k_poly_divided ?a_check_line ?l_check_line ?c_check_line ?k_check_line ?a_check_lines ?l_check_lines ?c_check_lines ?k_check_lines ?a_line_sum ?l_line_sum ?c_line_sum ?k_line_sum ?a_line_times ?l_line_times ?c_line_times ?k_line_times ?a_plain_line ?l_plain_line ?c_plain_line ?k_plain_line ?a_poly_common ?l_poly_common ?c_poly_common ?k_poly_common ?a_line_divided ?l_line_divided ?c_line_divided ?k_line_divided ?a_line_common ?l_line_common ?c_line_common ?k_line_common ?a__law_trim ?l__law_trim ?c__law_trim ?k__law_trim ?a__law_sum ?l__law_sum ?c__law_sum ?k__law_sum ?a__law_times ?l__law_times ?c__law_times ?k__law_times ?a__law_greatest ?l__law_greatest ?c__law_greatest ?k__law_greatest ?a__law_plain ?l__law_plain ?c__law_plain ?k__law_plain ?a__law_common ?l__law_common ?c__law_common ?k__law_common ?a__law_divided_right ?l__law_divided_right ?c__law_divided_right ?k__law_divided_right ?a__law_common_right ?l__law_common_right ?c__law_common_right ?k__law_common_right ?a__law_right ?l__law_right ?c__law_right ?k__law_right ?a_law ?l_law ?c_law ?k_law ?z_abs ?z_all ?z_bool ?z_LINE_DEGREE ?z_divmod ?z_enumerate ?z_int ?z_isinstance ?z_len ?z_list ?z_gcd ?z_max ?z_range ?z_repr ?z_tuple ?z_zip) hmg
    (case a__law_pot => k_is)
    (case l__law_pot => k_is)
    (case c__law_pot => k_is)
    (case k__law_pot => k_is)
    (case a__law_draw => k_is)
    (case l__law_draw => k_is)
    (case c__law_draw => k_is)
    (case k__law_draw => k_is)
    (case a__law_pick => k_is)
    (case l__law_pick => k_is)
    (case c__law_pick => k_is)
    (case k__law_pick => k_is)
    (case a__law_line => k_is)
    (case l__law_line => k_is)
    (case c__law_line => k_is)
    (case k__law_line => k_is)
    (case a_is_integer => k_is)
    (case l_is_integer => k_is)
    (case c_is_integer => k_is)
    (case k_is_integer => k_is)
    (case a_is_list => k_is)
    (case l_is_list => k_is)
    (case c_is_list => k_is)
    (case k_is_list => k_is)
    (case a_is_line => k_is)
    (case l_is_line => k_is)
    (case c_is_line => k_is)
    (case k_is_line => k_is)
    (case a_trimmed => k_is)
    (case l_trimmed => k_is)
    (case c_trimmed => k_is)
    (case k_trimmed => k_is)
    (case a_scaled => k_is)
    (case l_scaled => k_is)
    (case c_scaled => k_is)
    (case k_scaled => k_is)
    (case a_poly_sum => k_is)
    (case l_poly_sum => k_is)
    (case c_poly_sum => k_is)
    (case k_poly_sum => k_is)
    (case a_poly_less => k_is)
    (case l_poly_less => k_is)
    (case c_poly_less => k_is)
    (case k_poly_less => k_is)
    (case a_poly_times => k_is)
    (case l_poly_times => k_is)
    (case c_poly_times => k_is)
    (case k_poly_times => k_is)
    (case a_content => k_is)
    (case l_content => k_is)
    (case c_content => k_is)
    (case k_content => k_is)
    (case a_poly_plain => k_is)
    (case l_poly_plain => k_is)
    (case c_poly_plain => k_is)
    (case k_poly_plain => k_is)
    (case a_poly_divided => k_is)
    (case l_poly_divided => k_is)
    (case c_poly_divided => k_is)
    (case k_poly_divided => k_is)
    (case a_check_line => k_is)
    (case l_check_line => k_is)
    (case c_check_line => k_is)
    (case k_check_line => k_is)
    (case a_check_lines => k_is)
    (case l_check_lines => k_is)
    (case c_check_lines => k_is)
    (case k_check_lines => k_is)
    (case a_line_sum => k_is)
    (case l_line_sum => k_is)
    (case c_line_sum => k_is)
    (case k_line_sum => k_is)
    (case a_line_times => k_is)
    (case l_line_times => k_is)
    (case c_line_times => k_is)
    (case k_line_times => k_is)
    (case a_plain_line => k_is)
    (case l_plain_line => k_is)
    (case c_plain_line => k_is)
    (case k_plain_line => k_is)
    (case a_poly_common => k_is)
    (case l_poly_common => k_is)
    (case c_poly_common => k_is)
    (case k_poly_common => k_is)
    (case a_line_divided => k_is)
    (case l_line_divided => k_is)
    (case c_line_divided => k_is)
    (case k_line_divided => k_is)
    (case a_line_common => k_is)
    (case l_line_common => k_is)
    (case c_line_common => k_is)
    (case k_line_common => k_is)
    (case a__law_trim => k_is)
    (case l__law_trim => k_is)
    (case c__law_trim => k_is)
    (case k__law_trim => k_is)
    (case a__law_sum => k_is)
    (case l__law_sum => k_is)
    (case c__law_sum => k_is)
    (case k__law_sum => k_is)
    (case a__law_times => k_is)
    (case l__law_times => k_is)
    (case c__law_times => k_is)
    (case k__law_times => k_is)
    (case a__law_greatest => k_is)
    (case l__law_greatest => k_is)
    (case c__law_greatest => k_is)
    (case k__law_greatest => k_is)
    (case a__law_plain => k_is)
    (case l__law_plain => k_is)
    (case c__law_plain => k_is)
    (case k__law_plain => k_is)
    (case a__law_common => k_is)
    (case l__law_common => k_is)
    (case c__law_common => k_is)
    (case k__law_common => k_is)
    (case a__law_divided_right => k_is)
    (case l__law_divided_right => k_is)
    (case c__law_divided_right => k_is)
    (case k__law_divided_right => k_is)
    (case a__law_common_right => k_is)
    (case l__law_common_right => k_is)
    (case c__law_common_right => k_is)
    (case k__law_common_right => k_is)
    (case a__law_right => k_is)
    (case l__law_right => k_is)
    (case c__law_right => k_is)
    (case k__law_right => k_is)
    (case a_law => k_is)
    (case l_law => k_is)
    (case c_law => k_is)
    (case k_law => k_is)
    (case z_abs => k_is)
    (case z_all => k_is)
    (case z_bool => k_is)
    (case z_LINE_DEGREE => k_is)
    (case z_divmod => k_is)
    (case z_enumerate => k_is)
    (case z_int => k_is)
    (case z_isinstance => k_is)
    (case z_len => k_is)
    (case z_list => k_is)
    (case z_gcd => k_is)
    (case z_max => k_is)
    (case z_range => k_is)
    (case z_repr => k_is)
    (case z_tuple => k_is)
    (case z_zip => k_is)
