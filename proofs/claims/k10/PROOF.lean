import PyProof.Rows.All
import Wide.All
import OpenK.AllK
import Wide.FinOn
import PySem.Challenge.RW_curvepieces_k10_lines_refused
import HandS.Comp
import HandS.Ends
import HandS.Dict
import HandS.Iter
import HandS.Words
import HandS.IsInst
import HandS.Gcd
import HandS.Zip
import HandS.WideBits
import PyProof.ReprRoads
import PyProof.ReprBulk
import PyProof.CallFns
import HandS.TupAny
import HandS.TryOnly
import HandS.Style
import KE.GoesEnum
import KE.GoesMore
import KE.KDictPairs
import KE.KDictCopyH
import HandS.List
import KE.KDictDisplayH
import PyProof.Rows.TupDisplay
import HandS.SortKw
import HandS.CallLocal
import HandS.Flow
import PyProof.P3Eq
import KE.KTupSum
import KE.DataMinMax
import KE.KDictWalk
import KE.SortData
import HandS.DictEq
import HandS.Lambda
import HandS.Nested
import HandS.TryMany
import HandS.ExcInit
import HandS.ExcField
import HandS.ExcIs
import KE.KExcInit
import KE.KExcIs
import HandS.ExcOwn
set_option Elab.async false
set_option linter.all false
set_option maxRecDepth 100000
set_option maxHeartbeats 4400000
/-! Defs that may call repr: the layer's promise, said again with one more fact of what runs around (no repr is under way). -/
namespace Kr
open PySem PySem.Spec
open PyProof.Rows L2

/-- no repr runs around -/
abbrev Quiet (A : Around) : Prop := A.guards = some []

structure FnG (P : Program) (w : World) (K : PySem.W.Frag)
    (mg : Str → Option Value) (base : Heap) (CX : CXT) (k : Nat)
    (f : Addr) (fd : FuncData) (ps : List Str) (sp : Sp) : Prop where
  len : ∀ (vs : List V) (H : Hp) (Q : VK) (E : XK), sp vs H Q E →
    vs.length = ps.length
  run : ∀ (A : Around) (out : List Env) (s : Shared) (H : Hp) (args : Args)
    (us : List Value) (vs : List V) (Q : VK) (E : XK), Quiet A → Room k A →
    Env0 P w K mg base A out s H → BindsTo s fd args (ps.zip us) →
    Vals vs us → sp vs H Q E →
    codeAny (model P w) A (.call (.ref f) args) (CR CX out P w H s Q E) s

/-- a def of the text that may be called by its name -/
structure Cl (P : Program) (w : World) (K : PySem.W.Frag)
    (mg : Str → Option Value) (base : Heap) (CX : CXT) (k : Nat)
    (x : Str) (st : Stmt) (ps : List Str) (sp : Sp) : Prop where
  ex : ∃ (f : Addr) (fd : FuncData), Fun K x x st f fd ∧
    mg x = some (.ref f) ∧ Binds K fd ps [] ∧ FnG P w K mg base CX k f fd ps sp

section
variable {X : Cx} {CX : CXT} {k j : Nat} {x : Str} {st : Stmt} {ps ks : List Str} {sp : Sp}
  {E : XK} {p pos : Pos} {e : Expr} {es : List Expr} {t tk : TA} {kws : List Keyword}

theorem runs_end {pins : List (Addr × Obj)} {σ : L2.St} {H : Hp} {s s' : Shared} {Q : VK}
    {r : Result} (hx : Passes CX X E) (I : Inv X pins σ H s)
    (hq : CR CX X.stack X.prog X.w H s Q E r s') :
    match r with
    | .ok (.ret u) => EP X pins σ Q u s'
    | .ok _ => False
    | .error e => X.xe e s' := by
  match r, hq with
  | .error e, hq => exact hx pins σ H s e s' I hq
  | .ok (.ret u), hq => exact I.after hq
  | .ok .next, hq => exact hq
  | .ok .brk, hq => exact hq
  | .ok .cont, hq => exact hq

theorem calls_u {pins : List (Addr × Obj)} {σ : L2.St} {H : Hp} {s : Shared} {Q : VK}
    {us : List Value} {vs : List V} {f : Addr} {fd : FuncData}
    (F : FnG X.prog X.w X.K X.mg X.base CX k f fd ps sp) (hG : Quiet X.A)
    (hr : Room k X.A) (hb : Binds X.K fd ps []) (hx : Passes CX X E)
    (I : Inv X pins σ H s) (r : Vals vs us) (h : sp vs H Q E) :
    wpAny (model X.prog X.w) X.A (call (.ref f) us)
      (EP X pins σ Q) X.xe s := by
  have hl : us.length = ps.length := r.length ▸ F.len _ _ _ _ h
  have hbt : BindsTo s fd ⟨us, []⟩ (ps.zip us) := by
    have z := hb s us I.kIn (by rw [List.append_nil]; exact hl)
    rwa [List.append_nil] at z
  have z := F.run X.A X.stack s H ⟨us, []⟩ us vs Q E hG hr I.env0 hbt r h
  refine wpAny_call (codeAny_mono z fun rr s' hq => ?_)
  have y := runs_end hx I hq
  cases rr with
  | error e => exact y
  | ok fl => cases fl <;> exact y

/-- f(e, ..) -/
theorem pe_u (c : Cl X.prog X.w X.K X.mg X.base CX k x st ps sp) (hG : Quiet X.A)
    (hr : Room j X.A) (hk : k ≤ j) (hg : Gl X x) (hx : Passes CX X E) (ha : PA X (e :: es) t)
    (hdb : (x == ("__debug__" : Str)) = false := by decide)
    (he : starEach (e :: es) X.env = (false, eval e X.env) :: starEach es X.env := by rfl)
    (hpl : (backTo pos (starEach es X.env)).any (·.1) = false := by rfl) :
    PE X (.Call (.Name x p) (e :: es) [] pos) (tCall sp [] E t) := by
  obtain ⟨f, fd, F, hm, hb, G⟩ := c.ex
  refine ⟨fun pins s σ H Q I h => wpAny_Call_Name_kw (ld_glob I hg hm ?_ hdb)⟩
  have q0 := ha.run pos pins s σ H _ I h
  refine PySem.W.callWith_K (h₀ := X.base) I.ok.mod.kin F.kp (thn q0 ?_) he hpl
  intro us s1 ⟨vs, H1, I1, r, q⟩
  have q : sp (vs ++ []) H1 Q E := q
  rw [List.append_nil] at q
  exact ⟨I1.kIn, calls_u G hG (hr.mono hk) hb hx I1 r q⟩

/-- how the names of a call's keywords lie among the parameters -/
structure KwB (K : PySem.W.Frag) (fd : FuncData) (ps ks : List Str)
    (g : List Value → List Value) (gV : List V → List V) : Prop where
  to : ∀ (s : Shared) (ws : List Value), K.In s.heap → (g ws).length = ps.length →
    BindsTo s fd ⟨[], ks.zip ws⟩ (ps.zip (g ws))
  rel : ∀ {zs : List V} {ws : List Value}, Vals zs ws → Vals (gV zs) (g ws)
def tCallU (sp : Sp) (gV : List V → List V) (E : XK) (tk : TA) : TE :=
  fun σ H Q => tk σ H fun zs H1 => sp (gV zs) H1 Q E
/-- f(k = v, ..) -/
theorem pe_uk {g : List Value → List Value} {gV : List V → List V}
    (c : Cl X.prog X.w X.K X.mg X.base CX k x st ps sp)
    (hkb : ∀ {f : Addr} {fd : FuncData}, Fun X.K x x st f fd → KwB X.K fd ps ks g gV)
    (hG : Quiet X.A) (hr : Room j X.A) (hk : k ≤ j) (hg : Gl X x) (hx : Passes CX X E)
    (hkw : PK X kws tk)
    (hall : (backToKw pos (keywordEach kws X.env)).all (·.1.isSome) = true := by rfl)
    (hks : (backToKw pos (keywordEach kws X.env)).filterMap (·.1) = ks := by rfl)
    (hdb : (x == ("__debug__" : Str)) = false := by decide)
    (hpl : ((backTo pos (starEach [] X.env)).any (·.1) ||
      (backToKw pos (keywordEach kws X.env)).any (·.1.isNone)) = false := by rfl) :
    PE X (.Call (.Name x p) [] kws pos) (tCallU sp gV E tk) := by
  obtain ⟨f, fd, F, hm, hb, G⟩ := c.ex
  have B := hkb F
  refine ⟨fun pins s σ H Q I h => wpAny_Call_Name_kw (ld_glob I hg hm ?_ hdb)⟩
  have q0 := hkw.run pos pins s σ H _ I h
  refine PySem.W.callWith_KW0 (h₀ := X.base) I.ok.mod.kin F.kp hall (thn q0 ?_) hpl
  intro ws s1 ⟨zs, H1, I1, r, q⟩
  refine ⟨I1.kIn, ?_⟩
  rw [hks]
  have r2 := B.rel r
  have hl : (g ws).length = ps.length := r2.length ▸ G.len _ _ _ _ q
  have z := G.run X.A X.stack s1 H1 ⟨[], ks.zip ws⟩ (g ws) (gV zs) Q E hG
    (hr.mono hk) I1.env0 (B.to s1 ws I1.kIn hl) r2 q
  refine wpAny_call (codeAny_mono z fun rr s' hq => ?_)
  have y := runs_end hx I1 hq
  cases rr with
  | error e => exact y
  | ok fl => cases fl <;> exact y
end

/-! a def by its body -/
section
variable {P : Program} {w : World} {K : PySem.W.Frag}
  {mg : Str → Option Value} {base : Heap}
theorem body_g {CX : CXT} {x : Str} {st : Stmt} {f : Addr} {fd : FuncData} {N ps : List Str}
    {k : Nat} {sp : Sp} (F : Fun K x x st f fd) (S : FnScope N ps (defScope st))
    (len : ∀ (vs : List V) (H : Hp) (Q : VK) (E : XK), sp vs H Q E →
      vs.length = ps.length)
    (hb : ∀ (cdv : Value) (A : Around) (out : List Env) (s : Shared) (H : Hp) (vs : List V)
      (Q : VK) (E : XK), Quiet (A.deeper (envOfC x (defScope st) s.heap.objs.size f cdv)) →
      Room k (A.deeper (envOfC x (defScope st) s.heap.objs.size f cdv)) → sp vs H Q E →
      ∃ t, PSs (cxOf CX P w K mg base N x (defScope st) f cdv A out s H E) (defBody st) t ∧
        t { nx := fun _ H' => Q .non H', rt := Q } (start N vs) H) :
    FnG P w K mg base CX (k + 1) f fd ps sp := by
  obtain ⟨c0, d0, kw0, dc0, pm0, an0, cdv, ct0, sl0, rfl, lk, hcd⟩ := F.ex
  refine ⟨len, fun A out s H args us vs Q E hG hr e0 hbt r hsp => ?_⟩
  have hl := len _ _ _ _ hsp
  have kin : ∀ b o, base.get? b = some o → s.heap.get? b = some o := fun b o e => (e0.bs b o e).1
  have KX : K.In s.heap := e0.mod.kin.keeps kin
  have lim : s.heap.NoLimit := e0.mod.nolimit.keeps kin
  have par : ∀ y ∈ ps.zip us, (defScope st).names.lookup y.1 = some .local ∨
      ((defScope st).names.lookup y.1 = some .cell ∧
       ((cellsFrom (s.heap.objs.size + 1) (defScope st).names []).lookup y.1).isSome = true) := by
    rintro ⟨n, v⟩ hy
    cases S.par n (List.of_mem_zip hy).1 with
    | inl q => exact .inl q
    | inr q => exact .inr ⟨q, PySem.W.cellsFrom_some _ _ _ (.inl q)⟩
  refine codeAny_call_function hr.depth (KX _ _ lk) rfl S.co S.gen rfl
    (PySem.W.codeRec_of KX hcd) (hbt _ _ _ _ ?_)
  refine wpAny_newFunctionEnv_cells S.kind par fun env he s1 y => ?_
  subst he
  refine ⟨lim.keeps y.toInCall.keep, codeAny_func ?_⟩
  obtain ⟨t, ht, hq⟩ := hb cdv A out s H vs Q E hG (hr.deeper _) hsp
  have J0 : Inv (cxOf CX P w K mg base N x (defScope st) f cdv A out s H E) []
      (start N vs) H s1 := inv_start S hr.hd e0 hl r y
  refine wpAny_mono (ht.run [] s1 (start N vs) H _ J0 hq) ?_ (fun e s' hs => hs)
  intro fl s' hs
  match fl, hs with
  | .ret u, ⟨v, σ', H', J, rv, q⟩ =>
    exact (show CE out P w H s Q u s' from ⟨v, H', J.os, J.bare, J.base, J.hok, rv, q⟩)
  | .next, ⟨σ', H', J, q⟩ =>
    exact (show CE out P w H s Q .none s' from ⟨.non, H', J.os, J.bare, J.base, J.hok, rfl, q⟩)
  | .brk, ⟨_, _, _, q⟩ => exact False.elim q
  | .cont, ⟨_, _, _, q⟩ => exact False.elim q
/-- .. that lets no exception out -/
theorem body_0 {x : Str} {st : Stmt} {f : Addr} {fd : FuncData} {N ps : List Str}
    {k : Nat} {sp : Sp} (F : Fun K x x st f fd) (S : FnScope N ps (defScope st))
    (len : ∀ (vs : List V) (H : Hp) (Q : VK) (E : XK), sp vs H Q E →
      vs.length = ps.length)
    (hb : ∀ (cdv : Value) (A : Around) (out : List Env) (s : Shared) (H : Hp) (vs : List V)
      (Q : VK) (E : XK), Quiet (A.deeper (envOfC x (defScope st) s.heap.objs.size f cdv)) →
      Room k (A.deeper (envOfC x (defScope st) s.heap.objs.size f cdv)) → sp vs H Q E →
      ∃ t, PSs (cxOf CX0 P w K mg base N x (defScope st) f cdv A out s H E).nox
          (defBody st) t ∧ t { nx := fun _ H' => Q .non H', rt := Q } (start N vs) H) :
    FnG P w K mg base CX0 (k + 1) f fd ps sp :=
  body_g F S len fun cdv A out s H vs Q E hG hr h =>
    let ⟨t, ht, q⟩ := hb cdv A out s H vs Q E hG hr h
    ⟨t, ht.nox, q⟩
end

/-! repr of data -/
section
variable {X : Cx}
theorem call_repr (hG : Quiet X.A) (hu : X.A.units + 64 < cLine) :
    CallR X (.builtin "repr") (fun xs H Q => ∃ a d, xs = [.ref a] ∧ Dp X.K H (.ref a) d ∧
      d.showable = true ∧ d.hasDict = false ∧ d.depth ≤ 60 ∧ d.shown.length ≤ sizeLine ∧
      Q (.str d.shown) H) := by
  intro pins s σ H zs us Q I r h
  obtain ⟨a, d, rfl, hd, hs, hn, h60, hz, q⟩ := h
  obtain ⟨u', rfl, rx⟩ := vals1 r
  obtain rfl : u' = Value.ref a := rx
  obtain ⟨as, hr⟩ := Dp.reads I d (.ref a) (.ref a) hd rfl
  refine repr_of_reads' hr hs (fun z => ?_) hG ?_ (fun _ _ e => e) (fun h' u tk kk => ?_) hz
  · rw [hn] at z; cases z
  · exact Nat.lt_of_le_of_lt (Nat.add_le_add_left (show d.depth + 1 ≤ 64 by omega) _) hu
  · exact ⟨.str d.shown, H, I.kept (fun b o e => kk b o e), ⟨u, rfl⟩, q⟩
end
end Kr
namespace Kr
open PySem PySem.Spec
open PyProof.Rows L2

theorem hu64 {A : Around} {k : Nat} (hr : Room k A) : A.units + 64 < cLine := hr.units

/-- a def of the text under its name -/
structure Df (K : PySem.W.Frag) (mg : Str → Option Value) (x : Str) (st : Stmt)
    (ps : List Str) : Prop where
  ex : ∃ (f : Addr) (fd : FuncData), Fun K x x st f fd ∧ mg x = some (.ref f) ∧ Binds K fd ps []
theorem Df.cl {P : Program} {w : World} {K : PySem.W.Frag} {mg : Str → Option Value} {base : Heap}
    {CX : CXT} {k : Nat} {x : Str} {st : Stmt} {ps : List Str} {sp : Sp} (D : Df K mg x st ps)
    (h : ∀ (f : Addr) (fd : FuncData), Fun K x x st f fd → FnG P w K mg base CX k f fd ps sp) :
    Cl P w K mg base CX k x st ps sp := by
  obtain ⟨f, fd, F, g, b⟩ := D.ex
  exact ⟨f, fd, F, g, b, h f fd F⟩

/-! the head of a law's walk, for such defs -/
theorem callG {P : Program} {w : World} {K : PySem.W.Frag} {mg mb : Str → Option Value} {k : Nat}
    {fa a : Addr} {fd : FuncData} {x : Str} {sp : Sp} {s₁ : Shared} {vs : List Value} {ns : List Int}
    (KX : K.In s₁.heap) (hns : s₁.heap.Ns mainGlobals mg) (hb : s₁.heap.Ns builtinsNs mb)
    (hbb : ∀ x : Str, x ≠ "__name__" → mb x = bootBuiltins x) (hlim : s₁.heap.NoLimit)
    (hg : s₁.gens = #[]) (ha : s₁.heap.get? a = some { cls := .type "list", data := .seq vs.toArray })
    (hi : IntsAre vs ns) (hl : ns.length ≤ sizeLine) (hr : Room k callerA)
    (F : ∀ base : Heap, K.In base → base.Ns mainGlobals mg → FnG P w K mg base CX0 k fa fd [x] sp)
    (hbind : ∀ (s : Shared) (u : Value), BindsTo s fd ⟨[u], []⟩ [(x, u)])
    (hsp : ∀ H : Hp, SqL K H a (ns.map V.int) → sp [.ref a] H (fun v _ => v = .bl true) fun _ _ _ => False) :
    codeAny (model P w) callerA (.call (.ref fa) ⟨[.ref a], []⟩)
      (fun r s' => r = .ok (.ret (.bool true)) ∧ OldK s₁.heap s'.heap ∧ s'.os = s₁.os ∧ AllBare s'.gens) s₁ := by
  have rv := vals_ints hi
  have lenV := hi.length
  have main : ∀ H : Hp, (∀ b u, H b = some u → b = a ∧ ∃ o ys, u = .frz o (.lst ys)) →
      SqL K H a (ns.map V.int) → HOk P w H s₁.heap → (H a ≠ none → K.lookup a = none) →
      codeAny (model P w) callerA (.call (.ref fa) ⟨[.ref a], []⟩)
        (fun r s' => r = .ok (.ret (.bool true)) ∧ OldK s₁.heap s'.heap ∧ s'.os = s₁.os ∧ AllBare s'.gens) s₁ := by
    intro H hA hS hok hK
    have dict0 : ∀ {b : Addr} {o : Obj} {es : Array DictEntry} {ep : Nat},
        s₁.heap.get? b = some o → o.data = .dict es ep → H b = none := by
      intro b o es ep e d
      match q : H b with
      | none => rfl
      | some u =>
        obtain ⟨e1, _⟩ := hA b u q
        rw [e1, ha] at e
        cases e
        exact nomatch (show Data.seq vs.toArray _ = Data.dict es ep from d)
    have nsT : ∀ {b : Addr} {m : Str → Option Value}, s₁.heap.Ns b m → (hidT s₁.heap H).Ns b m :=
      fun {b m} ⟨o, es, ep, e, d, r⟩ => ⟨o, es, ep, hidT_get e (dict0 e d), d, r⟩
    have kB : K.In (hidT s₁.heap H) := by
      intro b o e
      refine hidT_get (KX b o e) ?_
      match q : H b with
      | none => rfl
      | some u =>
        obtain ⟨e1, _⟩ := hA b u q
        subst e1
        rw [hK (by rw [q]; exact fun z => nomatch z)] at e
        cases e
    have M : Mod K mg (hidT s₁.heap H) :=
      ⟨kB, nsT hns, ⟨mb, nsT hb, hbb⟩, hlim.elim fun mc z => ⟨mc, nsT z.1, z.2⟩⟩
    have e0 : Env0 P w K mg (hidT s₁.heap H) callerA [] s₁ H :=
      ⟨rfl, M, fun b o e => of_hidT e, Nat.le_of_eq (hidT_size _ _), trivial,
        fun b z => absurd (show b ∈ ([] : List Addr) from z) List.not_mem_nil, hok, .of_eq hg⟩
    have z := (F _ kB (nsT hns)).run callerA [] s₁ H ⟨[.ref a], []⟩ [.ref a] [.ref a] _ _ rfl hr e0
      (hbind s₁ (.ref a)) (.cons rfl .nil) (hsp H hS)
    refine codeAny_mono z fun r s' h => ?_
    match r, h with
    | .error e, h => exact False.elim h
    | .ok .next, h => exact False.elim h
    | .ok .brk, h => exact False.elim h
    | .ok .cont, h => exact False.elim h
    | .ok (.ret u), ⟨v, H', os, bare, un, hok', r', q⟩ =>
      obtain rfl : v = .bl true := q
      obtain rfl : u = Value.bool true := by exact r'
      refine ⟨rfl, OldK.of_keep (fun b o e => ?_), os, bare⟩
      match q : H b with
      | none => exact un.keep b o e q (fun z => absurd (show b ∈ ([] : List Addr) from z) List.not_mem_nil) List.not_mem_nil
      | some u =>
        obtain ⟨_, ob, ys, rfl⟩ := hA b u q
        have y2 := un.frzs b ob _ q
        have e1 := (hok b _ q).1
        have e2 := (hok' b _ y2).1
        rw [e] at e1
        cases e1
        exact e2
  match hk : K.lookup a with
  | some o =>
    have e := KX a o hk
    rw [ha] at e
    cases e
    refine main (fun _ => none) (fun b u z => nomatch z) (.inr ?_) (fun b u z => nomatch z) fun z => absurd rfl z
    exact ⟨_, vs.toArray, _, hk, rfl, rfl, rfl, by rw [List.size_toArray, lenV]; exact hl, rv⟩
  | none =>
    let fz : HO := .frz { cls := .type "list", data := .seq vs.toArray } (.lst (ns.map V.int))
    refine main (upd (fun _ => none) a fz) ?_ (.inl (.inr ⟨_, upd_same⟩)) ?_ fun _ => hk
    · intro b u z
      by_cases hb : b = a
      · subst hb
        rw [upd_same] at z
        cases z
        exact ⟨rfl, _, _, rfl⟩
      · rw [upd_ne hb] at z
        cases z
    · intro b u z
      by_cases hb : b = a
      · subst hb
        rw [upd_same] at z
        cases z
        exact ⟨ha, (by rw [List.length_map]; exact hl), vs, _, rv, ha⟩
      · rw [upd_ne hb] at z
        cases z

/-- where a law's walk begins: its last def keeps its promise -/
theorem walkG {l : PySem.W.OpenLaw} {n k : Nat} {q : Program} {loose : List Str}
    {XP : (Str → Option Value) → Heap → Prop} {YP : World → Heap → Prop} {d : DefRec}
    {K : Params → PySem.W.Frag} {sp : PySem.W.Frag → Sp} {x : Str}
    (hn : l.most = some n) (hn2 : n ≤ sizeLine)
    (hdf : d.params.defaults = []) (hr : Room k callerA)
    (hY : ∀ (v : World) (h : Heap), YP v h → (K v.params).In h)
    (F : ∀ (w : World) (mg : Str → Option Value) (fa : Addr) (h : Heap), (K w.params).In h →
      h.Ns mainGlobals mg → mg d.name = some (.ref fa) →
      ∃ fd : FuncData, (∀ (s' : Shared) (u : Value), BindsTo s' fd ⟨[u], []⟩ [(x, u)]) ∧
        ∀ base : Heap, (K w.params).In base → base.Ns mainGlobals mg →
          FnG l.prog w (K w.params) mg base CX0 k fa fd [x] (sp (K w.params)))
    (hsp : ∀ (K : PySem.W.Frag) (H : Hp) (a : Addr) (ns : List Int), ns.length ≤ n →
      SqL K H a (ns.map V.int) → sp K [.ref a] H (fun v _ => v = .bl true) fun _ _ _ => False) :
    PySem.W.WalkO q loose XP YP l.row.toRowW d []
      (fun f vs => PySem.call f vs) := by
  refine Att.attach_call hn hdf ?_
  intro w s₀ s₁ mg mb fa o pm cd doc a vs ns G Y ho hd hcd hmg hobj hints hlen hg
  have KX := hY w _ Y
  obtain ⟨fd, hb, hF⟩ := F w mg fa _ KX (G.T.g) hmg
  exact callG KX G.T.g G.T.b G.T.builtins G.T.nolimit hg hobj hints (Nat.le_trans hlen hn2) hr hF hb
    fun H hS => hsp _ H a ns hlen hS

/-! heaps that change at one place alone -/
def Chg (a : Addr) (H H' : Hp) : Prop := ∀ b o, b ≠ a → H b = some o → H' b = some o
theorem Chg.rfl' {a : Addr} {H : Hp} : Chg a H H := fun _ _ _ h => h
theorem Chg.trans {a : Addr} {H H1 H2 : Hp} (x : Chg a H H1) (y : Chg a H1 H2) : Chg a H H2 :=
  fun b o n h => y b o n (x b o n h)
theorem Chg.of {a : Addr} {H H' : Hp} (s : Same H H') : Chg a H H' := fun b o _ h => s b o h
theorem Chg.seq {K : PySem.W.Frag} {a b : Addr} {H H' : Hp} {xs : List V} (c : Chg a H H') (n : b ≠ a)
    (h : SqL K H b xs) : SqL K H' b xs := by
  rcases h with (h | ⟨oo, h⟩) | h
  · exact .inl (.inl (c _ _ n h))
  · exact .inl (.inr ⟨oo, c _ _ n h⟩)
  · exact .inr h
theorem Same.put {H : Hp} {p : Addr} {o : HO} (h : H p = none) : Same H (upd H p o) := by
  intro b x e
  rw [upd_ne (ne_of_none e h)]
  exact e
theorem Same.tseq {K : PySem.W.Frag} {a : Addr} {H H' : Hp} {xs : List V} (e : Same H H')
    (h : SqT K H a xs) : SqT K H' a xs := by
  rcases h with (h | ⟨oo, h⟩) | h
  · exact .inl (.inl (e _ _ h))
  · exact .inl (.inr ⟨oo, e _ _ h⟩)
  · exact .inr h

/-! what a law draws from -/
def PotAt (H : Hp) (a : Addr) : Prop :=
  ∃ P R : Int, H a = some (.lst [.int P, .int R]) ∧ 0 ≤ P ∧ 0 ≤ R ∧ R < 2147483648
theorem Same.pot {H H' : Hp} {a : Addr} (s : Same H H') (p : PotAt H a) : PotAt H' a := by
  obtain ⟨P, R, h, r⟩ := p
  exact ⟨P, R, s _ _ h, r⟩
theorem PotAt.ne {H : Hp} {a p : Addr} (x : PotAt H a) (h : H p = none) : p ≠ a := by
  obtain ⟨P, R, e, _⟩ := x
  exact (ne_of_none e h).symm
def spPot (K : PySem.W.Frag) : Sp := fun vs H Q _ => ∃ (a : Addr) (ns : List Int) (k : Int),
  vs = [.ref a, .int k] ∧ SqL K H a (ns.map V.int) ∧ 0 ≤ k ∧ k ≤ 63 ∧
  ∀ H' p, Same H H' → H p = none → PotAt H' p → Q (.ref p) H'
def spDraw : Sp := fun vs H Q _ => ∃ (a : Addr) (m : Int), vs = [.ref a, .int m] ∧ PotAt H a ∧
  0 < m ∧ m < 1073741824 ∧
  ∀ H' d, Chg a H H' → PotAt H' a → 0 ≤ d → d < m → Q (.int d) H'
def spPick (K : PySem.W.Frag) : Sp := fun vs H Q _ => ∃ (a b : Addr) (xs : List V),
  vs = [.ref a, .ref b] ∧ PotAt H a ∧ b ≠ a ∧ SqL K H b xs ∧ xs ≠ [] ∧ xs.length ≤ 1000 ∧
  ∀ H' x, Chg a H H' → PotAt H' a → x ∈ xs → Q x H'
/-- a drawn line -/
def spLine : Sp := fun vs H Q _ => ∃ (a : Addr) (n : Nat) (w : Int),
  vs = [.ref a, .int n, .int w] ∧ PotAt H a ∧ n ≤ 60 ∧ 2 ≤ w ∧ w ≤ 1000000 ∧
  ∀ H' p (ns : List Int), Chg a H H' → PotAt H' a → H p = none → p ≠ a →
    H' p = some (.lst (ns.map V.int)) → ns.length = n + 1 →
    (∀ z ∈ ns, -w - 3 ≤ z ∧ z ≤ w + 3) → (∀ z, ns.getLast? = some z → z ≠ 0) → Q (.ref p) H'
def spLaw (K : PySem.W.Frag) : Sp := fun vs H Q _ => ∃ (a : Addr) (ns : List Int),
  vs = [.ref a] ∧ SqL K H a (ns.map V.int) ∧ ns.length ≤ 63 ∧ ∀ H', Q (.bl true) H'
end Kr
/-! Any value: its kind, whether it is a line. -/
namespace Kr
open PySem PySem.Spec
open PyProof.Rows L2

theorem ifF {c : Bool} {A B : Prop} (e : c = false) (h : B) : if c = true then A else B := by
  subst e; exact iteF h
theorem ifT {c : Bool} {A B : Prop} (e : c = true) (h : A) : if c = true then A else B := by
  subst e; exact iteT h

theorem yesT {σ : L2.St} {H : Hp} {A B : Hp → Prop} (h : A H) :
    tYes σ H (fun b H3 => if b = true then A H3 else B H3) := by
  show if true = true then A H else B H
  rw [if_pos rfl]; exact h

inductive Kd (H : Hp) : V → String → Prop where
  | non : Kd H .non "NoneType"
  | bl (b : Bool) : Kd H (.bl b) "bool"
  | int (i : Int) : Kd H (.int i) "int"
  | str (x : Str) : Kd H (.str x) "str"
  | lst {a : Addr} {xs : List V} : H a = some (.lst xs) → Kd H (.ref a) "list"
  | tup {a : Addr} {xs : List V} : H a = some (.tup xs) → Kd H (.ref a) "tuple"
  | dct {a : Addr} {kvs : List (Key × V)} : H a = some (.dK kvs) → Kd H (.ref a) "dict"
theorem Kd.same {H H' : Hp} {v : V} {k : String} (s : Same H H') (x : Kd H v k) : Kd H' v k := by
  cases x with
  | non => exact .non
  | bl b => exact .bl b
  | int i => exact .int i
  | str y => exact .str y
  | lst e => exact .lst (s _ _ e)
  | tup e => exact .tup (s _ _ e)
  | dct e => exact .dct (s _ _ e)
theorem Kd.ty {K : PySem.W.Frag} {H : Hp} {v : V} {k : String} (x : Kd H v k) : TyX K H v (.type k) := by
  cases x with
  | non => exact .base .non
  | bl b => exact .base (.bl b)
  | int i => exact .base (.int i)
  | str y => exact .base (.str y)
  | lst e => exact .base (.lst e)
  | tup e => exact .base (.tup e)
  | dct e => exact .base (.dK e)
def isI : V → Bool
  | .int _ => true
  | _ => false
theorem isI_int {v : V} (h : isI v = true) : ∃ i, v = .int i := by
  cases v with
  | int i => exact ⟨i, rfl⟩
  | _ => cases h
/-- a list or a tuple -/
def isLT (k : String) : Bool := k == "list" || k == "tuple"
theorem kit_int {K : PySem.W.Frag} {H : Hp} {v : V} {k : String} (x : Kd H v k) :
    PySem.W.kitOne K (.type k) (.type "int") = some (k == "int" || k == "bool") := by
  cases x <;> exact kit_ty (by decide +kernel)
theorem kit_bool {K : PySem.W.Frag} {H : Hp} {v : V} {k : String} (x : Kd H v k) :
    PySem.W.kitOne K (.type k) (.type "bool") = some (k == "bool") := by
  cases x <;> exact kit_ty (by decide +kernel)
theorem Kd.isI {H : Hp} {v : V} {k : String} (x : Kd H v k) : Kr.isI v = ((k == "int" || k == "bool") && !(k == "bool")) := by
  cases x <;> rfl
theorem kit_lt {K : PySem.W.Frag} {H : Hp} {v : V} {k : String} (x : Kd H v k) :
    PySem.W.kitAny K (.type k) [.type "list", .type "tuple"] = some (isLT k) := by
  cases x with
  | lst e => exact kitAny_cons (b := true) (kit_ty (by decide +kernel)) (fun z => nomatch z) fun _ => rfl
  | tup e => exact kitAny_cons (b := false) (kit_ty (by decide +kernel)) (fun _ => kitAny_cons (b := true) (kit_ty (by decide +kernel)) (fun z => nomatch z) fun _ => rfl) fun z => nomatch z
  | _ => exact kitAny_cons (b := false) (kit_ty (by decide +kernel)) (fun _ => kitAny_cons (b := false) (kit_ty (by decide +kernel)) (fun _ => kitAny_nil) fun z => nomatch z) fun z => nomatch z

/-- 0 to 13 INTEGERS, the last one not 0 -/
def lineB (xs : List V) : Bool :=
  decide (xs.length ≤ 13) && xs.all isI && (xs.isEmpty || !decide (xs.getLast? = some (.int 0)))
inductive Val (H : Hp) : V → Bool → Prop where
  | lst {a : Addr} {xs : List V} : H a = some (.lst xs) → (∀ x ∈ xs, ∃ k, Kd H x k) →
      xs.length ≤ 1000 → Val H (.ref a) (lineB xs)
  | tup {a : Addr} {xs : List V} : H a = some (.tup xs) → (∀ x ∈ xs, ∃ k, Kd H x k) →
      xs.length ≤ 1000 → Val H (.ref a) (lineB xs)
  | oth {v : V} {k : String} : Kd H v k → isLT k = false → Val H v false
theorem Val.same {H H' : Hp} {v : V} {b : Bool} (s : Same H H') (x : Val H v b) : Val H' v b := by
  cases x with
  | lst e h l => exact .lst (s _ _ e) (fun x m => (h x m).elim fun k z => ⟨k, z.same s⟩) l
  | tup e h l => exact .tup (s _ _ e) (fun x m => (h x m).elim fun k z => ⟨k, z.same s⟩) l
  | oth k e => exact .oth (k.same s) e
theorem Val.kd {H : Hp} {v : V} {b : Bool} (x : Val H v b) : ∃ k, Kd H v k := by
  cases x with
  | lst e _ _ => exact ⟨_, .lst e⟩
  | tup e _ _ => exact ⟨_, .tup e⟩
  | oth k _ => exact ⟨_, k⟩
def spIsInt : Sp := fun vs H Q _ => ∃ (v : V) (k : String), vs = [v] ∧ Kd H v k ∧ Q (.bl (isI v)) H
def spIsList : Sp := fun vs H Q _ => ∃ (v : V) (k : String), vs = [v] ∧ Kd H v k ∧
  ∀ H', Same H H' → Q (.bl (isLT k)) H'
def spNumber : Sp := fun vs H Q _ => ∃ i : Int, vs = [.int i] ∧ Q .non H
def spIsLine : Sp := fun vs H Q _ => ∃ (v : V) (b : Bool), vs = [v] ∧ Val H v b ∧
  ∀ H', Same H H' → Q (.bl b) H'
theorem take_snoc {α : Type} {xs : List α} {i : Nat} {x : α} (h : xs[i]? = some x) : xs.take (i + 1) = xs.take i ++ [x] := by
  rw [List.take_add_one, h]; rfl
theorem lineB_long {xs : List V} (h : ¬ xs.length ≤ 13) : lineB xs = false := by
  unfold lineB; rw [decide_eq_false h]; rfl
theorem lineB_odd {xs : List V} (h : xs.all isI = false) : lineB xs = false := by
  unfold lineB; rw [h, Bool.and_false, Bool.false_and]
theorem lineB_end {xs : List V} (l : xs.length ≤ 13) (h : xs.all isI = true) :
    lineB xs = (xs.isEmpty || !decide (xs.getLast? = some (.int 0))) := by
  unfold lineB; rw [h, decide_eq_true l]; rfl
/-- what an own list of truth values holds while it grows -/
theorem all_id (xs : List V) : (xs.map isI).all id = xs.all isI := by
  rw [List.all_map]; rfl
theorem last_at1 {xs : List V} (h : xs ≠ []) : ∃ v, atI xs (-1) = some v ∧ xs.getLast? = some v ∧ v ∈ xs := by
  refine ⟨xs.getLast h, ?_, List.getLast?_eq_getLast h, List.getLast_mem h⟩
  have e : xs = xs.dropLast ++ [xs.getLast h] := (List.dropLast_concat_getLast h).symm
  have z := atI_last xs.dropLast (xs.getLast h)
  rwa [← e] at z
/-- the last look of a line's test -/
theorem last_look {xs : List V} (l : xs.length ≤ 13) (hI : xs.all isI = true) (hne : xs ≠ []) :
    ∃ v, atI xs (-1) = some v ∧ scal v (.int 0) = true ∧ (!decide (v = .int 0)) = lineB xs := by
  obtain ⟨v, h1, h2, h3⟩ := last_at1 hne
  obtain ⟨i, rfl⟩ := isI_int (List.all_eq_true.mp hI v h3)
  refine ⟨_, h1, rfl, ?_⟩
  rw [lineB_end l hI, h2]
  have e : xs.isEmpty = false := by cases xs with | nil => exact absurd rfl hne | cons _ _ => rfl
  rw [e]
  simp
end Kr
/-! repr of any value. -/
namespace Kr
open PySem PySem.Spec
open PyProof.Rows L2

mutual
theorem dp_same {K : PySem.W.Frag} {H H' : Hp} (s : Same H H') : ∀ {d : PyData} {v : V}, Dp K H v d → Dp K H' v d
  | _, _, .non => .non
  | _, _, .bl b => .bl b
  | _, _, .int i => .int i
  | _, _, .str x => .str x
  | _, _, .lst h r => .lst (s.seq h) (dps_same s r)
  | _, _, .tup h r => .tup (Same.tseq s h) (dps_same s r)
theorem dps_same {K : PySem.W.Frag} {H H' : Hp} (s : Same H H') : ∀ {ds : List PyData} {vs : List V}, DpAll K H vs ds → DpAll K H' vs ds
  | _, _, .nil => .nil
  | _, _, .cons h r => .cons (dp_same s h) (dps_same s r)
end
/-- ints, data, and dicts of nothing, in a row -/
inductive OddAll (K : PySem.W.Frag) (H : Hp) : List V → List PyData → Prop where
  | nil : OddAll K H [] []
  | int {vs : List V} {ds : List PyData} (i : Int) : i.natAbs.log2 < 1920 → OddAll K H vs ds → OddAll K H (.int i :: vs) (.int i :: ds)
  | dct {b : Addr} {vs : List V} {ds : List PyData} : H b = some (.dK []) → OddAll K H vs ds →
      OddAll K H (.ref b :: vs) (.dict [] :: ds)
  | dat {v : V} {d : PyData} {vs : List V} {ds : List PyData} : Dp K H v d → d.showable = true → d.hasDict = false → d.depth ≤ 20 → OddAll K H vs ds →
      OddAll K H (v :: vs) (d :: ds)
theorem OddAll.same {K : PySem.W.Frag} {H H' : Hp} (s : Same H H') : ∀ {vs : List V} {ds : List PyData}, OddAll K H vs ds → OddAll K H' vs ds
  | _, _, .nil => .nil
  | _, _, .int i z r => .int i z (r.same s)
  | _, _, .dct e r => .dct (s _ _ e) (r.same s)
  | _, _, .dat e h1 h2 h3 r => .dat (dp_same s e) h1 h2 h3 (r.same s)
theorem OddAll.showable {K : PySem.W.Frag} {H : Hp} : ∀ {vs : List V} {ds : List PyData}, OddAll K H vs ds → PyData.showableAll ds = true
  | _, _, .nil => by simp only [PyData.showableAll]
  | _, _, .int i z r => by simp [PyData.showableAll, PyData.showable, r.showable, z]
  | _, _, .dct e r => by simp [PyData.showableAll, PyData.showable, PyData.showableKv, r.showable]
  | _, _, .dat e h1 h2 h3 r => by simp [PyData.showableAll, h1, r.showable]
theorem OddAll.depth {K : PySem.W.Frag} {H : Hp} : ∀ {vs : List V} {ds : List PyData}, OddAll K H vs ds → PyData.depthAll ds ≤ 20
  | _, _, .nil => by simp [PyData.depthAll]
  | _, _, .int i _ r => by
    have z := r.depth
    simp [PyData.depthAll, PyData.depth]; omega
  | _, _, .dct e r => by
    have z := r.depth
    simp [PyData.depthAll, PyData.depth, PyData.depthKv]; omega
  | _, _, .dat e h1 h2 h3 r => by
    have z := r.depth
    simp only [PyData.depthAll]; omega
/-- items read one by one -/
inductive ReadsM (h : Heap) : List Value → List PyData → Prop where
  | nil : ReadsM h [] []
  | cons {v : Value} {d : PyData} {as : List Addr} {vs : List Value} {ds : List PyData} : Reads h v d as → (d.hasDict = true → sysModules ∉ as) → ReadsM h vs ds → ReadsM h (v :: vs) (d :: ds)
theorem ReadsM.all {h : Heap} : ∀ {vs : List Value} {ds : List PyData}, ReadsM h vs ds → ∃ as, ReadsAll h vs ds as
  | _, _, .nil => ⟨_, .nil⟩
  | _, _, .cons r _ rs => by
    obtain ⟨as, x⟩ := rs.all
    exact ⟨_, .cons r x⟩
theorem ReadsM.repr {prog : Program} {w : World} {h : Heap} : ∀ {vs : List Value} {ds : List PyData}, ReadsM h vs ds → PyData.showableAll ds = true → (∀ t ∈ PyData.shownAll ds, t.length ≤ sizeLine) →
    ∃ bs, ReadAtMost h (PyData.depthAll ds) bs ∧ ReprAllK prog w bs h (PyData.depthAll ds) vs (PyData.shownAll ds)
  | _, _, .nil, _, _ => ⟨[], (fun _ h => nomatch h), by simp only [PyData.shownAll]; exact .nil⟩
  | _, _, .cons (d := d) (ds := ds) r hsm rs, hs, hz => by
    have hs' : d.showable = true ∧ PyData.showableAll ds = true := by simpa [PyData.showableAll] using hs
    obtain ⟨b1, hb1, k1⟩ := ReprK.of_reads (prog := prog) (w := w) r hs'.1 hsm (hz _ (by simp only [PyData.shownAll]; exact List.mem_cons_self ..))
    obtain ⟨b2, hb2, k2⟩ := rs.repr (prog := prog) (w := w) hs'.2 (fun t ht => hz t (by simp only [PyData.shownAll]; exact List.mem_cons_of_mem _ ht))
    refine ⟨b1 ++ b2, ?_, ?_⟩
    · intro b hm
      simp only [PyData.depthAll]
      rcases List.mem_append.mp hm with hm | hm
      · obtain ⟨d', as', r', hd'⟩ := hb1 b hm
        exact ⟨d', as', r', Nat.le_trans hd' (Nat.le_max_left _ _)⟩
      · obtain ⟨d', as', r', hd'⟩ := hb2 b hm
        exact ⟨d', as', r', Nat.le_trans hd' (Nat.le_max_right _ _)⟩
    · simp only [PyData.depthAll, PyData.shownAll]
      exact .cons ((k1.more fun b hb => List.mem_append_left _ hb).level_le (Nat.le_max_left _ _)) (k2.more_le (fun b hb => List.mem_append_right _ hb) (Nat.le_max_right _ _))
section
variable {X : Cx} {pins : List (Addr × Obj)} {σ : L2.St}
  {H : Hp} {s : Shared}
theorem dict0_reads (I : Inv X pins σ H s) {b : Addr} (e : H b = some (.dK [])) :
    Reads s.heap (.ref b) (.dict []) [b] ∧ b ≠ sysModules := by
  obtain ⟨_, hs, vs, kv, o, es, ep, h1, h2, h3, _, hp, _⟩ : ObjOk X.prog X.w H s.heap b (.dK []) := I.hok b _ e
  cases kv
  cases hl : es.toList with
  | nil =>
    refine ⟨?_, by simpa using hs⟩
    have z := Reads.dict (h := s.heap) (kvs := []) h1 h2.1 h3 (as := []) (bs := []) (by rw [hl]; exact .nil) (by rw [hl]; exact .nil)
    simpa using z
  | cons x r =>
    rw [hl] at hp
    cases hp
theorem dict1_reads (I : Inv X pins σ H s) {b : Addr} {i j : Int} (e : H b = some (.dK [(.inl i, .int j)])) :
    Reads s.heap (.ref b) (.dict [(.int i, .int j)]) [b] ∧ b ≠ sysModules := by
  obtain ⟨_, hs, vs, kv, o, es, ep, h1, h2, h3, _, hp, _⟩ : ObjOk X.prog X.w H s.heap b (.dK [(.inl i, .int j)]) := I.hok b _ e
  match vs, kv with
  | [(qk, qv)], .cons k1 .nil =>
    obtain ⟨k2, tj, rfl⟩ : Sum.inl i = qk ∧ ∃ t, qv = Value.int j t := k1
    subst k2
    cases hl : es.toList with
    | nil => rw [hl] at hp; cases hp
    | cons x r =>
      rw [hl] at hp
      cases hp with
      | cons a1 a2 a3 =>
        cases a3
        refine ⟨?_, by simpa using hs⟩
        obtain ⟨hh, key, val⟩ := x
        obtain ⟨ti, rfl⟩ := Value.isInt_shape (k := i) (v := key) a1
        obtain rfl : val = Value.int j tj := a2
        have z := Reads.dict (h := s.heap) (kvs := [(.int i, .int j)]) h1 h2.1 h3 (as := [] ++ []) (bs := [] ++ []) (by rw [hl]; exact .cons (.int i ti) .nil) (by rw [hl]; exact .cons (.int j tj) .nil)
        simpa using z
theorem OddAll.reads (I : Inv X pins σ H s) : ∀ {vs : List V} {ds : List PyData} {us : List Value}, OddAll X.K H vs ds → Vals vs us → ReadsM s.heap us ds
  | _, _, _, .nil, .nil => .nil
  | _, _, _, .int i _ r, .cons rv rr => by
    obtain ⟨t, rfl⟩ := rv
    exact .cons (.int i t) (fun h => by simp [PyData.hasDict] at h) (r.reads I rr)
  | _, _, _, .dct (b := b) e r, .cons rv rr => by
    obtain rfl := rv
    obtain ⟨z1, n1⟩ := dict0_reads I e
    exact .cons z1 (fun _ => by simp [Ne.symm n1]) (r.reads I rr)
  | _, _, _, .dat e _ h2 _ r, .cons rv rr => by
    obtain ⟨as, z⟩ := Dp.reads I _ _ _ e rv
    exact .cons z (fun h => by rw [h2] at h; cases h) (r.reads I rr)
/-- a dict of one item, its value told -/
theorem dict1v_repr (hG : X.A.guards = some []) (hu : X.A.units + 64 < cLine) (I : Inv X pins σ H s) {b : Addr} {i : Int} {v : V} {d : PyData} (e : H b = some (.dK [(.inl i, v)]))
    (hi : i.natAbs.log2 < 1920) (hv : Dp X.K H v d) (hs : d.showable = true) (hd : d.hasDict = false) (hp : d.depth ≤ 20) (hz : (PyData.shown (.dict [(.int i, d)])).length ≤ sizeLine)
    {E : Value → Shared → Prop} {Q : Value → Shared → Prop}
    (hQ : ∀ h' u tk, (∀ b o, s.heap.get? b = some o → h'.get? b = some o) → Q (.str (PyData.shown (.dict [(.int i, d)])) u) { s with heap := h', toks := tk }) :
    wpAny (model X.prog X.w) X.A (call (.builtin "repr") [.ref b]) Q E s := by
  obtain ⟨_, hsys, vs, kv, o, es, ep, h1, h2, h3, _, hq, _⟩ : ObjOk X.prog X.w H s.heap b (.dK [(.inl i, v)]) := I.hok b _ e
  match vs, kv with
  | [(qk, qv)], .cons k1 .nil =>
    obtain ⟨k2, rv⟩ : Sum.inl i = qk ∧ RelV v qv := k1
    subst k2
    cases hl : es.toList with
    | nil => rw [hl] at hq; cases hq
    | cons x r =>
      rw [hl] at hq
      cases hq with
      | cons a1 a2 a3 =>
        cases a3
        obtain ⟨hh, key, val⟩ := x
        obtain ⟨ti, rfl⟩ := Value.isInt_shape (k := i) (v := key) a1
        obtain rfl : val = qv := a2
        obtain ⟨as, rd⟩ := Dp.reads I _ _ _ hv rv
        have hz' : (dictText (PyData.shownKv [(PyData.int i, d)])).length ≤ sizeLine := by simpa only [PyData.shown] using hz
        have R4 : ReadsAll s.heap (es.toList.map (·.key)) ([(PyData.int i, d)].map (·.1)) ([] ++ []) := by rw [hl]; exact .cons (.int i ti) .nil
        have R5 : ReadsAll s.heap (es.toList.map (·.val)) ([(PyData.int i, d)].map (·.2)) (as ++ []) := by rw [hl]; exact .cons rd .nil
        obtain ⟨b1, hb1, k1⟩ := ReprAllK.of_readsAll (prog := X.prog) (w := X.w) R4 (by simp [PyData.showableAll, PyData.showable, hi]) (fun h => by simp [PyData.hasDictAll, PyData.hasDict] at h) (fun t ht => let ⟨p, hp, hl⟩ := PyData.shownKv_key_le _ t ht; Nat.le_trans hl (Nat.le_trans (dictText_mem_le hp) hz'))
        obtain ⟨b2, hb2, k2⟩ := ReprAllK.of_readsAll (prog := X.prog) (w := X.w) R5 (by simp [PyData.showableAll, hs]) (fun h => by simp [PyData.hasDictAll, hd] at h) (fun t ht => let ⟨p, hp, hl⟩ := PyData.shownKv_val_le _ t ht; Nat.le_trans hl (Nat.le_trans (dictText_mem_le hp) hz'))
        have hb : ReadAtMost s.heap (PyData.depthKv [(PyData.int i, d)]) (b1 ++ b2) := (hb1.mono (PyData.depthAll_keys_le _)).append (hb2.mono (PyData.depthAll_vals_le _))
        have R : Reads s.heap (.ref b) (.dict [(PyData.int i, d)]) _ := .dict h1 h2.1 h3 R4 R5
        have hna : b ∉ b1 ++ b2 := not_mem_of_deeper R (by simp only [PyData.depth]; omega) hb
        refine call_repr_slot (by omega) ⟨o, h1, h2.1⟩ F.slot_dict_repr ?_
        refine call_dict_reprK h1 h2.1 h3 hsys hna (ReprEntriesK.of_two es.toList _ _ (k1.more_le (fun b hb => List.mem_append_left _ hb) (PyData.depthAll_keys_le _)) (k2.more_le (fun b hb => List.mem_append_right _ hb) (PyData.depthAll_vals_le _))) hG (fun b _ => Clear.nil b) ?_ (fun _ _ e => e) (fun h' u tk z => ⟨_, _, rfl, ?_⟩) (by rw [← PyData.shownKv_eq]; exact hz')
        · show X.A.units + 1 + (PyData.depthKv [(PyData.int i, d)] + 1) < cLine
          simp only [PyData.depthKv, PyData.depth]; omega
        · have y := hQ h' u tk z
          simp only [PyData.shown, PyData.shownKv_eq] at y
          exact y
end
/-- a list's repr, its items told -/
theorem repr_items {prog : Program} {w : World} {h₀ : Heap} {a : Addr} {o : Obj} {l : List Value} {n : Nat} {ds : List PyData}
    {A : Around} {E : Value → Shared → Prop} {s : Shared} {Q : Value → Shared → Prop}
    (h1 : h₀.get? a = some o) (h2 : o.cls = .type "list") (h3 : o.data = .seq l.toArray n) (h4 : ReadsM h₀ l ds) (hl : l ≠ [])
    (hs : PyData.showableAll ds = true) (hg : A.guards = some [])
    (hd : PyData.depthAll ds ≤ 40) (hu : A.units + 64 < cLine) (hk : ∀ b o, h₀.get? b = some o → s.heap.get? b = some o)
    (hQ : ∀ h' u tk, (∀ b o, s.heap.get? b = some o → h'.get? b = some o) →
      Q (.str (PyData.shown (.list ds)) u) { s with heap := h', toks := tk })
    (hz : (PyData.shown (.list ds)).length ≤ sizeLine) :
    wpAny (model prog w) A (call (.builtin "repr") [.ref a]) Q E s := by
  have hz' : (listText (PyData.shownAll ds)).length ≤ sizeLine := by simpa only [PyData.shown] using hz
  obtain ⟨bs, hb, kk⟩ := h4.repr (prog := prog) (w := w) hs
    (fun t ht => Nat.le_trans (listText_mem_le ht) hz')
  obtain ⟨as, h5⟩ := h4.all
  have R : Reads h₀ (.ref a) (.list ds) (a :: as) := .list h1 h2 h3 h5
  have nb : a ∉ bs := not_mem_of_deeper R (by simp only [PyData.depth]; omega) hb
  refine call_repr_slot (by omega) ⟨o, hk _ _ h1, h2⟩ F.slot_list_repr.toG ?_
  match l, hl with
  | x :: l, _ =>
    refine call_list_reprK h1 h2 h3 nb (by simpa using kk.length_eq) (fun i y e => kk.item i y (by simpa using e)) hg
      (fun b _ => Clear.nil b) (by show A.units + 1 + (PyData.depthAll ds + 1) < cLine; omega) hk (fun h' u tk z => ⟨_, _, rfl, ?_⟩) hz'
    have y := hQ h' u tk z
    simp only [PyData.shown] at y
    exact y

/-- the text that repr tells of a value -/
inductive Sh (K : PySem.W.Frag) (H : Hp) : V → Str → Prop where
  | non : Sh K H .non "None"
  | bl (b : Bool) : Sh K H (.bl b) (if b = true then "True" else "False")
  | int (i : Int) : i.natAbs.log2 < 1920 → Sh K H (.int i) (toString i)
  | str (x : Str) : (reprText x).length ≤ sizeLine → Sh K H (.str x) (reprText x)
  | dat {a : Addr} {d : PyData} : Dp K H (.ref a) d → d.showable = true → d.hasDict = false → d.depth ≤ 60 →
      d.shown.length ≤ sizeLine → Sh K H (.ref a) d.shown
  | d0 {a : Addr} : H a = some (.dK []) → Sh K H (.ref a) (PyData.shown (.dict []))
  | d1 {a : Addr} (i j : Int) : H a = some (.dK [(.inl i, .int j)]) →
      i.natAbs.log2 < 1920 ∧ j.natAbs.log2 < 1920 → (PyData.shown (.dict [(.int i, .int j)])).length ≤ sizeLine →
      Sh K H (.ref a) (PyData.shown (.dict [(.int i, .int j)]))
  | d1v {a : Addr} (i : Int) {v : V} {d : PyData} : H a = some (.dK [(.inl i, v)]) → i.natAbs.log2 < 1920 → Dp K H v d → d.showable = true → d.hasDict = false → d.depth ≤ 20 →
      (PyData.shown (.dict [(.int i, d)])).length ≤ sizeLine → Sh K H (.ref a) (PyData.shown (.dict [(.int i, d)]))
  | odd {a : Addr} {xs : List V} {ds : List PyData} : H a = some (.lst xs) → xs ≠ [] → OddAll K H xs ds →
      (PyData.shown (.list ds)).length ≤ sizeLine → Sh K H (.ref a) (PyData.shown (.list ds))
theorem Sh.same {K : PySem.W.Frag} {H H' : Hp} {v : V} {t : Str} (s : Same H H') (x : Sh K H v t) : Sh K H' v t := by
  cases x with
  | non => exact .non
  | bl b => exact .bl b
  | int i h => exact .int i h
  | str y h => exact .str y h
  | dat h a b c e => exact .dat (dp_same s h) a b c e
  | d0 h => exact .d0 (s _ _ h)
  | d1 i j h y z => exact .d1 i j (s _ _ h) y z
  | d1v i h y e a b c z => exact .d1v i (s _ _ h) y (dp_same s e) a b c z
  | odd h n r z => exact .odd (s _ _ h) n (r.same s) z
section
variable {X : Cx}
theorem call_shown (hG : Quiet X.A) (hu : X.A.units + 64 < cLine) :
    CallR X (.builtin "repr") (fun xs H Q => ∃ v t, xs = [v] ∧ Sh X.K H v t ∧ Q (.str t) H) := by
  intro pins s σ H zs us Q I r h
  obtain ⟨v, t, rfl, hv, q⟩ := h
  obtain ⟨u', rfl, rx⟩ := vals1 r
  have fin : ∀ h' u tk, (∀ b o, s.heap.get? b = some o → h'.get? b = some o) →
      EP X pins σ Q (.str t u) { s with heap := h', toks := tk } :=
    fun h' u tk kk => ⟨.str t, H, I.kept (fun b o e => kk b o e), ⟨u, rfl⟩, q⟩
  cases hv with
  | non => obtain rfl := rx; exact PySem.P.repr_of_none ⟨.str _, H, I.tok _, ⟨_, rfl⟩, q⟩
  | bl b => obtain rfl := rx; exact PySem.P.repr_of_bool ⟨.str _, H, I.tok _, ⟨_, rfl⟩, q⟩
  | int i h => obtain ⟨t, rfl⟩ := rx; exact PySem.P.repr_of_int h ⟨.str _, H, I.tok _, ⟨_, rfl⟩, q⟩
  | str x h => obtain ⟨t, rfl⟩ := rx; exact PySem.P.repr_of_str ⟨.str _, H, I.tok _, ⟨_, rfl⟩, q⟩ h
  | @dat a d hd hs hn h60 hz =>
    exact call_repr hG hu pins s σ H _ _ Q I (.cons rx .nil) ⟨a, d, rfl, hd, hs, hn, h60, hz, q⟩
  | @d0 a h =>
    obtain rfl := rx
    obtain ⟨R, n⟩ := dict0_reads I h
    refine repr_of_reads' R (by decide) (fun _ => by simpa using Ne.symm n) hG ?_ (fun _ _ e => e) fin (by decide +kernel)
    exact Nat.lt_of_le_of_lt (Nat.add_le_add_left (by decide) _) hu
  | @d1 a i j h y z =>
    obtain rfl := rx
    obtain ⟨R, n⟩ := dict1_reads I h
    refine repr_of_reads' R (by simp [PyData.showable, PyData.showableKv, y]) (fun _ => by simpa using Ne.symm n) hG ?_ (fun _ _ e => e) fin z
    refine Nat.lt_of_le_of_lt (Nat.add_le_add_left ?_ _) hu
    simp [PyData.depth, PyData.depthKv]
  | @d1v a i v d h y e hs hd hp z =>
    obtain rfl := rx
    exact dict1v_repr hG hu I h y e hs hd hp z fin
  | @odd a xs ds h nx ho z =>
    obtain rfl := rx
    obtain ⟨_, its, n, rv, e⟩ : ObjOk X.prog X.w H s.heap a (.lst xs) := I.hok a _ h
    refine repr_items e rfl rfl (ho.reads I rv) (fun z => ?_) ho.showable hG (Nat.le_trans ho.depth (by decide)) hu (fun _ _ e => e) fin z
    subst z
    cases rv
    exact nx rfl
end
end Kr
/-! Values that are made in a row: each is looked at as a line, and shown. -/
namespace Kr
open PySem PySem.Spec
open PyProof.Rows L2

def Good (K : PySem.W.Frag) (H : Hp) (v : V) : Prop := ∃ b t, Val H v b ∧ Sh K H v t
theorem Good.same {K : PySem.W.Frag} {H H' : Hp} {v : V} (s : Same H H') : Good K H v → Good K H' v
  | ⟨b, t, x, y⟩ => ⟨b, t, x.same s, y.same s⟩
/-- such a value comes, whatever else has come -/
def GE (K : PySem.W.Frag) (te : TE) (σ : L2.St) (H : Hp) : Prop :=
  ∀ H1, Same H H1 → ∀ Q : VK, (∀ v H2, Same H1 H2 → Good K H2 v → Q v H2) → te σ H1 Q
def GA (K : PySem.W.Frag) (ta : TA) (n : Nat) (σ : L2.St) (H : Hp) : Prop :=
  ∀ H1, Same H H1 → ∀ Q : List V → Hp → Prop,
    (∀ vs H2, Same H1 H2 → vs.length = n → (∀ v ∈ vs, Good K H2 v) → Q vs H2) → ta σ H1 Q
theorem ga_nil {K : PySem.W.Frag} {σ : L2.St} {H : Hp} : GA K tNil 0 σ H :=
  fun H1 s Q q => q [] H1 (Same.refl _) rfl fun v h => nomatch h
theorem ga_cons {K : PySem.W.Frag} {σ : L2.St} {H : Hp} {te : TE} {ta : TA} {n : Nat} (h : GE K te σ H) (r : GA K ta n σ H) :
    GA K (tCons te ta) (n + 1) σ H := fun H1 s Q q =>
  h H1 s _ fun v H2 s2 gv => r H2 (s.trans s2) _ fun vs H3 s3 l gs => q (v :: vs) H3 (s2.trans s3) (by rw [List.length_cons, l]) fun y hy => by
    rcases List.mem_cons.mp hy with e | hy
    · rw [e]; exact gv.same s3
    · exact gs y hy
theorem GA.use {K : PySem.W.Frag} {σ : L2.St} {H : Hp} {ta : TA} {n : Nat} {Q : List V → Hp → Prop} (g : GA K ta n σ H)
    (q : ∀ vs H2, Same H H2 → vs.length = n → (∀ v ∈ vs, Good K H2 v) → Q vs H2) : ta σ H Q := g H (Same.refl _) Q q

theorem GA.lst {K : PySem.W.Frag} {σ : L2.St} {H : Hp} {ta : TA} {n : Nat} {Q : VK} (g : GA K ta n σ H) (hn : n ≤ 1000)
    (q : ∀ vs H2 r, Same H H2 → vs.length = n → (∀ v ∈ vs, Good K H2 v) → H2 r = none → Q (.ref r) (upd H2 r (.lst vs))) : tLst ta σ H Q :=
  g.use fun vs H2 s l gs => ⟨Nat.le_of_lt (small1000 (by omega)), fun r nr => q vs H2 r s l gs nr⟩

/-- an item that is small -/
def It (K : PySem.W.Frag) (H : Hp) (x : V) : Prop := ∃ d k, Dp K H x d ∧ Kd H x k ∧ d.showable = true ∧ d.hasDict = false ∧
  d.depth ≤ 5 ∧ d.leavesShort 13 = true ∧ d.bulk ≤ 100
theorem It.same {K : PySem.W.Frag} {H H' : Hp} {x : V} (s : Same H H') : It K H x → It K H' x
  | ⟨d, k, a, b, r⟩ => ⟨d, k, dp_same s a, b.same s, r⟩
theorem log2_small {n : Nat} (h : n ≤ 1000000000) : n.log2 < 1920 := by
  by_cases z : n = 0
  · subst z; decide
  · exact (Nat.log2_lt z).mpr (Nat.lt_of_le_of_lt h (Nat.lt_of_lt_of_le (show 1000000000 < 2 ^ 40 by decide) (Nat.pow_le_pow_right (by decide) (by decide))))
theorem it_int {K : PySem.W.Frag} {H : Hp} {z : Int} (h : z.natAbs ≤ 1000000000) : It K H (.int z) :=
  ⟨.int z, "int", .int z, .int z, by simpa [PyData.showable] using log2_small h, by simp [PyData.hasDict], by simp [PyData.depth],
    by simpa only [PyData.leavesShort, decide_eq_true_eq] using PyData.shown_int_le2 (by omega) (by omega), by simp [PyData.bulk]⟩
theorem it_bl {K : PySem.W.Frag} {H : Hp} (b : Bool) : It K H (.bl b) := ⟨.bool b, "bool", .bl b, .bl b, by cases b <;> decide, by cases b <;> decide, by cases b <;> decide, by cases b <;> decide, by cases b <;> decide⟩
theorem it_non {K : PySem.W.Frag} {H : Hp} : It K H .non := ⟨.none, "NoneType", .non, .non, by decide, by decide, by decide, by decide, by decide⟩
theorem it_str1 {K : PySem.W.Frag} {H : Hp} : It K H (.str "1") := ⟨.str "1", "str", .str _, .str _, by decide, by decide, by decide, by decide +kernel, by decide +kernel⟩
theorem it_lst0 {K : PySem.W.Frag} {H : Hp} {a : Addr} (e : H a = some (.lst [])) : It K H (.ref a) :=
  ⟨.list [], "list", .lst (SqL.of e) .nil, .lst e, by decide, by decide, by decide, by decide, by decide⟩
theorem it_lst1 {K : PySem.W.Frag} {H : Hp} {a : Addr} (e : H a = some (.lst [.int 1])) : It K H (.ref a) :=
  ⟨.list [.int 1], "list", .lst (SqL.of e) (.cons (.int 1) .nil), .lst e, by decide, by decide, by decide, by decide +kernel, by decide⟩
theorem it_tup0 {K : PySem.W.Frag} {H : Hp} {a : Addr} (e : H a = some (.tup [])) : It K H (.ref a) :=
  ⟨.tuple [], "tuple", .tup (SqT.of e) .nil, .tup e, by decide, by decide, by decide, by decide, by decide⟩
/-- .. all of them together -/
theorem its_all {K : PySem.W.Frag} {H : Hp} : ∀ {xs : List V}, (∀ x ∈ xs, It K H x) → ∃ ds, DpAll K H xs ds ∧ PyData.showableAll ds = true ∧
    PyData.hasDictAll ds = false ∧ PyData.depthAll ds ≤ 5 ∧ PyData.leavesShortAll 13 ds = true ∧ PyData.bulkAll ds ≤ 101 * xs.length
  | [], _ => ⟨[], .nil, by simp [PyData.showableAll], by simp [PyData.hasDictAll], by simp [PyData.depthAll], by simp [PyData.leavesShortAll], by simp [PyData.bulkAll]⟩
  | x :: xs, h => by
    obtain ⟨ds, h1, h2, h3, h4, h5, h6⟩ := its_all (xs := xs) fun y hy => h y (List.mem_cons_of_mem _ hy)
    obtain ⟨d, k, a1, _, a2, a3, a4, a5, a6⟩ := h x List.mem_cons_self
    refine ⟨d :: ds, .cons a1 h1, by simp [PyData.showableAll, a2, h2], by simp [PyData.hasDictAll, a3, h3], ?_, by simp [PyData.leavesShortAll, a5, h5], ?_⟩
    · simp only [PyData.depthAll]; omega
    · simp only [PyData.bulkAll, List.length_cons]; omega
theorem pow20 : (2 : Nat) ^ 20 = 1048576 := by decide
theorem good_lst {K : PySem.W.Frag} {H : Hp} {a : Addr} {xs : List V} (e : H a = some (.lst xs)) (h : ∀ x ∈ xs, It K H x)
    (l : xs.length ≤ 40) : Good K H (.ref a) := by
  obtain ⟨ds, h1, h2, h3, h4, h5, h6⟩ := its_all h
  refine ⟨_, _, .lst e (fun x hx => ?_) (by omega), .dat (d := .list ds) (.lst (SqL.of e) h1) (by simpa [PyData.showable] using h2) (by simpa [PyData.hasDict] using h3) (by simp only [PyData.depth]; omega) ?_⟩
  · obtain ⟨d, k, _, hk, _⟩ := h x hx
    exact ⟨k, hk⟩
  · exact PyData.shown_fits_bulk (B := 13) (by decide) (by decide) (by simpa [PyData.leavesShort] using h5) (by simp only [PyData.bulk]; rw [pow20]; omega)
theorem good_tup {K : PySem.W.Frag} {H : Hp} {a : Addr} {xs : List V} (e : H a = some (.tup xs)) (h : ∀ x ∈ xs, It K H x)
    (l : xs.length ≤ 40) : Good K H (.ref a) := by
  obtain ⟨ds, h1, h2, h3, h4, h5, h6⟩ := its_all h
  refine ⟨_, _, .tup e (fun x hx => ?_) (by omega), .dat (d := .tuple ds) (.tup (SqT.of e) h1) (by simpa [PyData.showable] using h2) (by simpa [PyData.hasDict] using h3) (by simp only [PyData.depth]; omega) ?_⟩
  · obtain ⟨d, k, _, hk, _⟩ := h x hx
    exact ⟨k, hk⟩
  · exact PyData.shown_fits_bulk (B := 13) (by decide) (by decide) (by simpa [PyData.leavesShort] using h5) (by simp only [PyData.bulk]; rw [pow20]; omega)
/-- a value of another kind, or small -/
def OddV (K : PySem.W.Frag) (H : Hp) (v : V) : Prop := It K H v ∨ ∃ b, v = .ref b ∧ H b = some (.dK [])
theorem OddV.same {K : PySem.W.Frag} {H H' : Hp} {x : V} (s : Same H H') : OddV K H x → OddV K H' x
  | .inl h => .inl (h.same s)
  | .inr ⟨b, e, h⟩ => .inr ⟨b, e, s _ _ h⟩
/-- small ints -/
def SI (x : V) : Prop := ∃ z : Int, x = .int z ∧ z.natAbs ≤ 1000000000
theorem SI.it {K : PySem.W.Frag} {H : Hp} {x : V} : SI x → It K H x
  | ⟨z, e, h⟩ => by rw [e]; exact it_int h
theorem shortInts {K : PySem.W.Frag} : ∀ {H : Hp} {xs : List V} {b : Addr}, H b = some (.dK []) → ∀ ys : List V, (∀ x ∈ xs, SI x) → (∀ x ∈ ys, SI x) →
    ∃ ds, OddAll K H (xs ++ [.ref b] ++ ys) ds ∧ PyData.leavesShortAll 13 ds = true ∧ PyData.bulkAll ds ≤ 101 * (xs.length + ys.length + 1) := by
  intro H xs b e ys hx hy
  have rowI : ∀ zs : List V, (∀ x ∈ zs, SI x) → ∀ {us : List V} {ds : List PyData}, OddAll K H us ds → PyData.leavesShortAll 13 ds = true →
      ∃ es, OddAll K H (zs ++ us) es ∧ PyData.leavesShortAll 13 es = true ∧ PyData.bulkAll es ≤ 101 * zs.length + PyData.bulkAll ds := by
    intro zs
    induction zs with
    | nil => exact fun _ us ds h l => ⟨ds, h, l, by simp⟩
    | cons z zs ih =>
      intro h us ds ho l
      obtain ⟨es, h1, h2, h3⟩ := ih (fun x hx => h x (List.mem_cons_of_mem _ hx)) ho l
      obtain ⟨i, rfl, hi⟩ := h z List.mem_cons_self
      refine ⟨.int i :: es, .int i (log2_small hi) h1, ?_, ?_⟩
      · have y : PyData.leavesShort 13 (.int i) = true := by simpa only [PyData.leavesShort, decide_eq_true_eq] using PyData.shown_int_le2 (by omega) (by omega)
        simp [PyData.leavesShortAll, y, h2]
      · simp only [PyData.bulkAll, PyData.bulk, List.length_cons]; omega
  obtain ⟨ds, h1, h2, h3⟩ := rowI ys hy (us := []) (ds := []) .nil (by simp [PyData.leavesShortAll])
  rw [List.append_nil] at h1
  have z : OddAll K H (.ref b :: ys) (.dict [] :: ds) := .dct e h1
  obtain ⟨es, g1, g2, g3⟩ := rowI xs hx z (by simp [PyData.leavesShortAll, PyData.leavesShort, PyData.leavesShortKv, h2])
  refine ⟨es, by simpa using g1, g2, ?_⟩
  simp only [PyData.bulkAll, PyData.bulk, PyData.bulkKv] at g3 h3
  omega
theorem good_odd {K : PySem.W.Frag} {H : Hp} {a : Addr} {xs ys : List V} {v : V} (e : H a = some (.lst (xs ++ [v] ++ ys)))
    (hv : OddV K H v) (hx : ∀ x ∈ xs, SI x) (hy : ∀ x ∈ ys, SI x) (l : xs.length + ys.length ≤ 30) : Good K H (.ref a) := by
  rcases hv with hv | ⟨b, rfl, hb⟩
  · refine good_lst e (fun x hm => ?_) (by simp; omega)
    simp only [List.mem_append, List.mem_cons, List.not_mem_nil, or_false] at hm
    rcases hm with (hm | hm) | hm
    · exact (hx x hm).it
    · rw [hm]; exact hv
    · exact (hy x hm).it
  · obtain ⟨ds, h1, h2, h3⟩ := shortInts hb ys hx hy
    refine ⟨_, _, .lst e (fun x hm => ?_) (by simp; omega), .odd e (by simp) h1 ?_⟩
    · simp only [List.mem_append, List.mem_cons, List.not_mem_nil, or_false] at hm
      rcases hm with (hm | hm) | hm
      · obtain ⟨z, rfl, _⟩ := hx x hm; exact ⟨_, .int z⟩
      · rw [hm]; exact ⟨_, .dct hb⟩
      · obtain ⟨z, rfl, _⟩ := hy x hm; exact ⟨_, .int z⟩
    · exact PyData.shown_fits_bulk (B := 13) (by decide) (by decide) (by simpa [PyData.leavesShort] using h2) (by simp only [PyData.bulk]; rw [pow20]; omega)
theorem cut_mem {xs : List V} {lo hi : Option Int} {x : V} (h : x ∈ cutV xs lo hi) : x ∈ xs :=
  List.mem_of_mem_drop (List.mem_of_mem_take h)
theorem cut_si {xs : List V} {lo hi : Option Int} (h : ∀ x ∈ xs, SI x) : ∀ x ∈ cutV xs lo hi, SI x := fun x hx => h x (cut_mem hx)
theorem rep_si {xs : List V} {n : Nat} (h : ∀ x ∈ xs, SI x) : ∀ x ∈ (List.replicate n xs).flatten, SI x := fun x hx => by
  obtain ⟨l, h1, h2⟩ := List.mem_flatten.mp hx
  rw [List.eq_of_mem_replicate h1] at h2
  exact h x h2
theorem si_one (z : Int) (h : z.natAbs ≤ 1000000000) : ∀ x ∈ [V.int z], SI x := fun x hx => by
  have e : x = .int z := by simpa using hx
  exact ⟨z, e, h⟩
theorem si_app {xs ys : List V} (h1 : ∀ x ∈ xs, SI x) (h2 : ∀ x ∈ ys, SI x) : ∀ x ∈ xs ++ ys, SI x := fun x hx =>
  (List.mem_append.mp hx).elim (h1 x) (h2 x)
theorem si_map {ns : List Int} (h : ∀ z ∈ ns, z.natAbs ≤ 1000000000) : ∀ x ∈ ns.map V.int, SI x := fun x hx => by
  obtain ⟨z, hz, rfl⟩ := List.mem_map.mp hx
  exact ⟨z, rfl, h z hz⟩
theorem good_si {K : PySem.W.Frag} {H : Hp} {a : Addr} {xs : List V} (e : H a = some (.lst xs)) (h : ∀ x ∈ xs, SI x)
    (l : xs.length ≤ 40) : Good K H (.ref a) := good_lst e (fun x hx => (h x hx).it) l
theorem good_sc {K : PySem.W.Frag} {H : Hp} {v : V} {k : String} {t : Str} (hk : Kd H v k) (e : isLT k = false) (h : Sh K H v t) : Good K H v :=
  ⟨false, t, .oth hk e, h⟩
end Kr
/-! Polynomials as lists of ints, their numbers as functions. -/
namespace Kr
abbrev Fn := Nat → Int
def co (p : List Int) : Fn := fun i => p.getD i 0
/-- no nought at the end -/
def Cn (p : List Int) : Prop := ∀ z, p.getLast? = some z → z ≠ 0
theorem co_nil : co [] = fun _ => 0 := by funext i; simp [co]
theorem co_big {p : List Int} {i : Nat} (h : p.length ≤ i) : co p i = 0 := by simp [co, List.getD, List.getElem?_eq_none h]
theorem co_at {p : List Int} {i : Nat} (h : i < p.length) : co p i = p[i] := by simp [co, List.getD, h]
theorem co_0 (a : Int) (p : List Int) : co (a :: p) 0 = a := by simp [co]
theorem co_s (a : Int) (p : List Int) (i : Nat) : co (a :: p) (i + 1) = co p i := by simp [co]
theorem cn_last {p : List Int} (c : Cn p) (h : p ≠ []) : co p (p.length - 1) ≠ 0 := by
  have l : 0 < p.length := List.length_pos_iff.mpr h
  rw [co_at (by omega)]
  refine c _ ?_
  rw [List.getLast?_eq_some_getLast h, List.getLast_eq_getElem]
theorem co_ext {p q : List Int} (cp : Cn p) (cq : Cn q) (h : ∀ i, co p i = co q i) : p = q := by
  have key : ∀ {p q : List Int}, Cn q → (∀ i, co p i = co q i) → ¬ p.length < q.length := by
    intro p q cq h l
    have hq : q ≠ [] := by intro e; rw [e] at l; exact absurd l (Nat.not_lt_zero _)
    have := cn_last cq hq
    rw [← h, co_big (by omega)] at this
    exact this rfl
  have l1 := key cq h
  have l2 := key cp fun i => (h i).symm
  refine List.ext_getElem (by omega) fun i h1 h2 => ?_
  have := h i
  rwa [co_at h1, co_at h2] at this
theorem cn_nil : Cn [] := fun z h => nomatch h
theorem cn_of {p : List Int} (h : p ≠ [] → co p (p.length - 1) ≠ 0) : Cn p := fun z hz => by
  have hp : p ≠ [] := by intro e; rw [e] at hz; cases hz
  have l : 0 < p.length := List.length_pos_iff.mpr hp
  have := h hp
  rw [co_at (by omega)] at this
  rw [List.getLast?_eq_some_getLast hp, List.getLast_eq_getElem] at hz
  exact Option.some.inj hz ▸ this

/-! sums -/
def trim : List Int → List Int
  | [] => []
  | a :: p => if trim p = [] ∧ a = 0 then [] else a :: trim p
theorem co_trim : ∀ (p : List Int) (i : Nat), co (trim p) i = co p i
  | [], i => rfl
  | a :: p, i => by
    have ih := co_trim p
    unfold trim
    split
    · rename_i h
      cases i with
      | zero => rw [co_0, h.2]; simp [co]
      | succ i => rw [co_s, ← ih, h.1]; simp [co]
    · cases i with
      | zero => rw [co_0, co_0]
      | succ i => rw [co_s, co_s, ih]
theorem cn_trim : ∀ p : List Int, Cn (trim p)
  | [] => cn_nil
  | a :: p => by
    have ih := cn_trim p
    unfold trim
    split
    · exact cn_nil
    · rename_i h
      intro z hz
      by_cases e : trim p = []
      · rw [e] at hz
        have : a = z := by simpa using hz
        intro z0
        exact h ⟨e, by omega⟩
      · rw [List.getLast?_cons, List.getLast?_eq_some_getLast e] at hz
        refine ih z ?_
        rw [List.getLast?_eq_some_getLast e]
        simpa using hz
theorem trim_length : ∀ p : List Int, (trim p).length ≤ p.length
  | [] => Nat.le_refl _
  | a :: p => by
    have ih := trim_length p
    unfold trim
    split
    · exact Nat.zero_le _
    · simp only [List.length_cons]; omega
theorem trim_cn {p : List Int} (c : Cn p) : trim p = p := co_ext (cn_trim p) c fun i => co_trim p i
theorem trim_ext {p q : List Int} (h : ∀ i, co p i = co q i) : trim p = trim q :=
  co_ext (cn_trim p) (cn_trim q) fun i => by rw [co_trim, co_trim, h]
theorem trim_mem : ∀ {p : List Int} {z : Int}, z ∈ trim p → z ∈ p
  | a :: p, z, h => by
    unfold trim at h
    split at h
    · cases h
    · rcases List.mem_cons.mp h with e | e
      · rw [e]; exact List.mem_cons_self
      · exact List.mem_cons_of_mem _ (trim_mem e)
def addF : List Int → List Int → List Int
  | [], q => q
  | a :: p, [] => a :: p
  | a :: p, b :: q => (a + b) :: addF p q
theorem co_add : ∀ (p q : List Int) (i : Nat), co (addF p q) i = co p i + co q i
  | [], q, i => by simp [addF, co]
  | a :: p, [], i => by simp [addF, co]
  | a :: p, b :: q, 0 => by simp [addF, co]
  | a :: p, b :: q, i + 1 => by simp only [addF, co_s]; exact co_add p q i
theorem addF_length : ∀ (p q : List Int), (addF p q).length = max p.length q.length
  | [], q => by simp [addF]
  | a :: p, [] => by simp [addF]
  | a :: p, b :: q => by simp only [addF, List.length_cons, addF_length p q]; omega
theorem addF_comm : ∀ (p q : List Int), addF p q = addF q p
  | [], [] => rfl
  | [], b :: q => rfl
  | a :: p, [] => rfl
  | a :: p, b :: q => by simp only [addF, addF_comm p q, Int.add_comm]
/-- as the program does it: the longer one ahead -/
theorem addF_zip : ∀ (p q : List Int), q.length ≤ p.length → addF p q = (List.zipWith (· + ·) p q) ++ p.drop q.length
  | [], [], _ => rfl
  | a :: p, [], _ => rfl
  | a :: p, b :: q, h => by
    simp only [addF, List.zipWith_cons_cons, List.length_cons, List.drop_succ_cons, List.cons_append]
    rw [addF_zip p q (by simpa using h)]
def sclF (c : Int) (p : List Int) : List Int := p.map (c * ·)
theorem co_scl (c : Int) : ∀ (p : List Int) (i : Nat), co (sclF c p) i = c * co p i
  | [], i => by simp [sclF, co]
  | a :: p, 0 => by simp [sclF, co]
  | a :: p, i + 1 => by
    show co (c * a :: sclF c p) (i + 1) = _
    rw [co_s, co_s, co_scl c p i]
theorem cn_scl {c : Int} {p : List Int} (hc : c ≠ 0) (h : Cn p) : Cn (sclF c p) := cn_of fun hp => by
  have e : (sclF c p).length = p.length := by simp [sclF]
  have hp2 : p ≠ [] := by intro z; rw [z] at hp; exact hp rfl
  rw [co_scl, e]
  exact Int.mul_ne_zero hc (cn_last h hp2)

/-! products -/
def cv : Fn → Fn → Fn
  | f, g, 0 => f 0 * g 0
  | f, g, i + 1 => f 0 * g (i + 1) + cv (fun n => f (n + 1)) g i
theorem cv_add_l : ∀ (i : Nat) (f f' g : Fn), cv (fun n => f n + f' n) g i = cv f g i + cv f' g i
  | 0, f, f', g => by simp only [cv]; grind
  | i + 1, f, f', g => by
    simp only [cv]
    have := cv_add_l i (fun n => f (n + 1)) (fun n => f' (n + 1)) g
    rw [this]; grind
theorem cv_scl_l (c : Int) : ∀ (i : Nat) (f g : Fn), cv (fun n => c * f n) g i = c * cv f g i
  | 0, f, g => by simp only [cv]; grind
  | i + 1, f, g => by
    simp only [cv]
    have := cv_scl_l c i (fun n => f (n + 1)) g
    rw [this]; grind
theorem cv_add_r : ∀ (i : Nat) (f g g' : Fn), cv f (fun n => g n + g' n) i = cv f g i + cv f g' i
  | 0, f, g, g' => by simp only [cv]; grind
  | i + 1, f, g, g' => by
    simp only [cv]
    rw [cv_add_r i (fun n => f (n + 1)) g g']; grind
theorem cv_right : ∀ (i : Nat) (f g : Fn), cv f g (i + 1) = f (i + 1) * g 0 + cv f (fun n => g (n + 1)) i
  | 0, f, g => by simp only [cv]; grind
  | i + 1, f, g => by
    have := cv_right i (fun n => f (n + 1)) g
    rw [cv, this]
    simp only [cv]; grind
theorem cv_comm : ∀ (i : Nat) (f g : Fn), cv f g i = cv g f i
  | 0, f, g => by simp only [cv]; grind
  | i + 1, f, g => by
    rw [cv_right i g f, cv, cv_comm i (fun n => f (n + 1)) g]; grind
theorem cv_assoc : ∀ (i : Nat) (f g h : Fn), cv (cv f g) h i = cv f (cv g h) i
  | 0, f, g, h => by simp only [cv]; grind
  | i + 1, f, g, h => by
    have e : (fun n => cv f g (n + 1)) = fun n => f 0 * g (n + 1) + cv (fun n => f (n + 1)) g n := by funext n; rfl
    have ih := cv_assoc i (fun n => f (n + 1)) g h
    rw [cv, e, cv_add_l i (fun n => f 0 * g (n + 1)) (cv (fun n => f (n + 1)) g) h, cv_scl_l (f 0) i (fun n => g (n + 1)) h, ih]
    simp only [cv]; grind
theorem cv_zero : ∀ (i : Nat) (g : Fn), cv (fun _ => 0) g i = 0
  | 0, g => by simp [cv]
  | i + 1, g => by simp [cv, cv_zero i g]
def dv (f : Fn) : Fn := fun i => ((i : Int) + 1) * f (i + 1)
theorem cv_slope : ∀ (i : Nat) (f g : Fn), dv (cv f g) i = cv (dv f) g i + cv f (dv g) i
  | 0, f, g => by simp only [dv, cv]; grind
  | i + 1, f, g => by
    have ih := cv_slope i (fun n => f (n + 1)) g
    have e : (fun n => dv f (n + 1)) = fun n => dv (fun n => f (n + 1)) n + f (n + 2) := by
      funext n
      show (((n + 1 : Nat) : Int) + 1) * f (n + 2) = ((n : Int) + 1) * f (n + 2) + f (n + 2)
      grind
    have a1 : cv (dv f) g (i + 1) = dv f 0 * g (i + 1) + cv (fun n => dv f (n + 1)) g i := rfl
    have a2 : cv f (dv g) (i + 1) = f 0 * dv g (i + 1) + cv (fun n => f (n + 1)) (dv g) i := rfl
    rw [a1, a2, e, cv_add_l i (dv fun n => f (n + 1)) (fun n => f (n + 2)) g]
    have a3 : cv (fun n => f (n + 1)) g (i + 1) = f 1 * g (i + 1) + cv (fun n => f (n + 2)) g i := rfl
    have a4 : dv (cv f g) (i + 1) = (((i + 1 : Nat) : Int) + 1) * (f 0 * g (i + 2) + cv (fun n => f (n + 1)) g (i + 1)) := rfl
    have a5 : dv (cv (fun n => f (n + 1)) g) i = ((i : Int) + 1) * cv (fun n => f (n + 1)) g (i + 1) := rfl
    have a6 : dv f 0 = f 1 := by simp [dv]
    have a7 : dv g (i + 1) = (((i + 1 : Nat) : Int) + 1) * g (i + 2) := rfl
    rw [a5] at ih
    rw [a4, a6, a7]
    grind
theorem cv_vanish : ∀ (a b : Nat) (f g : Fn), (∀ k, a < k → f k = 0) → (∀ k, b < k → g k = 0) →
    cv f g (a + b) = f a * g b ∧ ∀ k, a + b < k → cv f g k = 0
  | 0, b, f, g, hf, hg => by
    have z : (fun n => f (n + 1)) = fun _ => 0 := by funext n; exact hf _ (Nat.succ_pos n)
    have all : ∀ k, cv f g k = f 0 * g k := by
      intro k
      cases k with
      | zero => rfl
      | succ k => rw [cv, z, cv_zero, Int.add_zero]
    exact ⟨by rw [Nat.zero_add, all], fun k hk => by rw [all, hg k (by omega), Int.mul_zero]⟩
  | a + 1, b, f, g, hf, hg => by
    obtain ⟨h1, h2⟩ := cv_vanish a b (fun n => f (n + 1)) g (fun k hk => hf _ (by omega)) hg
    refine ⟨?_, fun k hk => ?_⟩
    · rw [show a + 1 + b = (a + b) + 1 by omega, cv, h1, hg _ (by omega), Int.mul_zero, Int.zero_add]
    · obtain ⟨k, rfl⟩ : ∃ j, k = j + 1 := ⟨k - 1, by omega⟩
      rw [cv, h2 k (by omega), hg _ (by omega)]; simp
/-- the product of two lists, as the program lays it -/
def mulF (p q : List Int) : List Int := if p = [] ∨ q = [] then [] else (List.range (p.length + q.length - 1)).map (cv (co p) (co q))
theorem co_van (p : List Int) : ∀ k, p.length - 1 < k → co p k = 0 := fun k h => co_big (by omega)
theorem co_tab (f : Fn) (n : Nat) (h : ∀ k, n ≤ k → f k = 0) : co ((List.range n).map f) = f := by
  funext i
  by_cases l : i < n
  · rw [co_at (by simpa using l)]; simp
  · rw [co_big (by simp; omega), h i (by omega)]
theorem co_mul (p q : List Int) : co (mulF p q) = cv (co p) (co q) := by
  unfold mulF
  split
  · rename_i h
    funext i
    rcases h with h | h
    · rw [h, co_nil, cv_zero]
    · rw [h, cv_comm, co_nil, cv_zero]
  · rename_i h
    have hp : 0 < p.length := List.length_pos_iff.mpr fun e => h (.inl e)
    have hq : 0 < q.length := List.length_pos_iff.mpr fun e => h (.inr e)
    exact co_tab _ _ fun k hk => (cv_vanish _ _ _ _ (co_van p) (co_van q)).2 k (by omega)
theorem mulF_length {p q : List Int} (hp : p ≠ []) (hq : q ≠ []) : (mulF p q).length = p.length + q.length - 1 := by
  unfold mulF
  rw [if_neg (fun h => h.elim hp hq)]; simp
theorem mulF_le (p q : List Int) : (mulF p q).length ≤ p.length + q.length - 1 := by
  unfold mulF
  split <;> simp
theorem cn_mul {p q : List Int} (cp : Cn p) (cq : Cn q) : Cn (mulF p q) := cn_of fun h => by
  have hp : p ≠ [] := by intro e; rw [e] at h; exact h rfl
  have hq : q ≠ [] := by intro e; rw [e] at h; unfold mulF at h; exact h (by simp)
  have lp : 0 < p.length := List.length_pos_iff.mpr hp
  have lq : 0 < q.length := List.length_pos_iff.mpr hq
  rw [mulF_length hp hq, co_mul, show p.length + q.length - 1 - 1 = (p.length - 1) + (q.length - 1) by omega,
    (cv_vanish _ _ _ _ (co_van p) (co_van q)).1]
  exact Int.mul_ne_zero (cn_last cp hp) (cn_last cq hq)
theorem mulF_comm {p q : List Int} (cp : Cn p) (cq : Cn q) : mulF p q = mulF q p :=
  co_ext (cn_mul cp cq) (cn_mul cq cp) fun i => by rw [co_mul, co_mul, cv_comm]
theorem mulF_assoc {p q r : List Int} (cp : Cn p) (cq : Cn q) (cr : Cn r) : mulF (mulF p q) r = mulF p (mulF q r) :=
  co_ext (cn_mul (cn_mul cp cq) cr) (cn_mul cp (cn_mul cq cr)) fun i => by rw [co_mul, co_mul, co_mul, co_mul, cv_assoc]
theorem mulF_distrib {p q r : List Int} (cp : Cn p) (cq : Cn q) (cr : Cn r) : mulF p (trim (addF q r)) = trim (addF (mulF p q) (mulF p r)) :=
  co_ext (cn_mul cp (cn_trim _)) (cn_trim _) fun i => by
    have e : co (trim (addF q r)) = fun n => co q n + co r n := by funext n; rw [co_trim, co_add]
    rw [co_mul, e, cv_add_r, co_trim, co_add, co_mul, co_mul]
theorem mul_one_num {p : List Int} (c : Int) : mulF p [c] = if p = [] then [] else sclF c p := by
  by_cases h : p = []
  · simp [mulF, h]
  rw [if_neg h]
  have lp : 0 < p.length := List.length_pos_iff.mpr h
  refine List.ext_getElem (by rw [mulF_length h (by simp)]; simp [sclF]) fun i h1 h2 => ?_
  rw [← co_at h1, ← co_at h2, co_mul, co_scl, cv_comm]
  cases i with
  | zero => simp [cv, co]
  | succ i =>
    have z : (fun n => co [c] (n + 1)) = fun _ => 0 := by funext n; simp [co]
    rw [cv, z, cv_zero]; simp [co]

/-! slopes -/
def slF (p : List Int) : List Int := (List.range (p.length - 1)).map (dv (co p))
theorem co_sl (p : List Int) : co (slF p) = dv (co p) := co_tab _ _ fun k h => by
  show ((k : Int) + 1) * co p (k + 1) = 0
  rw [co_big (by omega), Int.mul_zero]
theorem slF_length (p : List Int) : (slF p).length = p.length - 1 := by simp [slF]
theorem cn_sl {p : List Int} (h : Cn p) : Cn (slF p) := cn_of fun hs => by
  have l : 0 < (slF p).length := List.length_pos_iff.mpr hs
  rw [slF_length] at l
  have hp : p ≠ [] := by intro e; rw [e] at l; exact absurd l (by simp)
  rw [slF_length, co_sl]
  show (((p.length - 1 - 1 : Nat) : Int) + 1) * co p (p.length - 1 - 1 + 1) ≠ 0
  rw [show p.length - 1 - 1 + 1 = p.length - 1 by omega]
  exact Int.mul_ne_zero (by omega) (cn_last h hp)
theorem sl_mul {p q : List Int} (cp : Cn p) (cq : Cn q) : slF (mulF p q) = trim (addF (mulF (slF p) q) (mulF p (slF q))) :=
  co_ext (cn_sl (cn_mul cp cq)) (cn_trim _) fun i => by
    rw [co_sl, co_mul, cv_slope, co_trim, co_add, co_mul, co_mul, co_sl, co_sl]

/-! values -/
def ev (x : Int) : List Int → Int
  | [] => 0
  | a :: p => a + x * ev x p
theorem ev_add (x : Int) : ∀ p q : List Int, ev x (addF p q) = ev x p + ev x q
  | [], q => by simp [addF, ev]
  | a :: p, [] => by simp [addF, ev]
  | a :: p, b :: q => by simp only [addF, ev, ev_add x p q]; grind
theorem ev_scl (x c : Int) : ∀ p : List Int, ev x (sclF c p) = c * ev x p
  | [] => by simp [sclF, ev]
  | a :: p => by
    have ih := ev_scl x c p
    show ev x (c * a :: sclF c p) = _
    simp only [ev, ih]; grind
theorem ev_zero (x : Int) : ∀ p : List Int, (∀ i, co p i = 0) → ev x p = 0
  | [], _ => rfl
  | a :: p, h => by
    have h0 := h 0
    rw [co_0] at h0
    simp only [ev, h0, ev_zero x p fun i => by have := h (i + 1); rwa [co_s] at this]
    grind
theorem ev_ext (x : Int) : ∀ p q : List Int, (∀ i, co p i = co q i) → ev x p = ev x q
  | [], q, h => by rw [ev_zero x q fun i => by rw [← h]; simp [co]]; rfl
  | a :: p, [], h => by rw [ev_zero x (a :: p) fun i => by rw [h]; simp [co]]; rfl
  | a :: p, b :: q, h => by
    have h0 := h 0
    rw [co_0, co_0] at h0
    simp only [ev, h0, ev_ext x p q fun i => by have := h (i + 1); rwa [co_s, co_s] at this]
theorem ev_trim (x : Int) (p : List Int) : ev x (trim p) = ev x p := ev_ext x _ _ (co_trim p)
theorem ev_mul (x : Int) : ∀ p q : List Int, ev x (mulF p q) = ev x p * ev x q
  | [], q => by simp [mulF, ev]
  | a :: p, q => by
    have ih := ev_mul x p q
    have e : ev x (mulF (a :: p) q) = ev x (addF (sclF a q) (0 :: mulF p q)) := ev_ext x _ _ fun i => by
      rw [co_mul, co_add, co_scl]
      cases i with
      | zero => rw [co_0, cv, co_0, Int.add_zero]
      | succ i =>
        have z : (fun n => co (a :: p) (n + 1)) = co p := by funext n; exact co_s a p n
        rw [co_s, cv, z, co_0, co_mul]
    rw [e, ev_add, ev_scl]
    simp only [ev, ih]; grind
/-- from behind, as the program reckons it -/
theorem ev_back (x : Int) (p : List Int) : p.reverse.foldl (fun v n => v * x + n) 0 = ev x p := by
  rw [List.foldl_reverse]
  induction p with
  | nil => rfl
  | cons a p ih => simp only [List.foldr_cons, ev, ih]; grind

/-! plain ones -/
def cnt (p : List Int) : Nat := p.foldr (fun z g => Nat.gcd z.natAbs g) 0
theorem cnt_dvd : ∀ {p : List Int} {z : Int}, z ∈ p → (cnt p : Int) ∣ z
  | a :: p, z, h => by
    rcases List.mem_cons.mp h with e | e
    · rw [e]; exact Int.dvd_natAbs.mp (Int.natCast_dvd_natCast.mpr (Nat.gcd_dvd_left _ _))
    · exact Int.dvd_trans (Int.natCast_dvd_natCast.mpr (Nat.gcd_dvd_right _ _)) (cnt_dvd e)
theorem cnt_scl (c : Int) : ∀ p : List Int, cnt (sclF c p) = c.natAbs * cnt p
  | [] => by simp [sclF, cnt]
  | a :: p => by
    have ih := cnt_scl c p
    show Nat.gcd (c * a).natAbs (cnt (sclF c p)) = c.natAbs * Nat.gcd a.natAbs (cnt p)
    rw [ih, Int.natAbs_mul, Nat.gcd_mul_left]
theorem cnt_zero : ∀ {p : List Int}, cnt p = 0 → ∀ z ∈ p, z = 0
  | a :: p, h, z, hz => by
    have h' : Nat.gcd a.natAbs (cnt p) = 0 := h
    obtain ⟨h1, h2⟩ := Nat.gcd_eq_zero_iff.mp h'
    rcases List.mem_cons.mp hz with e | e
    · rw [e]; omega
    · exact cnt_zero h2 z e
theorem cnt_pos {p : List Int} (c : Cn p) (h : p ≠ []) : 0 < cnt p := by
  apply Nat.pos_of_ne_zero
  intro e
  have l : 0 < p.length := List.length_pos_iff.mpr h
  have := cn_last c h
  rw [co_at (by omega)] at this
  exact this (cnt_zero e _ (List.getElem_mem _))
theorem cnt_le : ∀ {p : List Int} {z : Int}, z ∈ p → z ≠ 0 → cnt p ≤ z.natAbs := fun h h0 =>
  Nat.le_of_dvd (by omega) (Int.natCast_dvd_natCast.mp (Int.dvd_natAbs.mpr (cnt_dvd h)))
/-- by what a plain one is divided -/
def sgc (p : List Int) : Int := if co p (p.length - 1) < 0 then -(cnt p : Int) else cnt p
def plF (p : List Int) : List Int := p.map fun z => z.fdiv (sgc p)
theorem sgc_abs (p : List Int) : (sgc p).natAbs = cnt p := by unfold sgc; split <;> omega
theorem sgc_dvd {p : List Int} {z : Int} (h : z ∈ p) : sgc p ∣ z := by
  have := cnt_dvd h
  unfold sgc
  split
  · exact Int.neg_dvd.mpr this
  · exact this
theorem sgc_ne {p : List Int} (c : Cn p) (h : p ≠ []) : sgc p ≠ 0 := by
  have := cnt_pos c h
  have := sgc_abs p
  omega
theorem pl_scl {p : List Int} (c : Cn p) : sclF (sgc p) (plF p) = p := by
  by_cases h : p = []
  · rw [h]; rfl
  unfold sclF plF
  rw [List.map_map]
  refine (List.map_congr_left fun z hz => ?_).trans (List.map_id p)
  show sgc p * z.fdiv (sgc p) = z
  have := sgc_dvd hz
  obtain ⟨k, hk⟩ := this
  rw [hk, Int.mul_fdiv_cancel_left k (sgc_ne c h)]
theorem plF_length (p : List Int) : (plF p).length = p.length := by simp [plF]
theorem scl_inj {c : Int} (hc : c ≠ 0) {p q : List Int} (h : sclF c p = sclF c q) : p = q := by
  have l : p.length = q.length := by have := congrArg List.length h; simpa [sclF] using this
  refine List.ext_getElem l fun i h1 h2 => ?_
  have e : co (sclF c p) i = co (sclF c q) i := by rw [h]
  rw [co_scl, co_scl, co_at h1, co_at h2] at e
  exact Int.eq_of_mul_eq_mul_left hc e
theorem cn_pl {p : List Int} (c : Cn p) : Cn (plF p) := cn_of fun h0 e => by
  have hp : p ≠ [] := by intro z; rw [z] at h0; exact h0 rfl
  have l : 0 < p.length := List.length_pos_iff.mpr hp
  refine cn_last c hp ?_
  have z : co (sclF (sgc p) (plF p)) (p.length - 1) = co p (p.length - 1) := by rw [pl_scl c]
  rw [← z, co_scl, ← plF_length p, e, Int.mul_zero]
theorem pl_cnt {p : List Int} (c : Cn p) (h : p ≠ []) : cnt (plF p) = 1 := by
  have e := cnt_scl (sgc p) (plF p)
  rw [pl_scl c, sgc_abs] at e
  have := cnt_pos c h
  exact Nat.eq_of_mul_eq_mul_left this (by rw [Nat.mul_one]; exact e.symm)
theorem pl_lead {p : List Int} (c : Cn p) (h : p ≠ []) : 0 < co (plF p) (p.length - 1) := by
  have l : 0 < p.length := List.length_pos_iff.mpr h
  have z : sgc p * co (plF p) (p.length - 1) = co p (p.length - 1) := by rw [← co_scl, pl_scl c]
  have n0 := cn_last c h
  have cp := cnt_pos c h
  by_cases s : co p (p.length - 1) < 0
  · have e : sgc p = -(cnt p : Int) := if_pos s
    rw [e] at z
    apply Int.lt_of_not_ge
    intro w
    have : 0 ≤ -(cnt p : Int) * co (plF p) (p.length - 1) := Int.mul_nonneg_of_nonpos_of_nonpos (by omega) w
    omega
  · have e : sgc p = (cnt p : Int) := if_neg s
    rw [e] at z
    apply Int.lt_of_not_ge
    intro w
    have : (cnt p : Int) * co (plF p) (p.length - 1) ≤ 0 := Int.mul_nonpos_of_nonneg_of_nonpos (by omega) w
    omega
/-- one that is plain -/
theorem pl_of {p : List Int} (h1 : p ≠ [] → cnt p = 1 ∧ 0 < co p (p.length - 1)) : plF p = p := by
  by_cases h : p = []
  · rw [h]; rfl
  obtain ⟨a, b⟩ := h1 h
  have e : sgc p = 1 := by
    unfold sgc
    rw [if_neg (by omega), a]; rfl
  unfold plF
  rw [e]
  refine (List.map_congr_left fun z hz => ?_).trans (List.map_id p)
  exact Int.fdiv_one z
theorem pl_pl {p : List Int} (c : Cn p) : plF (plF p) = plF p := pl_of fun h => by
  have hp : p ≠ [] := by intro z; rw [z] at h; exact h rfl
  exact ⟨pl_cnt c hp, by rw [plF_length]; exact pl_lead c hp⟩
/-- plain ones that are a number times each other are alike -/
theorem pl_uniq {p q : List Int} {c d : Int} (cp : Cn p) (cq : Cn q) (hc : c ≠ 0) (hd : d ≠ 0) (e : sclF c p = sclF d q) (h0 : p ≠ [])
    (p1 : cnt p = 1) (p2 : 0 < co p (p.length - 1)) (q1 : cnt q = 1) (q2 : 0 < co q (q.length - 1)) : p = q := by
  have l : p.length = q.length := by have := congrArg List.length e; simpa [sclF] using this
  have a := cnt_scl c p
  rw [e, cnt_scl, p1, q1] at a
  have z : c * co p (p.length - 1) = d * co q (p.length - 1) := by rw [← co_scl, ← co_scl, e]
  rw [l] at z p2
  have cd : c = d := by
    rcases Int.lt_trichotomy c 0 with s | s | s
    · have : c * co p (q.length - 1) < 0 := Int.mul_neg_of_neg_of_pos s p2
      rcases Int.lt_trichotomy d 0 with t | t | t
      · omega
      · exact absurd t hd
      · have := Int.mul_pos t q2; omega
    · exact absurd s hc
    · have := Int.mul_pos s p2
      rcases Int.lt_trichotomy d 0 with t | t | t
      · have : d * co q (q.length - 1) < 0 := Int.mul_neg_of_neg_of_pos t q2
        omega
      · exact absurd t hd
      · omega
  rw [cd] at e
  exact scl_inj hd e
theorem pl_times {p : List Int} {c : Int} (cp : Cn p) (hc : c ≠ 0) : plF (sclF c p) = plF p := by
  by_cases h : p = []
  · rw [h]; rfl
  have ce := cn_scl hc cp
  have hs : sclF c p ≠ [] := by intro z; exact h (List.map_eq_nil_iff.mp z)
  have hp : plF (sclF c p) ≠ [] := by intro z; exact hs (List.map_eq_nil_iff.mp z)
  have e : sclF (sgc (sclF c p)) (plF (sclF c p)) = sclF (c * sgc p) (plF p) := by
    rw [pl_scl ce]
    conv => lhs; rw [← pl_scl cp]
    unfold sclF
    rw [List.map_map]
    exact List.map_congr_left fun z _ => by show c * (sgc p * z) = c * sgc p * z; rw [Int.mul_assoc]
  exact pl_uniq (cn_pl ce) (cn_pl cp) (sgc_ne ce hs) (Int.mul_ne_zero hc (sgc_ne cp h)) e hp (pl_cnt ce hs) (by rw [plF_length]; exact pl_lead ce hs) (pl_cnt cp h) (by rw [plF_length]; exact pl_lead cp h)

/-! bounds -/
def Bd (k : Nat) (p : List Int) : Prop := ∀ z ∈ p, z.natAbs < 2 ^ k
theorem Bd.mono {k j : Nat} {p : List Int} (h : Bd k p) (l : k ≤ j) : Bd j p := fun z hz => Nat.lt_of_lt_of_le (h z hz) (Nat.pow_le_pow_right (by decide) l)
theorem Bd.co {k : Nat} {p : List Int} (h : Bd k p) (i : Nat) : (co p i).natAbs < 2 ^ k := by
  by_cases l : i < p.length
  · rw [co_at l]; exact h _ (List.getElem_mem l)
  · rw [co_big (by omega)]; exact Nat.two_pow_pos k
theorem bd_of {k : Nat} {p : List Int} (h : ∀ i, (Kr.co p i).natAbs < 2 ^ k) : Bd k p := fun z hz => by
  obtain ⟨i, l, rfl⟩ := List.mem_iff_getElem.mp hz
  rw [← co_at l]; exact h i
theorem bd_trim {k : Nat} {p : List Int} (h : Bd k p) : Bd k (trim p) := fun z hz => h z (trim_mem hz)
theorem bd_add {k : Nat} {p q : List Int} (h : Bd k p) (g : Bd k q) : Bd (k + 1) (addF p q) := bd_of fun i => by
  rw [co_add]
  have := h.co i
  have := g.co i
  have := Int.natAbs_add_le (co p i) (co q i)
  rw [Nat.pow_succ]; omega
theorem bd_scl {k j : Nat} {c : Int} {p : List Int} (hc : c.natAbs < 2 ^ j) (h : Bd k p) : Bd (j + k) (sclF c p) := bd_of fun i => by
  rw [co_scl, Int.natAbs_mul, Nat.pow_add]
  have h2 := h.co i
  have a : c.natAbs * (co p i).natAbs ≤ c.natAbs * 2 ^ k := Nat.mul_le_mul_left _ (Nat.le_of_lt h2)
  have b : c.natAbs * 2 ^ k < 2 ^ j * 2 ^ k := Nat.mul_lt_mul_of_pos_right hc (Nat.two_pow_pos k)
  omega
theorem cv_bd {k j : Nat} : ∀ (i : Nat) (f g : Fn), (∀ n, (f n).natAbs < 2 ^ k) → (∀ n, (g n).natAbs < 2 ^ j) → (cv f g i).natAbs ≤ (i + 1) * 2 ^ (k + j)
  | 0, f, g, hf, hg => by
    rw [cv, Int.natAbs_mul, Nat.pow_add, Nat.zero_add, Nat.one_mul]
    exact Nat.mul_le_mul (Nat.le_of_lt (hf 0)) (Nat.le_of_lt (hg 0))
  | i + 1, f, g, hf, hg => by
    have ih := cv_bd i (fun n => f (n + 1)) g (fun n => hf _) hg
    have := Int.natAbs_add_le (f 0 * g (i + 1)) (cv (fun n => f (n + 1)) g i)
    have h1 : (f 0 * g (i + 1)).natAbs ≤ 2 ^ (k + j) := by
      rw [Int.natAbs_mul, Nat.pow_add]
      exact Nat.mul_le_mul (Nat.le_of_lt (hf 0)) (Nat.le_of_lt (hg _))
    rw [cv, Nat.add_mul (i + 1) 1, Nat.one_mul]
    omega
theorem bd_mul {k j n : Nat} {p q : List Int} (h : Bd k p) (g : Bd j q) (l : p.length + q.length ≤ 2 ^ n) : Bd (n + k + j) (mulF p q) := by
  by_cases e : p = [] ∨ q = []
  · unfold mulF; rw [if_pos e]; exact fun z hz => nomatch hz
  have hp : 0 < p.length := List.length_pos_iff.mpr fun z => e (.inl z)
  have hq : 0 < q.length := List.length_pos_iff.mpr fun z => e (.inr z)
  refine bd_of fun i => ?_
  by_cases li : i < p.length + q.length - 1
  · rw [co_mul]
    have b := cv_bd i (co p) (co q) h.co g.co
    have c : (i + 1) * 2 ^ (k + j) < 2 ^ n * 2 ^ (k + j) := Nat.mul_lt_mul_of_pos_right (by omega) (Nat.two_pow_pos _)
    rw [Nat.add_assoc, Nat.pow_add]
    omega
  · rw [co_big (Nat.le_trans (mulF_le p q) (by omega))]
    exact Nat.two_pow_pos _
theorem ev_bd {k j : Nat} (x : Int) (hx : x.natAbs < 2 ^ j) : ∀ p : List Int, Bd k p → (ev x p).natAbs < 2 ^ (k + p.length * (j + 1))
  | [], _ => by simp [ev]; exact Nat.two_pow_pos _
  | a :: p, h => by
    have ih := ev_bd x hx p fun z hz => h z (List.mem_cons_of_mem _ hz)
    have ha := h a List.mem_cons_self
    have t := Int.natAbs_add_le a (x * ev x p)
    have b : (x * ev x p).natAbs < 2 ^ (k + p.length * (j + 1) + j) := by
      rw [Int.natAbs_mul, Nat.add_comm _ j, Nat.pow_add]
      have a1 : x.natAbs * (ev x p).natAbs ≤ x.natAbs * 2 ^ (k + p.length * (j + 1)) := Nat.mul_le_mul_left _ (Nat.le_of_lt ih)
      have a2 : x.natAbs * 2 ^ (k + p.length * (j + 1)) < 2 ^ j * 2 ^ (k + p.length * (j + 1)) := Nat.mul_lt_mul_of_pos_right hx (Nat.two_pow_pos _)
      omega
    have c : (2 : Nat) ^ k ≤ 2 ^ (k + p.length * (j + 1) + j) := Nat.pow_le_pow_right (by decide) (by omega)
    have e : k + (a :: p).length * (j + 1) = (k + p.length * (j + 1) + j) + 1 := by
      rw [List.length_cons, Nat.add_mul]; omega
    show (a + x * ev x p).natAbs < _
    rw [e, Nat.pow_succ]
    omega
theorem bd_sl {k n : Nat} {p : List Int} (h : Bd k p) (l : p.length ≤ 2 ^ n) : Bd (n + k) (slF p) := by
  refine bd_of fun i => ?_
  rw [co_sl]
  by_cases li : i + 1 < p.length
  · show (((i : Int) + 1) * co p (i + 1)).natAbs < _
    rw [Int.natAbs_mul, Nat.pow_add]
    have h2 := h.co (i + 1)
    have a : ((i : Int) + 1).natAbs * (co p (i + 1)).natAbs ≤ ((i : Int) + 1).natAbs * 2 ^ k := Nat.mul_le_mul_left _ (Nat.le_of_lt h2)
    have b : ((i : Int) + 1).natAbs * 2 ^ k < 2 ^ n * 2 ^ k := Nat.mul_lt_mul_of_pos_right (by omega) (Nat.two_pow_pos k)
    omega
  · show (((i : Int) + 1) * co p (i + 1)).natAbs < _
    rw [co_big (by omega), Int.mul_zero]
    exact Nat.two_pow_pos _
theorem bd_pl {k : Nat} {p : List Int} (c : Cn p) (h : Bd k p) : Bd k (plF p) := fun z hz => by
  obtain ⟨i, l, rfl⟩ := List.mem_iff_getElem.mp hz
  rw [plF_length] at l
  have hp : p ≠ [] := by intro e; rw [e] at l; exact absurd l (Nat.not_lt_zero _)
  have l2 : i < (plF p).length := by rw [plF_length]; exact l
  have e : sgc p * co (plF p) i = co p i := by rw [← co_scl, pl_scl c]
  rw [← co_at l2]
  have b := h.co i
  rw [← e, Int.natAbs_mul, sgc_abs] at b
  have := Nat.mul_le_mul_right (co (plF p) i).natAbs (cnt_pos c hp)
  omega
end Kr
/-! Lists and tuples alike: k tells which. -/
namespace Kr
open PySem PySem.Spec
open PyProof.Rows L2

def Sq (K : PySem.W.Frag) (k : Bool) (H : Hp) (a : Addr) (xs : List V) : Prop :=
  match k with | true => SqT K H a xs | false => SqL K H a xs
theorem Same.sq {K : PySem.W.Frag} {k : Bool} {a : Addr} {H H' : Hp} {xs : List V} (e : Same H H') (h : Sq K k H a xs) : Sq K k H' a xs := by
  cases k with
  | true => exact Same.tseq e h
  | false => exact e.seq h
theorem Sq.or {K : PySem.W.Frag} {k : Bool} {a : Addr} {H : Hp} {xs : List V} (h : Sq K k H a xs) : SqL K H a xs ∨ SqT K H a xs := by
  cases k with
  | true => exact .inr h
  | false => exact .inl h
def Iat (k : Bool) (h : Heap) (it a : Addr) (i : Nat) : Prop :=
  match k with | true => h.IsTupleIter it a i | false => h.IsListIter it a i
def Sat (k : Bool) (h : Heap) (a : Addr) (items : Array Value) : Prop :=
  match k with | true => h.IsTuple a items | false => h.IsList a items
theorem Iat.at {k : Bool} {h h' : Heap} {it a : Addr} {i : Nat} (x : Iat k h it a i) (e : ∀ o, h.get? it = some o → h'.get? it = some o) : Iat k h' it a i := by
  cases k with
  | true => exact Heap.IsTupleIter.at x e
  | false => exact Heap.IsListIter.at x e
theorem Iat.obj {k : Bool} {h : Heap} {it a : Addr} {i : Nat} (x : Iat k h it a i) : ∃ o, h.get? it = some o ∧ ∃ n vs, o.cls = .type n ∧ o.data = .fields vs ∧
    (["enumerate", "zip", "dict_itemiterator", "dict_reverseitemiterator", "odict_iterator", "itertools.zip_longest", "itertools.pairwise"].contains n) = false := by
  cases k with
  | true => obtain ⟨o, e, c, d⟩ := x; exact ⟨o, e, _, _, c, d, by decide⟩
  | false => obtain ⟨o, e, c, d⟩ := x; exact ⟨o, e, _, _, c, d, by decide⟩
theorem Iat.nocell {k : Bool} {h : Heap} {it a : Addr} {i : Nat} (x : Iat k h it a i) : ∃ o, h.get? it = some o ∧ ∀ v, o.data ≠ .cell v := by
  obtain ⟨o, e, n, vs, _, d, _⟩ := x.obj
  exact ⟨o, e, fun v z => by rw [d] at z; cases z⟩
section
variable {X : Cx} {pins : List (Addr × Obj)} {σ : L2.St} {H : Hp} {s : Shared}
theorem Sq.is {k : Bool} {a : Addr} {xs : List V} (I : Inv X pins σ H s) (h : Sq X.K k H a xs) : ∃ its : List Value, Vals xs its ∧ Sat k s.heap a its.toArray ∧ xs.length ≤ sizeLine := by
  cases k with
  | true => obtain ⟨its, r, p, z⟩ := I.tuple h; exact ⟨its, r, p, z⟩
  | false => obtain ⟨its, r, p, z⟩ := I.list h; exact ⟨its, r, p.isList, z⟩
theorem Sq.inj {k : Bool} {a : Addr} {xs ys : List V} (I : Inv X pins σ H s) (h : Sq X.K k H a xs) (g : Sq X.K k H a ys) : xs = ys := by
  cases k with
  | true => exact I.tuple_inj h g
  | false => exact I.list_inj h g
end
theorem Sat.lt {k : Bool} {h : Heap} {a : Addr} {items : Array Value} (x : Sat k h a items) : a < h.objs.size := by
  cases k with
  | true => obtain ⟨o, e, _⟩ := x; exact Heap.lt_size e
  | false => obtain ⟨o, e, _⟩ := x; exact Heap.lt_size e
theorem Iat.ne {k : Bool} {h : Heap} {it a : Addr} {i : Nat} {items : Array Value} (x : Iat k h it a i) (p : Sat k h a items) : a ≠ it := fun e => by
  obtain ⟨oo, qq, n, vs, c, d, _⟩ := x.obj
  cases k with
  | true => obtain ⟨o2, e2, c2, n2, d2⟩ := p; rw [e, qq] at e2; cases e2; rw [d] at d2; cases d2
  | false => obtain ⟨o2, e2, c2, n2, d2⟩ := p; rw [e, qq] at e2; cases e2; rw [d] at d2; cases d2
theorem drawsS {prog : Program} {w : World} {A : Around} (hh : A.handled = none) (k : Bool) (it a : Addr) (hne : a ≠ it) (items : Array Value) :
    Draws prog w A it [it, a] items.size (fun i v => items[i]? = some v) (fun i h => Iat k h it a i ∧ Sat k h a items) := by
  cases k with
  | true => exact Draws.tuple hh it a hne items
  | false => exact Draws.list hh it a hne items
def itO (k : Bool) (a : Addr) : Obj :=
  { cls := .type (match k with | true => "tuple_iterator" | false => "list_iterator"), data := .fields #[.ref a, .int 0 0] }
theorem beginsS (k : Bool) (a : Addr) (items : Array Value) : Begins (.ref a) (itO k a) fun h => Sat k h a items := by
  cases k with
  | true => exact begins_tuple a items
  | false => exact begins_list a items
theorem itO_at {k : Bool} {h : Heap} {it a : Addr} (e : h.get? it = some (itO k a)) : Iat k h it a 0 := by
  cases k with
  | true => exact ⟨_, e, rfl, rfl⟩
  | false => exact ⟨_, e, rfl, rfl⟩

/-! ### one by one -/
def ItS (K : PySem.W.Frag) (k : Bool) (a : Addr) : L2.It :=
  match k with | true => Itt K a | false => Itl K a
def iSq (K : PySem.W.Frag) (tl : TE) : TI := fun σ H R => tl σ H fun x H1 => ∃ k a, x = .ref a ∧ (∃ xs, Sq K k H1 a xs) ∧ R (ItS K k a) H1
theorem pi_sq {X : Cx} {tg l : Expr} {tl : TE} (hl : PE X l tl) : PI X tg l (iSq X.K tl) := by
  refine ⟨fun pins s σ H R I h => ?_⟩
  refine thn (hl.run pins s σ H _ I h) fun v s1 ⟨x, H1, I1, r1, k, a, e, ⟨xs, hq⟩, q⟩ => ?_
  subst e
  cases r1
  cases k with
  | true =>
    obtain ⟨its, rv, p, hz⟩ := I1.tuple hq
    refine wpAny_pyIter_tuple (show s1.heap.IsTuple a its.toArray from p) ⟨s1.heap.objs.size, [s1.heap.objs.size], _, _, H1, rfl, I1.kept (t' := s1.toks) fun b o e => Heap.get?_push_of_some _ e, turn_tuple a _, ⟨_, Heap.get?_push_size _ rfl, rfl, rfl⟩, fun b hb => ?_, q⟩
    rw [show b = s1.heap.objs.size by simpa using hb]
    exact I1.fpOk (Nat.le_refl _) (I1.hok.fresh (Nat.le_refl _))
  | false =>
    obtain ⟨its, rv, p, hz⟩ := I1.list hq
    refine wpAny_pyIter_list p.isList ⟨s1.heap.objs.size, [s1.heap.objs.size], _, _, H1, rfl, I1.kept (t' := s1.toks) fun b o e => Heap.get?_push_of_some _ e, turn_list a _, ⟨_, Heap.get?_push_size _ rfl, rfl, rfl⟩, fun b hb => ?_, q⟩
    rw [show b = s1.heap.objs.size by simpa using hb]
    exact I1.fpOk (Nat.le_refl _) (I1.hok.fresh (Nat.le_refl _))
theorem for_sq {K : PySem.W.Frag} {k : Bool} {a : Addr} {xs : List V} {g : TG} {tb : TS} {D : Ends} {σ : L2.St} {H : Hp} (Pv : Nat → L2.St → Hp → Prop) (h0 : Pv 0 σ H)
    (hl : ∀ i σ H, i ≤ xs.length → Pv i σ H → Sq K k H a xs)
    (hs : ∀ i x σ H, xs[i]? = some x → Pv i σ H → g x σ H fun σ2 H2 => tb { D with nx := Pv (i + 1), ct := Pv (i + 1), bk := D.nx } σ2 H2)
    (hd : ∀ σ H, Pv xs.length σ H → D.nx σ H) :
    ∃ W : Nat → Nat → L2.St → Hp → Prop, (∃ m, W 0 m σ H) ∧ ∀ i m σ H, W i m σ H →
      ((ItS K k a).stop i H ∧ D.nx σ H) ∨ ((ItS K k a).go i H ∧ ∃ N : L2.St → Hp → Prop, (∀ σ' H', N σ' H' → ∃ m', m' < m ∧ W (i + 1) m' σ' H') ∧
        ∀ x H', (ItS K k a).yld i H x H' → g x σ H' fun σ2 H2 => tb { D with nx := N, ct := N, bk := D.nx } σ2 H2) := by
  cases k with
  | true => exact for_tup Pv h0 hl hs hd
  | false => exact for_list Pv h0 hl hs hd

/-! ### with their places -/
def IteS (K : PySem.W.Frag) (k : Bool) (a : Addr) : L2.It :=
  ⟨fun i H => ∃ (xs : List V) (x : V), Sq K k H a xs ∧ xs[i]? = some x,
   fun i H v H' => ∃ T x, v = .ref T ∧ H T = none ∧ H' = upd H T (.tup [.int (i : Nat), x]) ∧ ∀ xs, Sq K k H a xs → xs[i]? = some x,
   fun i H => ∃ xs : List V, Sq K k H a xs ∧ xs.length = i⟩
theorem turn_enumS {P : Program} {w : World} {K : PySem.W.Frag} {elts : List Expr} {kk : Nat} {tpos : Pos} {k : Bool} (a e it : Addr)
    (hei : e ≠ it) (hea : e ≠ a) (hia : a ≠ it) :
    Turn P w K (.Tuple elts kk tpos) (IteS K k a) [e, it] e (fun i h => (∃ old, IsEnum h e it ((i : Nat) : Int) old) ∧ Iat k h it a i) where
  mem := List.mem_cons_self
  obj := fun i h ⟨⟨old, he⟩, hi⟩ b hb => by
    rcases List.mem_cons.mp hb with z | z
    · subst z; exact ⟨_, he, fun v q => nomatch q⟩
    · rw [show b = it by simpa using z]; exact hi.nocell
  keep := fun i h h' ⟨⟨old, he⟩, hi⟩ kp => ⟨⟨old, kp e (by simp) _ he⟩, hi.at fun o q => kp it (by simp) o q⟩
  item := by
    rintro X rfl rfl rfl hc i pins s σ H E I hf ⟨⟨old, he⟩, hit⟩ ⟨xs, x, hq, hx⟩
    obtain ⟨its, rv, p, hz⟩ := Sq.is I hq
    obtain ⟨u, hu, ru⟩ := rv.get hx
    have hel : e < s.heap.objs.size := Heap.lt_size he
    have hil : it < s.heap.objs.size := by obtain ⟨_, q, _⟩ := hit.nocell; exact Heap.lt_size q
    have hu' : its.toArray[i]? = some u := by simpa using hu
    have hlt : i < its.toArray.size := (Array.getElem?_eq_some_iff.mp hu').1
    refine wpAny_pyNext_enum_itemD (drawsS (show X.A.in1.handled = none from I.ok.hd hc) k it a hia its.toArray) he ⟨hit, p⟩ hlt hei (by simp [hei, hea]) fun y h' tk hy ho st' hT hsz hk => ?_
    have ey : y = u := by rw [hu'] at hy; exact (Option.some.inj hy).symm
    subst ey
    refine ⟨_, rfl, wpAny_letOwnedTupleGo_enum (s := { s with heap := h', toks := tk + 1 }) ho fun h'' he' sb => ?_⟩
    have hT2 := (sb.2 _ (Nat.ne_of_gt hel)).trans hT
    have new : ObjOk X.prog X.w (upd H s.heap.objs.size (.tup [.int (i : Nat), x])) h'' s.heap.objs.size (.tup [.int (i : Nat), x]) :=
      ⟨by show 2 ≤ sizeLine; decide, [.int i tk, y], .cons ⟨_, rfl⟩ (.cons ru .nil), ⟨_, hT2, rfl, _, rfl⟩⟩
    have I1 : Inv X pins σ (upd H s.heap.objs.size (.tup [.int (i : Nat), x])) { s with heap := h'', toks := tk + 1 } :=
      I.turnedNew (ch := [e, it]) (fun b ob hb q => (sb.2 b fun z => hb (by simp [z])).trans (hk b ob (fun z => hb (by simp [z])) (fun z => hb (by simp [z])) q)) hf (Nat.le_refl _) new
    refine ⟨.ref s.heap.objs.size, _, I1, rfl, ⟨_, x, rfl, I.hok.fresh (Nat.le_refl _), rfl, fun ys hys => by rw [Sq.inj I hys hq]; exact hx⟩, ⟨⟨y, ?_⟩, st'.1.at fun o q => (sb.2 it hei.symm).trans q⟩, fun b hb => ?_⟩
    · rw [show ((i + 1 : Nat) : Int) = (i : Int) + 1 by omega]; exact he'
    · have hb' : b < s.heap.objs.size := by
        rcases List.mem_cons.mp hb with z | z
        · rw [z]; exact hel
        · rw [show b = it by simpa using z]; exact hil
      rw [upd_ne (Nat.ne_of_lt hb')]
      exact (hf b hb).1
  done := by
    rintro X rfl rfl rfl hc i pins s σ H E I hf ⟨⟨old, he⟩, hit⟩ ⟨xs, hq, hx⟩
    obtain ⟨its, rv, p, hz⟩ := Sq.is I hq
    obtain ⟨f0, f1, f2, f3, f4, f5⟩ := hf it (by simp)
    have hn : its.toArray.size = i := by rw [List.size_toArray, ← rv.length, hx]
    exact wpAny_pyNext_enum_endD (drawsS (show X.A.in1.handled = none from I.ok.hd hc) k it a hia its.toArray) he (by rw [hn]; exact ⟨hit, p⟩) fun h' eb => ⟨rfl, I.turned (t' := s.toks) (fun b o hb q => eb b o hb q) f0 f1 f3 f4 f5⟩
  self := fun A i s Q E ⟨⟨_, he⟩, _⟩ h => wpAny_pyIter_enum he h
set_option maxHeartbeats 8000000 in
theorem enum_new1 {v : Value} {o : Obj} {B : Heap → Prop} (b : Begins v o B) : Meets (Builtin.«enumerate.__new__» ⟨[.type "enumerate", v], []⟩) (fun _ R s => B s.heap ∧
      R (.ok (.ret (.ref (s.heap.push o).objs.size))) { s with heap := (s.heap.push o).push { cls := .type "enumerate", data := .fields #[.none, .bool false, .ref s.heap.objs.size, rawInt 0, .none, .none] } }) :=
  .of_wp fun prog w A R s ⟨h1, h⟩ => by
    have hsub := sub_enumerate
    obtain ⟨hp, g, d, tk, os⟩ := s
    have q1 : ∀ {A' : Around} {E Q : Value → Shared → Prop}, Q (.ref hp.objs.size) ⟨hp.push o, g, d, tk, os⟩ → wpAny (model prog w) A' (pyIter v) Q E ⟨hp, g, d, tk, os⟩ := fun q => b.iter prog w _ _ ⟨hp, g, d, tk, os⟩ _ h1 q
    wp_walk using q1
    refine wpAny_stack_any fun st => wpAny_pure ?_
    split
    · rename_i c _ _ _ _ _
      cases (c == Value.type "enumerate") <;> (wp_walk using q1; exact ⟨_, rfl, h⟩)
    · wp_walk using q1; exact ⟨_, rfl, h⟩
theorem enum_begins1 {prog : Program} {w : World} {A : Around} {E : Value → Shared → Prop} {s : Shared} {v : Value} {o : Obj} {B : Heap → Prop} {Q : Value → Shared → Prop} (b : Begins v o B) (h1 : B s.heap)
    (h : ∀ h', IsEnum h' (s.heap.objs.size + 1) s.heap.objs.size 0 .none → h'.get? s.heap.objs.size = some o → (∀ b o, s.heap.get? b = some o → h'.get? b = some o) → Q (.ref (s.heap.objs.size + 1)) { s with heap := h' }) :
    wpAny (model prog w) A (call (.type "enumerate") [v]) Q E s := by
  refine callType_new F.called_enumerate (by decide) (F.typeCall_enumerate_1 _) (F.newCall_enumerate_1 _) (fun obj => F.args_object_init_2 obj _) F.entry_enumerate_new (enum_new1 b) ⟨h1, ?_⟩
  have hz : (s.heap.push o).objs.size = s.heap.objs.size + 1 := Heap.size_push ..
  show _ ∧ _
  rw [hz]
  have he : IsEnum ((s.heap.push o).push { cls := .type "enumerate", data := .fields #[.none, .bool false, .ref s.heap.objs.size, rawInt 0, .none, .none] }) (s.heap.objs.size + 1) s.heap.objs.size 0 .none := by
    rw [← hz]; exact Heap.get?_push_size _ rfl
  exact ⟨⟨_, he, rfl⟩, h _ he (Heap.get?_push_of_some _ (Heap.get?_push_size _ b.free)) fun c u x => Heap.get?_push_of_some _ (Heap.get?_push_of_some _ x)⟩
def iEnumS (K : PySem.W.Frag) (ta : TA) : TI := fun σ H R => ta σ H fun vs H1 => ∃ k a xs, vs = [.ref a] ∧ Sq K k H1 a xs ∧ R (IteS K k a) H1
theorem pi_enumS {X : Cx} {e : Expr} {ta : TA} {p pos tpos : Pos} {elts : List Expr} {kk : Nat} (hg : Gl X "enumerate") (hm : X.mg "enumerate" = none) (ha : PA X [e] ta)
    (hs : starEach [e] X.env = [(false, eval e X.env)] := by rfl) : PI X (.Tuple elts kk tpos) (.Call (.Name "enumerate" p) [e] [] pos) (iEnumS X.K ta) := by
  refine ⟨fun pins s σ H R I h => Call_ (ld_blt I hg hm boot_enumerate (PyProof.Rows.callWith_type1 (thn (ha.run pos pins s σ H _ I h) fun us s1 ⟨vs, H1, I1, r1, k, a, xs, ex, hq, q⟩ => ?_) hs rfl))⟩
  subst ex
  cases r1 with
  | cons r rr =>
    cases rr
    cases r
    obtain ⟨its, rv, p', hz⟩ := Sq.is I1 hq
    have la := p'.lt
    refine enum_begins1 (beginsS k a its.toArray) p' fun h' he hit hk => wpAny_pyIter_enum he ?_
    have I2 : Inv X pins σ H1 { s1 with heap := h' } := I1.kept (t' := s1.toks) hk
    refine ⟨s1.heap.objs.size + 1, [s1.heap.objs.size + 1, s1.heap.objs.size], _, _, H1, rfl, I2, turn_enumS (k := k) a (s1.heap.objs.size + 1) s1.heap.objs.size (Nat.succ_ne_self _) (Nat.ne_of_gt (Nat.lt_succ_of_lt la)) (Nat.ne_of_lt la), ⟨⟨.none, he⟩, itO_at hit⟩, fun b hb => ?_, q⟩
    have hle : s1.heap.objs.size ≤ b := by
      rcases List.mem_cons.mp hb with z | z
      · rw [z]; exact Nat.le_succ _
      · rw [show b = s1.heap.objs.size by simpa using z]; exact Nat.le_refl _
    exact I1.fpOk hle (I1.hok.fresh hle)
theorem for_enumS {K : PySem.W.Frag} {k : Bool} {a : Addr} {xs : List V} {g : TG} {tb : TS} {D : Ends} {σ : L2.St} {H : Hp} (Pv : Nat → L2.St → Hp → Prop) (h0 : Pv 0 σ H)
    (hl : ∀ i σ H, i ≤ xs.length → Pv i σ H → Sq K k H a xs)
    (hs : ∀ (i : Nat) (x : V) (T : Addr) σ H, xs[i]? = some x → Pv i σ H → H T = none → g (.ref T) σ (upd H T (.tup [.int (i : Nat), x])) fun σ2 H2 => tb { D with nx := Pv (i + 1), ct := Pv (i + 1), bk := D.nx } σ2 H2)
    (hd : ∀ σ H, Pv xs.length σ H → D.nx σ H) :
    ∃ W : Nat → Nat → L2.St → Hp → Prop, (∃ m, W 0 m σ H) ∧ ∀ i m σ H, W i m σ H →
      ((IteS K k a).stop i H ∧ D.nx σ H) ∨ ((IteS K k a).go i H ∧ ∃ N : L2.St → Hp → Prop, (∀ σ' H', N σ' H' → ∃ m', m' < m ∧ W (i + 1) m' σ' H') ∧
        ∀ x H', (IteS K k a).yld i H x H' → g x σ H' fun σ2 H2 => tb { D with nx := N, ct := N, bk := D.nx } σ2 H2) := by
  refine ⟨fun i m σ H => m = xs.length - i ∧ i ≤ xs.length ∧ Pv i σ H, ⟨xs.length, by simp, Nat.zero_le _, h0⟩, ?_⟩
  rintro i m σ H ⟨rfl, hi, p⟩
  have q := hl i σ H hi p
  by_cases hlt : i < xs.length
  · refine .inr ⟨⟨xs, xs[i], q, List.getElem?_eq_getElem hlt⟩, Pv (i + 1), fun σ' H' p' => ⟨xs.length - (i + 1), by omega, rfl, hlt, p'⟩, ?_⟩
    rintro _ _ ⟨T, x, rfl, nT, rfl, y⟩
    exact hs i x T σ _ (y xs q) p nT
  · obtain rfl : i = xs.length := by omega
    exact .inl ⟨⟨xs, q, rfl⟩, hd σ H p⟩

/-! ### two at a time -/
def ItzS (K : PySem.W.Frag) (k j : Bool) (a b : Addr) : L2.It :=
  ⟨fun i H => ∃ (xs ys : List V) (x y : V), Sq K k H a xs ∧ Sq K j H b ys ∧ xs[i]? = some x ∧ ys[i]? = some y,
   fun i H v H' => ∃ T x y, v = .ref T ∧ H T = none ∧ H' = upd H T (.tup [x, y]) ∧ (∀ xs, Sq K k H a xs → xs[i]? = some x) ∧ ∀ ys, Sq K j H b ys → ys[i]? = some y,
   fun i H => ∃ xs ys : List V, Sq K k H a xs ∧ Sq K j H b ys ∧ i ≤ xs.length ∧ i ≤ ys.length ∧ (xs.length = i ∨ ys.length = i)⟩
theorem turn_zipS {P : Program} {w : World} {K : PySem.W.Frag} {elts : List Expr} {kk : Nat} {tpos : Pos} {k j : Bool} {a b z TI TO i1 i2 : Addr} (D : ZipSep2 z TI TO i1 i2 [i1, a] [i2, b]) :
    Turn P w K (.Tuple elts kk tpos) (ItzS K k j a b) [z, TI, TO, i1, i2] z (fun i h => IsZip h z TI TO .none ∧ IsTupOf2 h TI (.ref i1) (.ref i2) ∧ (∃ x y, IsTupOf2 h TO x y) ∧ Iat k h i1 a i ∧ Iat j h i2 b i) where
  mem := List.mem_cons_self
  obj := fun i h ⟨hz, hTI, ⟨x, y, hTO⟩, h1, h2⟩ c hc => by
    have e' : c = z ∨ c = TI ∨ c = TO ∨ c = i1 ∨ c = i2 := by simpa using hc
    rcases e' with rfl | rfl | rfl | rfl | rfl
    · exact ⟨_, hz, fun v q => nomatch q⟩
    · exact ⟨_, hTI, fun v q => nomatch q⟩
    · exact ⟨_, hTO, fun v q => nomatch q⟩
    · exact h1.nocell
    · exact h2.nocell
  keep := fun i h h' ⟨hz, hTI, ⟨x, y, hTO⟩, h1, h2⟩ kp =>
    ⟨kp z (by simp) _ hz, kp TI (by simp) _ hTI, ⟨x, y, kp TO (by simp) _ hTO⟩, h1.at fun o q => kp i1 (by simp) o q, h2.at fun o q => kp i2 (by simp) o q⟩
  item := by
    rintro X rfl rfl rfl hc i pins s σ H E I hf ⟨hz, hTI, ⟨x0, y0, hTO⟩, h1, h2⟩ ⟨xs, ys, x, y, hqx, hqy, hx, hy⟩
    obtain ⟨its, rv, p, _⟩ := Sq.is I hqx
    obtain ⟨its2, rv2, p2, _⟩ := Sq.is I hqy
    obtain ⟨u, hu, ru⟩ := rv.get hx
    obtain ⟨u2, hu2, ru2⟩ := rv2.get hy
    have hu' : its.toArray[i]? = some u := by simpa using hu
    have hu2' : its2.toArray[i]? = some u2 := by simpa using hu2
    have hzl : z < s.heap.objs.size := Heap.lt_size hz
    have l1 : i1 < s.heap.objs.size := by obtain ⟨_, q, _⟩ := h1.nocell; exact Heap.lt_size q
    have l2 : i2 < s.heap.objs.size := by obtain ⟨_, q, _⟩ := h2.nocell; exact Heap.lt_size q
    have n1 : a ≠ i1 := h1.ne p
    have n2 : b ≠ i2 := h2.ne p2
    have hn : X.A.in1.handled = none := I.ok.hd hc
    refine wpAny_pyNext_zipD2_item D (drawsS hn k i1 a n1 its.toArray) (drawsS hn j i2 b n2 its2.toArray) hz hTI hTO ⟨h1, p⟩ ⟨h2, p2⟩ (Array.getElem?_eq_some_iff.mp hu').1 (Array.getElem?_eq_some_iff.mp hu2').1 fun v1 v2 h' tk e1 e2 z' TO' h1' h2' hT hsz hk => ?_
    have e1 : its.toArray[i]? = some v1 := e1
    have e2 : its2.toArray[i]? = some v2 := e2
    rw [hu'] at e1
    rw [hu2'] at e2
    cases e1
    cases e2
    refine ⟨_, rfl, wpAny_letOwnedTupleGo_zip (s := { s with heap := h', toks := tk }) z' fun h'' z'' sb => ?_⟩
    have hT2 := (sb.2 _ (Nat.ne_of_gt hzl)).trans hT
    have new : ObjOk X.prog X.w (upd H s.heap.objs.size (.tup [x, y])) h'' s.heap.objs.size (.tup [x, y]) :=
      ⟨by show 2 ≤ sizeLine; decide, [u, u2], .cons ru (.cons ru2 .nil), ⟨_, hT2, rfl, _, rfl⟩⟩
    have I1 : Inv X pins σ (upd H s.heap.objs.size (.tup [x, y])) { s with heap := h'', toks := tk } :=
      I.turnedNew (ch := [z, TI, TO, i1, i2]) (fun c o hb q => (sb.2 c fun q' => hb (by simp [q'])).trans (hk c o (fun q' => hb (by simp [q'])) (fun q' => hb (by simp [q'])) (fun q' => hb (by simp [q'])) (fun q' => hb (by simp [q'])) q)) hf (Nat.le_refl _) new
    refine ⟨.ref s.heap.objs.size, _, I1, rfl, ⟨_, x, y, rfl, I.hok.fresh (Nat.le_refl _), rfl, fun l hl => by rw [Sq.inj I hl hqx]; exact hx, fun l hl => by rw [Sq.inj I hl hqy]; exact hy⟩, ⟨z'', ?_, ⟨u, u2, ?_⟩, ?_, ?_⟩, fun c hcm => ?_⟩
    · exact (sb.2 _ D.TIz).trans (hk _ _ D.TIz D.TITO D.TIi1 D.TIi2 hTI)
    · exact (sb.2 _ D.TOz).trans TO'
    · exact h1'.1.at fun o q => (sb.2 _ D.zi1.symm).trans q
    · exact h2'.1.at fun o q => (sb.2 _ D.zi2.symm).trans q
    · have hlt : c < s.heap.objs.size := by
        have e' : c = z ∨ c = TI ∨ c = TO ∨ c = i1 ∨ c = i2 := by simpa using hcm
        rcases e' with q | q | q | q | q
        · rw [q]; exact hzl
        · rw [q]; exact Heap.lt_size hTI
        · rw [q]; exact Heap.lt_size hTO
        · rw [q]; exact l1
        · rw [q]; exact l2
      rw [upd_ne (Nat.ne_of_lt hlt)]
      exact (hf c hcm).1
  done := by
    rintro X rfl rfl rfl hc i pins s σ H E I hf ⟨hz, hTI, ⟨x0, y0, hTO⟩, h1, h2⟩ ⟨xs, ys, hqx, hqy, e1, e2, hend⟩
    obtain ⟨its, rv, p, _⟩ := Sq.is I hqx
    obtain ⟨its2, rv2, p2, _⟩ := Sq.is I hqy
    have l1 := rv.length
    have l2 := rv2.length
    have s1 : its.toArray.size = xs.length := by rw [List.size_toArray, l1]
    have s2 : its2.toArray.size = ys.length := by rw [List.size_toArray, l2]
    have n1 : a ≠ i1 := h1.ne p
    have n2 : b ≠ i2 := h2.ne p2
    have hn : X.A.in1.handled = none := I.ok.hd hc
    exact wpAny_pyNext_zipD2_end D (drawsS hn k i1 a n1 its.toArray) (drawsS hn j i2 b n2 its2.toArray) hz hTI hTO ⟨h1, p⟩ ⟨h2, p2⟩ (by omega) (by omega) (by omega) fun h' tk hk => ⟨rfl, I.turnedL (t' := tk) (ch := [z, TI, TO, i1, i2]) (fun c o hb q =>
      hk c o (fun q' => hb (by simp [q'])) (fun q' => hb (by simp [q'])) (fun q' => hb (by simp [q'])) (fun q' => hb (by simp [q'])) q) hf⟩
  self := fun A i s Q E st h => wpAny_pyIter_zip st.1 h
def iZipS (K : PySem.W.Frag) (ta : TA) : TI := fun σ H R => ta σ H fun vs H1 => ∃ k j a b xs ys, vs = [.ref a, .ref b] ∧ Sq K k H1 a xs ∧ Sq K j H1 b ys ∧ R (ItzS K k j a b) H1
theorem pi_zipS {X : Cx} {e e2 : Expr} {ta : TA} {p pos tpos : Pos} {elts : List Expr} {kk : Nat} (hg : Gl X "zip") (hm : X.mg "zip" = none) (ha : PA X [e, e2] ta)
    (hs : starEach [e, e2] X.env = (false, eval e X.env) :: starEach [e2] X.env := by rfl)
    (hpl : (backTo pos (starEach [e2] X.env)).any (·.1) = false := by rfl) : PI X (.Tuple elts kk tpos) (.Call (.Name "zip" p) [e, e2] [] pos) (iZipS X.K ta) := by
  refine ⟨fun pins s σ H R I h => Call_ (ld_blt I hg hm PyProof.Rows.boot_zip (PyProof.Rows.callWith_type1 (thn (ha.run pos pins s σ H _ I h) fun us s1 ⟨vs, H1, I1, r1, k, j, a, b, xs, ys, ex, hqx, hqy, q⟩ => ?_) hs hpl))⟩
  subst ex
  cases r1 with
  | cons r rr =>
    cases rr with
    | cons r' rr =>
      cases rr
      cases r
      cases r'
      obtain ⟨its, rv, p1, _⟩ := Sq.is I1 hqx
      obtain ⟨its2, rv2, p2, _⟩ := Sq.is I1 hqy
      have la := p1.lt
      have lb := p2.lt
      refine zip_begins2 (beginsS k a its.toArray) (beginsS j b its2.toArray) p1 p2 fun h' hz hTI hTO h1 h2 hsz hk => wpAny_pyIter_zip hz ?_
      have I2 : Inv X pins σ H1 { s1 with heap := h' } := I1.kept (t' := s1.toks) hk
      refine ⟨s1.heap.objs.size + 4, [s1.heap.objs.size + 4, s1.heap.objs.size + 2, s1.heap.objs.size + 3, s1.heap.objs.size, s1.heap.objs.size + 1], _, _, H1, rfl, I2,
        turn_zipS (k := k) (j := j) (zip_sep2 (fp1 := [a]) (fp2 := [b]) (fun c hc => by rw [show c = a by simpa using hc]; exact la) (fun c hc => by rw [show c = b by simpa using hc]; exact lb)),
        ⟨hz, hTI, ⟨_, _, hTO⟩, itO_at h1, itO_at h2⟩, fun c hcm => ?_, q⟩
      have e' : c = s1.heap.objs.size + 4 ∨ c = s1.heap.objs.size + 2 ∨ c = s1.heap.objs.size + 3 ∨ c = s1.heap.objs.size ∨ c = s1.heap.objs.size + 1 := by simpa using hcm
      have hle : s1.heap.objs.size ≤ c := by
        rcases e' with e | e | e | e | e <;> rw [e] <;> first | exact Nat.le_refl _ | exact Nat.le_add_right _ _
      exact I1.fpOk hle (I1.hok.fresh hle)
theorem for_zipS {K : PySem.W.Frag} {k j : Bool} {a b : Addr} {xs ys : List V} {g : TG} {tb : TS} {D : Ends} {σ : L2.St} {H : Hp} (n : Nat) (hn : n = min xs.length ys.length) (Pv : Nat → L2.St → Hp → Prop) (h0 : Pv 0 σ H)
    (hl : ∀ i σ H, i ≤ n → Pv i σ H → Sq K k H a xs ∧ Sq K j H b ys)
    (hs : ∀ (i : Nat) (x y : V) (T : Addr) σ H, xs[i]? = some x → ys[i]? = some y → Pv i σ H → H T = none → g (.ref T) σ (upd H T (.tup [x, y])) fun σ2 H2 => tb { D with nx := Pv (i + 1), ct := Pv (i + 1), bk := D.nx } σ2 H2)
    (hd : ∀ σ H, Pv n σ H → D.nx σ H) :
    ∃ W : Nat → Nat → L2.St → Hp → Prop, (∃ m, W 0 m σ H) ∧ ∀ i m σ H, W i m σ H →
      ((ItzS K k j a b).stop i H ∧ D.nx σ H) ∨ ((ItzS K k j a b).go i H ∧ ∃ N : L2.St → Hp → Prop, (∀ σ' H', N σ' H' → ∃ m', m' < m ∧ W (i + 1) m' σ' H') ∧
        ∀ x H', (ItzS K k j a b).yld i H x H' → g x σ H' fun σ2 H2 => tb { D with nx := N, ct := N, bk := D.nx } σ2 H2) := by
  refine ⟨fun i m σ H => m = n - i ∧ i ≤ n ∧ Pv i σ H, ⟨n, by simp, Nat.zero_le _, h0⟩, ?_⟩
  rintro i m σ H ⟨rfl, hi, p⟩
  obtain ⟨q1, q2⟩ := hl i σ H hi p
  by_cases hlt : i < n
  · have l1 : i < xs.length := by omega
    have l2 : i < ys.length := by omega
    refine .inr ⟨⟨xs, ys, xs[i], ys[i], q1, q2, List.getElem?_eq_getElem l1, List.getElem?_eq_getElem l2⟩, Pv (i + 1), fun σ' H' p' => ⟨n - (i + 1), by omega, rfl, hlt, p'⟩, ?_⟩
    rintro _ _ ⟨T, x, y, rfl, nT, rfl, y1, y2⟩
    exact hs i x y T σ _ (y1 xs q1) (y2 ys q2) p nT
  · obtain rfl : i = n := by omega
    exact .inl ⟨⟨xs, ys, q1, q2, by omega, by omega, by omega⟩, hd σ H p⟩

/-! ### parts -/
def rSlS (K : PySem.W.Frag) : V → Option Int → Option Int → Hp → VK → Prop := fun x lo hi H Q => ∃ k a xs, x = .ref a ∧ Sq K k H a xs ∧
  ∀ H' p, Same H H' → Sq K k H' p (cutV xs lo hi) → Q (.ref p) H'
theorem sl_sq {X : Cx} : SlR X (rSlS X.K) := by
  intro pins s σ H x v vl vu lo hi sl Q I rx hs pl pu ⟨k, a, xs, ex, hx, q⟩
  cases k with
  | false => exact sl_list pins s σ H x v vl vu lo hi sl Q I rx hs pl pu ⟨a, xs, ex, hx, fun p np => q _ p (Same.put np) (SqL.of upd_same)⟩
  | true =>
    refine sl_tupA pins s σ H x v vl vu lo hi sl Q I rx hs pl pu ⟨a, xs, ex, hx, fun hw => q H a (Same.refl _) ?_, fun _ p np => q _ p (Same.put np) (SqT.of upd_same)⟩
    have e : cutV xs lo hi = xs := by
      unfold cutV
      rw [hw.1, hw.2, List.drop_zero, Nat.sub_zero, List.take_length]
    show SqT X.K H a (cutV xs lo hi)
    rw [e]; exact hx
/-- from behind -/
def tRevS (K : PySem.W.Frag) (te : TE) : TE := fun σ H Q => te σ H fun x H1 => ∃ k a xs, x = .ref a ∧ Sq K k H1 a xs ∧ ∀ H' p, Same H1 H' → Sq K k H' p xs.reverse → Q (.ref p) H'
theorem cut_back {prog : Program} {w : World} {A : Around} {E : Value → Shared → Prop} {s : Shared} {t sl : Addr} {items : Array Value} {vs : Value} {Q : Value → Shared → Prop} (ht : IsTup s.heap t items)
    (hs : s.heap.IsSliceOf sl .none .none vs) (ps : IsPart vs (some (-1))) (hsz : items.size ≤ sizeLine)
    (h : Q (.ref s.heap.objs.size) { s with heap := s.heap.push { cls := .type "tuple", data := .seq items.toList.reverse.toArray } }) :
    wpAny (model prog w) A (getItem (.ref t) (.ref sl)) Q E s := by
  obtain ⟨os, hos, hcs, hds⟩ := id hs
  have hTs : s.TypeIs (.ref sl) "slice" := ⟨os, hos, hcs⟩
  unfold getItem
  try with_reducible refine wpAny_holding ?_
  first | refine wpAny_bind (wpAny_pure ?_) | skip
  refine wpAny_bind (wpAny_sequenceKey ht.typeIs (by decide) (wpAny_bind (wpAny_callSpecial?_slot (name := Str.ofString "__getitem__") ht.typeIs PyProof.Rows.slot_tuple_getitem
    (wpAny_call_entry PyProof.Rows.slot_tuple_getitem ht.typeIs PyProof.Rows.entry_tuple_getitem ?_ (PyProof.Rows.args_tuple_getitem _ _)))))
  show wpAny _ _ (Builtin.Tuple.tupleItemsOf (.ref t) >>= _) _ _ s
  refine wpAny_bind (tupleItemsOf_ ht (wpAny_bind (wpAny_typeOf hTs ?_)))
  rw [if_pos (by decide)]
  refine wpAny_bind ?_
  unfold Builtin.Slice.sliceApplied Builtin.Slice.sliceFields
  refine wpAny_bind (wpAny_bind (wpAny_field hos hds (x := .none) rfl (wpAny_bind (wpAny_field hos hds (x := .none) rfl (wpAny_bind (wpAny_field hos hds (x := vs) rfl (wpAny_pure ?_)))))))
  have places : Builtin.Slice.slicePlaces ((items.size : Int) - 1) (-1) (-1) = items.size := by
    unfold Builtin.Slice.slicePlaces
    rw [if_neg (by decide)]
    by_cases hh : (items.size : Int) - 1 > -1
    · rw [if_pos hh, show (-(-1 : Int)) = 1 by decide, Int.ediv_one]; omega
    · rw [if_neg hh]; omega
  have part : ∀ {Q' : Option Int → Shared → Prop}, Q' (some (-1)) s → ∀ (A' : Around) (E' : Value → Shared → Prop), wpAny (model prog w) A' (Builtin.Slice.slicePartIndex vs) Q' E' s := by
    intro Q' hq A' E'
    cases ps with
    | int i t => exact PyProof.Rows.slicePart_int hq
  refine wpAny_bind (part ?_ _ _)
  show wpAny _ _ (if ((-1 : Int) == 0) = true then _ else _) _ _ s
  rw [if_neg (by decide)]
  refine wpAny_bind (PyProof.Rows.slicePart_none (wpAny_bind (PyProof.Rows.slicePart_none (wpAny_bind (wpAny_pure ?_)))))
  show wpAny _ _ (pure ((items.size : Int) - 1, (-1 : Int), Builtin.Slice.slicePlaces ((items.size : Int) - 1) (-1) (-1))) _ _ s
  rw [places]
  refine wpAny_pure ?_
  have hno : ¬ ((((items.size : Int) - 1 == 0) && ((-1 : Int) == 1) && (items.size == items.size)) = true) := by
    rw [show ((-1 : Int) == 1) = false from rfl, Bool.and_false, Bool.false_and]; exact Bool.false_ne_true
  show wpAny _ _ (if (((items.size : Int) - 1 == 0) && ((-1 : Int) == 1) && (items.size == items.size)) = true then _ else _) _ _ s
  rw [if_neg hno]
  have pick : ((List.range items.size).filterMap fun (m : Nat) => items[((items.size : Int) - 1 + (m : Int) * (-1)).toNat]?).toArray = items.toList.reverse.toArray := by
    have e1 : (List.range items.size).filterMap (fun (m : Nat) => items[((items.size : Int) - 1 + (m : Int) * (-1)).toNat]?) = ((List.range items.size).map fun k => items.size - 1 - k).filterMap (items[·]?) := by
      rw [List.filterMap_map]
      have cg : ∀ (l : List Nat) (f g : Nat → Option Value), (∀ m ∈ l, f m = g m) → l.filterMap f = l.filterMap g := by
        intro l f g hfg
        induction l with
        | nil => rfl
        | cons m l ih =>
          rw [List.filterMap_cons, List.filterMap_cons, hfg m List.mem_cons_self, ih fun y hy => hfg y (List.mem_cons_of_mem _ hy)]
      refine cg _ _ _ fun m hm => ?_
      have hm2 := List.mem_range.mp hm
      have hm3 : ((items.size : Int) - 1 + (m : Int) * (-1)).toNat = items.size - 1 - m := by omega
      show items[((items.size : Int) - 1 + (m : Int) * (-1)).toNat]? = items[items.size - 1 - m]?
      rw [hm3]
    rw [e1, PySem.W.krv_range, List.filterMap_reverse, PySem.W.krv_all]
  have fits : sizeOk (.seq items.toList.reverse.toArray) := by
    show items.toList.reverse.toArray.size ≤ sizeLine
    rw [List.size_toArray, List.length_reverse, Array.length_toList]; exact hsz
  rw [pick]
  first
    | exact wpAny_bind (m := Builtin.Tuple.tupleExact _) (wpAny_newObj_type (wpAny_pure ⟨_, rfl, wpAny_pure h⟩) fits)
    | exact wpAny_bind (m := Builtin.Tuple.tupleExact _) (wpAny_newObj_type (wpAny_bind (wpAny_pure (wpAny_pure ⟨_, rfl, wpAny_pure h⟩))) fits)
    | exact wpAny_bind (wpAny_bind (m := Builtin.Tuple.tupleExact _) (wpAny_newObj_type (wpAny_pure (wpAny_pure ⟨_, rfl, wpAny_pure h⟩)) fits))
theorem pe_revS {X : Cx} {e : Expr} {te : TE} {k : Nat} {p1 p2 p3 pos : Pos} (he : PE X e te) : PE X (.Subscript e (.Slice none none (some (.UnaryOp .USub (.Constant (.int 1) k p1) p2)) p3) pos) (tRevS X.K te) := by
  refine ⟨fun pins s σ H Q I h => Subscript_ (thn (he.run pins s σ H _ I h) fun v s1 ⟨x, H1, I1, r1, kd, a, xs, ex, hx, q⟩ => ?_)⟩
  subst ex
  cases r1
  have hst : PO X (some (.UnaryOp .USub (.Constant (.int 1) k p1) p2)) (tPart (tUn (rU fun i => .int (-i)) (tC (.int 1)))) := po_some (pe_un un_neg pe_int)
  refine wpAny_Slice (thn (po_none.run pins s1 σ H1 (fun o H2 => o = none ∧ H2 = H1) I1 ⟨rfl, rfl⟩) fun vl s2 ⟨l, H2, I2, pl, el, e2⟩ => ?_)
  subst el e2
  refine thn (po_none.run pins s2 σ H2 (fun o H3 => o = none ∧ H3 = H2) I2 ⟨rfl, rfl⟩) fun vu s3 ⟨u, H3, I3, pu, eu, e3⟩ => ?_
  subst eu e3
  refine thn (hst.run pins s3 σ H3 (fun o H4 => o = some (-1) ∧ H4 = H3) I3 ⟨1, rfl, -1, rfl, rfl, rfl⟩) fun vs s4 ⟨o, H4, I4, ps, eo, e4⟩ => ?_
  subst eo e4
  have I5 : Inv X pins σ H4 { s4 with heap := s4.heap.push { cls := .type "slice", data := .fields #[vl, vu, vs] } } := I4.kept (t' := s4.toks) fun b ob q => Heap.get?_push_of_some _ q
  cases kd with
  | false =>
    obtain ⟨its, r, ht, hz⟩ := I5.list hx
    have hlen := r.length
    refine tail_any (ops := [.ref a, .ref s4.heap.objs.size]) ht.isList.typeIs (PySem.slot_list_getitem.lookup) ?_ (by with_unfolding_all rfl)
    refine wpAny_getItem_list_slice ht.isList (Heap.IsSliceOf.new _ vl vu vs) pl pu ps (by decide) ?_ (by rw [List.size_toArray]; omega)
    rw [PySem.W.krv_pick]
    exact ⟨.ref _, _, I5.laid (t' := s4.toks) (o := .lst xs.reverse) (fun b ob q => Heap.get?_push_of_some _ q) (Nat.le_refl _) ⟨by rw [List.length_reverse]; exact hz, _, 0, r.reverse, Heap.get?_push_size _ rfl⟩,
      rfl, q _ _ (Same.put (I5.hok.fresh (Nat.le_refl _))) (SqL.of upd_same)⟩
  | true =>
    obtain ⟨its, r, ht, hz⟩ := I5.tuple hx
    have hlen := r.length
    cases pl
    cases pu
    refine tail_any (ops := [.ref a, .ref s4.heap.objs.size]) ht.typeIs PyProof.Rows.slot_tuple_getitem.lookup ?_ (by with_unfolding_all rfl)
    refine cut_back ht (Heap.IsSliceOf.new _ .none .none vs) ps (by rw [List.size_toArray]; omega) ?_
    exact ⟨.ref _, _, I5.laid (t' := s4.toks) (o := .tup xs.reverse) (fun b ob q => Heap.get?_push_of_some _ q) (Nat.le_refl _) ⟨by rw [List.length_reverse]; exact hz, _, r.reverse, IsTup.new _ _⟩,
      rfl, q _ _ (Same.put (I5.hok.fresh (Nat.le_refl _))) (SqT.of upd_same)⟩
/-! built in a row -/
theorem lc_sq {K : PySem.W.Frag} {k : Bool} {a : Addr} {xs : List V} {g : TG} {tt : TT} {te : TE} {vs : List Nat} {σ : L2.St} {H1 : Hp} {D : Addr} {Qd : Hp → Prop} (Pv : Nat → Hp → Prop) (h0 : Pv 0 (upd H1 D (.lst [])))
    (hl : ∀ i H, i ≤ xs.length → Pv i H → Sq K k H a xs)
    (hs : ∀ i x H, xs[i]? = some x → Pv i H → g x (wipe σ vs) H fun σ2 H2 => wipe σ2 vs = wipe σ vs ∧ tt σ2 H2 fun b H3 =>
      if b = true then te σ2 H3 fun y H4 => ∃ acc, H4 D = some (.lst acc) ∧ acc.length < sizeLine ∧ Pv (i + 1) (upd H4 D (.lst (acc ++ [y]))) else Pv (i + 1) H3) (hd : ∀ H, Pv xs.length H → Qd H) :
    ∃ W : Nat → Nat → Hp → Prop, (∃ m, W 0 m (upd H1 D (.lst []))) ∧ ∀ i m H, W i m H →
      ((ItS K k a).stop i H ∧ Qd H) ∨ ((ItS K k a).go i H ∧ ∃ Nx : Hp → Prop, (∀ H', Nx H' → ∃ m', m' < m ∧ W (i + 1) m' H') ∧ ∀ x H', (ItS K k a).yld i H x H' → g x (wipe σ vs) H' fun σ2 H2 => wipe σ2 vs = wipe σ vs ∧ tt σ2 H2 fun b H3 =>
        if b = true then te σ2 H3 fun y H4 => ∃ acc, H4 D = some (.lst acc) ∧ acc.length < sizeLine ∧ Nx (upd H4 D (.lst (acc ++ [y]))) else Nx H3) := by
  cases k with
  | true => exact lc_tup Pv h0 hl hs hd
  | false => exact lc_list Pv h0 hl hs hd
theorem lc_enumS {K : PySem.W.Frag} {k : Bool} {a : Addr} {xs : List V} {g : TG} {tt : TT} {te : TE} {vs : List Nat} {σ : L2.St} {H1 : Hp} {D : Addr} {Qd : Hp → Prop} (Pv : Nat → Hp → Prop) (h0 : Pv 0 (upd H1 D (.lst [])))
    (hl : ∀ i H, i ≤ xs.length → Pv i H → Sq K k H a xs)
    (hs : ∀ (i : Nat) (x : V) (T : Addr) H, xs[i]? = some x → Pv i H → H T = none → g (.ref T) (wipe σ vs) (upd H T (.tup [.int (i : Nat), x])) fun σ2 H2 => wipe σ2 vs = wipe σ vs ∧ tt σ2 H2 fun b H3 =>
      if b = true then te σ2 H3 fun y H4 => ∃ acc, H4 D = some (.lst acc) ∧ acc.length < sizeLine ∧ Pv (i + 1) (upd H4 D (.lst (acc ++ [y]))) else Pv (i + 1) H3) (hd : ∀ H, Pv xs.length H → Qd H) :
    ∃ W : Nat → Nat → Hp → Prop, (∃ m, W 0 m (upd H1 D (.lst []))) ∧ ∀ i m H, W i m H →
      ((IteS K k a).stop i H ∧ Qd H) ∨ ((IteS K k a).go i H ∧ ∃ Nx : Hp → Prop, (∀ H', Nx H' → ∃ m', m' < m ∧ W (i + 1) m' H') ∧ ∀ x H', (IteS K k a).yld i H x H' → g x (wipe σ vs) H' fun σ2 H2 => wipe σ2 vs = wipe σ vs ∧ tt σ2 H2 fun b H3 =>
        if b = true then te σ2 H3 fun y H4 => ∃ acc, H4 D = some (.lst acc) ∧ acc.length < sizeLine ∧ Nx (upd H4 D (.lst (acc ++ [y]))) else Nx H3) := by
  refine ⟨fun i m H => m = xs.length - i ∧ i ≤ xs.length ∧ Pv i H, ⟨xs.length, by simp, Nat.zero_le _, h0⟩, ?_⟩
  rintro i m H ⟨rfl, hi, p⟩
  have q := hl i H hi p
  by_cases hlt : i < xs.length
  · refine .inr ⟨⟨xs, xs[i], q, List.getElem?_eq_getElem hlt⟩, Pv (i + 1), fun H' p' => ⟨xs.length - (i + 1), by omega, rfl, hlt, p'⟩, ?_⟩
    rintro _ _ ⟨T, x, rfl, nT, rfl, y⟩
    exact hs i x T _ (y xs q) p nT
  · obtain rfl : i = xs.length := by omega
    exact .inl ⟨⟨xs, q, rfl⟩, hd H p⟩
theorem lc_zipS {K : PySem.W.Frag} {k j : Bool} {a b : Addr} {xs ys : List V} {g : TG} {tt : TT} {te : TE} {vs : List Nat} {σ : L2.St} {H1 : Hp} {D : Addr} {Qd : Hp → Prop} (n : Nat) (hn : n = min xs.length ys.length) (Pv : Nat → Hp → Prop) (h0 : Pv 0 (upd H1 D (.lst [])))
    (hl : ∀ i H, i ≤ n → Pv i H → Sq K k H a xs ∧ Sq K j H b ys)
    (hs : ∀ (i : Nat) (x y : V) (T : Addr) H, xs[i]? = some x → ys[i]? = some y → Pv i H → H T = none → g (.ref T) (wipe σ vs) (upd H T (.tup [x, y])) fun σ2 H2 => wipe σ2 vs = wipe σ vs ∧ tt σ2 H2 fun b H3 =>
      if b = true then te σ2 H3 fun y H4 => ∃ acc, H4 D = some (.lst acc) ∧ acc.length < sizeLine ∧ Pv (i + 1) (upd H4 D (.lst (acc ++ [y]))) else Pv (i + 1) H3) (hd : ∀ H, Pv n H → Qd H) :
    ∃ W : Nat → Nat → Hp → Prop, (∃ m, W 0 m (upd H1 D (.lst []))) ∧ ∀ i m H, W i m H →
      ((ItzS K k j a b).stop i H ∧ Qd H) ∨ ((ItzS K k j a b).go i H ∧ ∃ Nx : Hp → Prop, (∀ H', Nx H' → ∃ m', m' < m ∧ W (i + 1) m' H') ∧ ∀ x H', (ItzS K k j a b).yld i H x H' → g x (wipe σ vs) H' fun σ2 H2 => wipe σ2 vs = wipe σ vs ∧ tt σ2 H2 fun b H3 =>
        if b = true then te σ2 H3 fun y H4 => ∃ acc, H4 D = some (.lst acc) ∧ acc.length < sizeLine ∧ Nx (upd H4 D (.lst (acc ++ [y]))) else Nx H3) := by
  refine ⟨fun i m H => m = n - i ∧ i ≤ n ∧ Pv i H, ⟨n, by simp, Nat.zero_le _, h0⟩, ?_⟩
  rintro i m H ⟨rfl, hi, p⟩
  obtain ⟨q1, q2⟩ := hl i H hi p
  by_cases hlt : i < n
  · have l1 : i < xs.length := by omega
    have l2 : i < ys.length := by omega
    refine .inr ⟨⟨xs, ys, xs[i], ys[i], q1, q2, List.getElem?_eq_getElem l1, List.getElem?_eq_getElem l2⟩, Pv (i + 1), fun H' p' => ⟨n - (i + 1), by omega, rfl, hlt, p'⟩, ?_⟩
    rintro _ _ ⟨T, x, y, rfl, nT, rfl, y1, y2⟩
    exact hs i x y T _ (y1 xs q1) (y2 ys q2) p nT
  · obtain rfl : i = n := by omega
    exact .inl ⟨⟨xs, ys, q1, q2, by omega, by omega, by omega⟩, hd H p⟩

/-! lists of ints at their places -/
def At (k : Bool) (H : Hp) (a : Addr) (p : List Int) : Prop :=
  match k with | true => H a = some (.tup (p.map V.int)) | false => H a = some (.lst (p.map V.int))
theorem At.same {k : Bool} {H H' : Hp} {a : Addr} {p : List Int} (s : Same H H') (h : At k H a p) : At k H' a p := by
  cases k with
  | true => exact s _ _ h
  | false => exact s _ _ h
theorem At.sq {K : PySem.W.Frag} {k : Bool} {H : Hp} {a : Addr} {p : List Int} (h : At k H a p) : Sq K k H a (p.map V.int) := by
  cases k with
  | true => exact SqT.of h
  | false => exact SqL.of h
theorem At.chg {k : Bool} {c : Addr} {H H' : Hp} {a : Addr} {p : List Int} (s : Chg c H H') (n : a ≠ c) (h : At k H a p) : At k H' a p := by
  cases k with
  | true => exact s _ _ n h
  | false => exact s _ _ n h
theorem At.ne {k : Bool} {H : Hp} {a b : Addr} {p : List Int} (h : At k H a p) (n : H b = none) : a ≠ b := by
  cases k with
  | true => exact ne_of_none h n
  | false => exact ne_of_none h n
theorem int_at {p : List Int} {i : Nat} {x : V} (h : (p.map V.int)[i]? = some x) : x = .int (co p i) ∧ i < p.length := by
  rw [List.getElem?_map] at h
  cases e : p[i]? with
  | none => rw [e] at h; cases h
  | some z =>
    rw [e] at h
    cases h
    have l := (List.getElem?_eq_some_iff.mp e).1
    refine ⟨?_, l⟩
    rw [co_at l, (List.getElem?_eq_some_iff.mp e).2]
theorem at_int {p : List Int} {i : Nat} (l : i < p.length) : (p.map V.int)[i]? = some (.int (co p i)) := by
  rw [List.getElem?_map, List.getElem?_eq_getElem l, co_at l]; rfl
theorem atI_int {p : List Int} {i : Nat} (l : i < p.length) : atI (p.map V.int) (i : Int) = some (.int (co p i)) := atI_nat (at_int l)
theorem atI_end {p : List Int} (h : p ≠ []) : atI (p.map V.int) (-1) = some (.int (co p (p.length - 1))) := by
  have l : 0 < p.length := List.length_pos_iff.mpr h
  have e : p = p.dropLast ++ [p.getLast h] := (List.dropLast_concat_getLast h).symm
  have z := atI_last (p.dropLast.map V.int) (.int (p.getLast h))
  have e2 : p.map V.int = p.dropLast.map V.int ++ [V.int (p.getLast h)] := by
    conv => lhs; rw [e]
    rw [List.map_append]; rfl
  rw [e2, z, co_at (by omega), List.getLast_eq_getElem]
theorem cut_to {xs : List V} {n : Nat} : cutV xs none (some (n : Int)) = xs.take n := by
  unfold cutV
  rw [HT.sIx_none, HT.sIx_nat, List.drop_zero, Nat.sub_zero]
  by_cases h : n ≤ xs.length
  · rw [Nat.min_eq_left h]
  · rw [Nat.min_eq_right (by omega), List.take_length, List.take_of_length_le (by omega)]
theorem cut_from {xs : List V} {n : Nat} : cutV xs (some (n : Int)) none = xs.drop n := by
  unfold cutV
  rw [HT.sIx_none, HT.sIx_nat]
  by_cases h : n ≤ xs.length
  · rw [Nat.min_eq_left h, List.take_of_length_le (by rw [List.length_drop]; omega)]
  · rw [Nat.min_eq_right (by omega), List.drop_length, List.drop_eq_nil_of_le (by omega), List.take_nil]
theorem set_int {p : List Int} {i : Nat} (l : i < p.length) (z : Int) : ixN (p.map V.int).length (i : Int) = some i ∧ (p.map V.int).set i (.int z) = (p.set i z).map V.int := by
  refine ⟨?_, by rw [List.map_set]⟩
  unfold ixN
  rw [if_pos (by omega), if_pos (by rw [List.length_map]; omega)]; rfl
theorem co_set {p : List Int} {i : Nat} (l : i < p.length) (z : Int) (t : Nat) : co (p.set i z) t = if t = i then z else co p t := by
  unfold co
  rw [List.getD_eq_getElem?_getD, List.getElem?_set]
  by_cases e : t = i
  · subst e; simp [l]
  · rw [if_neg (fun z => e z.symm), if_neg e]; rfl
/-- numbers of any use here -/
@[irreducible] def big : Nat := 60000000
theorem big_two : big + big ≤ 134217728 := by unfold big; decide
theorem big_le {n : Nat} (h : n ≤ 60000000) : n ≤ big := by unfold big; exact h
theorem mulx_big {i j : Int} (hi : i.natAbs < 2 ^ big) (hj : j.natAbs < 2 ^ big) : CMulX i j := mulx_ok hi hj big_two
theorem bd_big {k : Nat} {p : List Int} (h : Bd k p) (l : k ≤ 60000000) : Bd big p := h.mono (big_le l)
theorem pow_big {k : Nat} {z : Int} (h : z.natAbs < 2 ^ k) (l : k ≤ 60000000) : z.natAbs < 2 ^ big := Nat.lt_of_lt_of_le h (Nat.pow_le_pow_right (by decide) (big_le l))
theorem int_big {z : Int} (h : z.natAbs ≤ 1000000000000) : z.natAbs < 2 ^ big := pow_big (k := 40) (Nat.lt_of_le_of_lt h (by decide)) (by decide)
/-- a line -/
structure Ln (k : Bool) (H : Hp) (a : Addr) (p : List Int) : Prop where
  at_ : At k H a p
  cn : Cn p
  len : p.length ≤ 13
  bd : Bd 100000 p
theorem Ln.same {k : Bool} {H H' : Hp} {a : Addr} {p : List Int} (s : Same H H') (h : Ln k H a p) : Ln k H' a p := ⟨h.at_.same s, h.cn, h.len, h.bd⟩
theorem Ln.chg {k : Bool} {c : Addr} {H H' : Hp} {a : Addr} {p : List Int} (s : Chg c H H') (n : a ≠ c) (h : Ln k H a p) : Ln k H' a p := ⟨h.at_.chg s n, h.cn, h.len, h.bd⟩
theorem lineB_ints {p : List Int} (c : Cn p) (l : p.length ≤ 13) : lineB (p.map V.int) = true := by
  unfold lineB
  rw [List.length_map, decide_eq_true l, show (p.map V.int).all isI = true from List.all_eq_true.mpr fun x hx => by obtain ⟨z, _, rfl⟩ := List.mem_map.mp hx; rfl]
  by_cases h : p = []
  · subst h; rfl
  rw [List.getLast?_map, List.getLast?_eq_some_getLast h]
  have z := c _ (List.getLast?_eq_some_getLast h)
  have : decide (some (V.int (p.getLast h)) = some (V.int 0)) = false := decide_eq_false fun e => z (by injection e with e; injection e)
  simp only [Option.map_some, this]
  simp
theorem Ln.val {k : Bool} {H : Hp} {a : Addr} {p : List Int} (h : Ln k H a p) : Val H (.ref a) true := by
  have e := lineB_ints h.cn h.len
  have kd : ∀ x ∈ p.map V.int, ∃ k, Kd H x k := fun x hx => by obtain ⟨z, _, rfl⟩ := List.mem_map.mp hx; exact ⟨_, .int z⟩
  have l : (p.map V.int).length ≤ 1000 := by rw [List.length_map]; have := h.len; omega
  cases k with
  | true => have v := Val.tup h.at_ kd l; rwa [e] at v
  | false => have v := Val.lst h.at_ kd l; rwa [e] at v
/-- a new list of ints -/
abbrev NewL (H : Hp) (r : List Int) (Q : VK) : Prop := ∀ H' a, Same H H' → H a = none → H' a = some (.lst (r.map V.int)) → Q (.ref a) H'
theorem dp_ints {K : PySem.W.Frag} {H : Hp} : ∀ p : List Int, DpAll K H (p.map V.int) (p.map PyData.int)
  | [] => .nil
  | a :: p => .cons (.int a) (dp_ints p)
theorem At.dp {K : PySem.W.Frag} {H : Hp} {a : Addr} {p : List Int} (h : At false H a p) : Dp K H (.ref a) (.list (p.map PyData.int)) := .lst (SqL.of h) (dp_ints p)
theorem eqv_ints : ∀ p q : List Int, PyData.eqvAll (p.map PyData.int) (q.map PyData.int) = decide (p = q)
  | [], [] => by simp [PyData.eqvAll]
  | [], _ :: _ => by simp [PyData.eqvAll]
  | _ :: _, [] => by simp [PyData.eqvAll]
  | a :: p, b :: q => by
    have ih := eqv_ints p q
    simp only [List.map_cons, PyData.eqvAll, PyData.eqv, ih]
    by_cases e : a = b
    · subst e; simp
    · have : (a == b) = false := by simpa using e
      rw [this]; simp [e]
theorem shaped_ints (p : List Int) : SeqAt.shaped (.list (p.map PyData.int)) = true := by
  have h1 : ∀ p : List Int, PyData.canLayAll0 (p.map PyData.int) = true := by
    intro p
    induction p with
    | nil => simp [PyData.canLayAll0]
    | cons a p ih => simp [PyData.canLayAll0, PyData.canLay0, ih]
  have h2 : ∀ p : List Int, PyData.depthAll (p.map PyData.int) ≤ 1 := by
    intro p
    induction p with
    | nil => simp [PyData.depthAll]
    | cons a p ih => simp only [List.map_cons, PyData.depthAll, PyData.depth]; omega
  unfold SeqAt.shaped
  rw [show PyData.canLay0 (.list (p.map PyData.int)) = true by simpa [PyData.canLay0] using h1 p]
  have := h2 p
  have h3 : PyData.depth (.list (p.map PyData.int)) ≤ 64 := by simp only [PyData.depth]; omega
  rw [Bool.true_and]
  exact decide_eq_true h3
/-- two lists of ints held against each other -/
theorem neL {K : PySem.W.Frag} {H : Hp} {a b : Addr} {p q : List Int} {Q : VK} (h : At false H a p) (g : At false H b q) (e : Q (.bl (!decide (p = q))) H) : rNeD K (.ref a) (.ref b) H Q :=
  ⟨_, _, h.dp, g.dp, shaped_ints p, shaped_ints q, by rw [show PyData.eqv (.list (p.map PyData.int)) (.list (q.map PyData.int)) = decide (p = q) by simp only [PyData.eqv]; exact eqv_ints p q]; exact e⟩
theorem eqL {K : PySem.W.Frag} {H : Hp} {a b : Addr} {p q : List Int} {Q : VK} (h : At false H a p) (g : At false H b q) (e : Q (.bl (decide (p = q))) H) : rEqD K (.ref a) (.ref b) H Q :=
  ⟨_, _, h.dp, g.dp, shaped_ints p, shaped_ints q, by rw [show PyData.eqv (.list (p.map PyData.int)) (.list (q.map PyData.int)) = decide (p = q) by simp only [PyData.eqv]; exact eqv_ints p q]; exact e⟩
/-- xs[i] ahead of xs[i] += .. -/
def rGetL (K : PySem.W.Frag) : V → V → Hp → VK → Prop := fun x y H Q => ∃ (p : Addr) (xs : List V) (i : Nat) (v : V), x = .ref p ∧ y = .int (i : Nat) ∧ SqL K H p xs ∧ xs[i]? = some v ∧ Q v H
theorem get_L {X : Cx} : PGet X (rGetL X.K) := by
  intro pins s σ H o i ov iv Q I ro ri ⟨p, xs, i, v, e1, e2, hq, he, q⟩
  subst e1 e2
  cases ro
  obtain ⟨t, rfl⟩ := ri
  obtain ⟨its, r, pl, hz⟩ := I.list hq
  obtain ⟨w, ew, rw'⟩ := r.get he
  have l := (List.getElem?_eq_some_iff.mp he).1
  have hn := line63
  have hl := r.length
  exact wpAny_getItem_list pl.isList (by omega) (by omega) (by simpa using ew) ⟨v, H, I, rw', q⟩
theorem ix_listK {X : Cx} {K : PySem.W.Frag} (h : X.K = K) : IxR X (rIxL K) := by subst h; exact ix_list
end Kr
/-! What the program's sums of powers promise. -/
namespace Kr
open PySem PySem.Spec
open PyProof.Rows L2

def spTrim : Sp := fun vs H Q _ => ∃ (a : Addr) (p : List Int), vs = [.ref a] ∧ At false H a p ∧ p.length ≤ 1000 ∧ NewL H (trim p) Q
def spScaled : Sp := fun vs H Q _ => ∃ (k : Bool) (a : Addr) (p : List Int) (f : Int), vs = [.ref a, .int f] ∧ At k H a p ∧ p.length ≤ 1000 ∧
  Bd big p ∧ f.natAbs < 2 ^ big ∧ NewL H (trim (sclF f p)) Q
def spPSum : Sp := fun vs H Q _ => ∃ (k j : Bool) (a b : Addr) (p q : List Int), vs = [.ref a, .ref b] ∧ At k H a p ∧ At j H b q ∧
  p.length ≤ 500 ∧ q.length ≤ 500 ∧ NewL H (trim (addF p q)) Q
def spPLess : Sp := fun vs H Q _ => ∃ (k j : Bool) (a b : Addr) (p q : List Int), vs = [.ref a, .ref b] ∧ At k H a p ∧ At j H b q ∧
  p.length ≤ 500 ∧ q.length ≤ 500 ∧ Bd big q ∧ NewL H (trim (addF p (sclF (-1) q))) Q
def spPTimes : Sp := fun vs H Q _ => ∃ (k j : Bool) (a b : Addr) (p q : List Int), vs = [.ref a, .ref b] ∧ At k H a p ∧ At j H b q ∧
  p.length ≤ 500 ∧ q.length ≤ 500 ∧ Bd big p ∧ Bd big q ∧ NewL H (mulF p q) Q
def spPValue : Sp := fun vs H Q _ => ∃ (k : Bool) (a : Addr) (p : List Int) (x : Int), vs = [.ref a, .int x] ∧ At k H a p ∧ p.length ≤ 1000 ∧
  Bd 1000000 p ∧ x.natAbs < 2 ^ 1000 ∧ ∀ H', Same H H' → Q (.int (ev x p)) H'
def spPSlope : Sp := fun vs H Q _ => ∃ (k : Bool) (a : Addr) (p : List Int), vs = [.ref a] ∧ At k H a p ∧ p.length ≤ 1000 ∧ Bd big p ∧ NewL H (slF p) Q
def spContent : Sp := fun vs H Q _ => ∃ (k : Bool) (a : Addr) (p : List Int), vs = [.ref a] ∧ At k H a p ∧ p.length ≤ 1000 ∧
  ∀ H', Same H H' → Q (.int (cnt p : Nat)) H'
def spPPlain : Sp := fun vs H Q _ => ∃ (a : Addr) (p : List Int), vs = [.ref a] ∧ At false H a p ∧ p.length ≤ 1000 ∧ Cn p ∧ cnt p < 1073741824 ∧ NewL H (plF p) Q
def spCheck : Sp := fun vs H Q _ => ∃ v : V, vs = [v] ∧ Val H v true ∧ ∀ H', Same H H' → Q .non H'
def spChecks : Sp := fun vs H Q _ => ∃ v u : V, vs = [v, u] ∧ Val H v true ∧ Val H u true ∧ ∀ H', Same H H' → Q .non H'
def spDegree : Sp := fun vs H Q _ => ∃ (k : Bool) (a : Addr) (p : List Int), vs = [.ref a] ∧ Ln k H a p ∧ ∀ H', Same H H' → Q (.int ((p.length : Int) - 1)) H'
def spLnV : Sp := fun vs H Q _ => ∃ (k : Bool) (a : Addr) (p : List Int) (x : Int), vs = [.ref a, .int x] ∧ Ln k H a p ∧ x.natAbs < 2 ^ 1000 ∧
  ∀ H', Same H H' → Q (.int (ev x p)) H'
def spLnS : Sp := fun vs H Q _ => ∃ (k : Bool) (a : Addr) (p : List Int), vs = [.ref a] ∧ Ln k H a p ∧ NewL H (slF p) Q
def spLnP : Sp := fun vs H Q _ => ∃ (a : Addr) (p : List Int), vs = [.ref a] ∧ Ln false H a p ∧ cnt p < 1073741824 ∧ NewL H (plF p) Q
def spLn2 (f : List Int → List Int → List Int) (c : List Int → List Int → Prop) : Sp := fun vs H Q _ =>
  ∃ (k j : Bool) (a b : Addr) (p q : List Int), vs = [.ref a, .ref b] ∧ Ln k H a p ∧ Ln j H b q ∧ c p q ∧ NewL H (f p q) Q
/-- the law's own ones -/
def spLSum : Sp := fun vs H Q _ => ∃ (a b : Addr) (p q : List Int) (f : Int), vs = [.ref a, .ref b, .int f] ∧ At false H a p ∧ At false H b q ∧
  p.length ≤ 500 ∧ q.length ≤ 500 ∧ Bd big q ∧ f.natAbs < 2 ^ big ∧ NewL H (trim (addF p (sclF f q))) Q
def spLTimes : Sp := fun vs H Q _ => ∃ (a b : Addr) (p q : List Int), vs = [.ref a, .ref b] ∧ At false H a p ∧ At false H b q ∧
  p.length ≤ 500 ∧ q.length ≤ 500 ∧ Bd big p ∧ Bd big q ∧ NewL H (trim (mulF p q)) Q
def spLValue : Sp := fun vs H Q _ => ∃ (a : Addr) (p : List Int) (x : Int), vs = [.ref a, .int x] ∧ At false H a p ∧ p.length ≤ 1000 ∧
  Bd 1000000 p ∧ x.natAbs < 2 ^ 1000 ∧ ∀ H', Same H H' → Q (.int (ev x p)) H'
def spLSlope : Sp := fun vs H Q _ => ∃ (a : Addr) (p : List Int), vs = [.ref a] ∧ At false H a p ∧ p.length ≤ 1000 ∧ Bd big p ∧ NewL H (slF p) Q
def spLGreat : Sp := fun vs H Q _ => ∃ (a : Addr) (p : List Int), vs = [.ref a] ∧ At false H a p ∧ p.length ≤ 1000 ∧ (∀ z ∈ p, z.natAbs < 1073741824) ∧
  Q (.int (cnt p : Nat)) H
def spLPlain : Sp := fun vs H Q _ => ∃ (a : Addr) (p : List Int), vs = [.ref a] ∧ At false H a p ∧ p.length ≤ 1000 ∧ Cn p ∧ (∀ z ∈ p, z.natAbs < 1073741824) ∧
  NewL H (plF p) Q

def spDrawn : Sp := fun vs H Q _ => ∃ a : Addr, vs = [.ref a] ∧ PotAt H a ∧ ∀ (H' : Hp) (r : Addr) (p : List Int), Chg a H H' → PotAt H' a → H r = none → r ≠ a →
  At false H' r p → p.length ≤ 7 → (∀ z ∈ p, z.natAbs ≤ 12) → Cn p → Q (.ref r) H'
theorem Same.ov {H H' : Hp} {D : Addr} {o : HO} (n : H D = none) (s : Same H H') : Same H (upd H' D o) := by
  intro b x e
  rw [upd_ne (ne_of_none e n)]
  exact s _ _ e
theorem NewL.go {H H1 : Hp} {r : List Int} {Q : VK} (q : NewL H r Q) (s : Same H H1) : NewL H1 r Q := fun H' a s1 n e => q H' a (Same.trans s s1) (s.free n) e
theorem NewL.at_ {H H' : Hp} {r : List Int} {Q : VK} {a : Addr} (q : NewL H r Q) (s : Same H H') (n : H a = none) (e : H' a = some (.lst (r.map V.int))) : Q (.ref a) H' := q H' a s n e

/-! what the loops come to -/
theorem co_take {p : List Int} {n i : Nat} : co (p.take n) i = if i < n then co p i else 0 := by
  unfold co
  rw [List.getD_eq_getElem?_getD, List.getD_eq_getElem?_getD, List.getElem?_take]
  split <;> rfl
theorem trim_take {p : List Int} {n : Nat} (hn : n ≤ p.length) (h : ∀ i, n ≤ i → co p i = 0) (e : n = 0 ∨ co p (n - 1) ≠ 0) : trim p = p.take n := by
  refine co_ext (cn_trim _) (cn_of fun h0 => ?_) fun i => ?_
  · have l : (p.take n).length = n := by rw [List.length_take]; omega
    have n0 : n ≠ 0 := by intro z; subst z; exact h0 rfl
    rw [l, co_take, if_pos (by omega)]
    exact e.resolve_left n0
  · rw [co_trim, co_take]
    split
    · rfl
    · exact h i (by omega)
theorem cnt_snoc (p : List Int) (z : Int) : cnt (p ++ [z]) = Nat.gcd (cnt p) z.natAbs := by
  unfold cnt
  rw [List.foldr_append]
  simp only [List.foldr_cons, List.foldr_nil, Nat.gcd_zero_right]
  induction p with
  | nil => simp
  | cons a p ih => simp only [List.foldr_cons, ih, Nat.gcd_assoc]
theorem take_co {p : List Int} {i : Nat} (l : i < p.length) : p.take (i + 1) = p.take i ++ [co p i] := by
  rw [List.take_add_one, List.getElem?_eq_getElem l, co_at l]; rfl
theorem cv_delta (i : Nat) (c : Int) : ∀ (t : Nat) (g : Fn), cv (fun n => if n = i then c else 0) g t = if i ≤ t then c * g (t - i) else 0 := by
  induction i with
  | zero =>
    intro t g
    have z : (fun n => if n + 1 = 0 then c else 0) = fun _ : Nat => (0 : Int) := by funext n; rw [if_neg (by omega)]
    cases t with
    | zero => simp [cv]
    | succ t => rw [cv, z, cv_zero]; simp
  | succ i ih =>
    intro t g
    have z : (fun n => if n + 1 = i + 1 then c else 0) = fun n : Nat => if n = i then c else (0 : Int) := by
      funext n
      by_cases e : n = i
      · rw [if_pos e, if_pos (by omega)]
      · rw [if_neg e, if_neg (by omega)]
    cases t with
    | zero => simp [cv]
    | succ t =>
      rw [cv, z, ih t g]
      simp only [show (0 = i + 1) = False by simp, if_false, Int.zero_mul, Int.zero_add, Nat.add_le_add_iff_right, Nat.add_sub_add_right]
theorem cv_take {p : List Int} {i : Nat} (g : Fn) (t : Nat) (l : i < p.length) : cv (co (p.take (i + 1))) g t = cv (co (p.take i)) g t + if i ≤ t then co p i * g (t - i) else 0 := by
  have e : co (p.take (i + 1)) = fun n => co (p.take i) n + if n = i then co p i else 0 := by
    funext n
    rw [co_take, co_take]
    by_cases h1 : n < i
    · rw [if_pos (by omega), if_pos h1, if_neg (by omega), Int.add_zero]
    · by_cases h2 : n = i
      · rw [if_pos (by omega), if_neg h1, if_pos h2, h2, Int.zero_add]
      · rw [if_neg (by omega), if_neg h1, if_neg h2, Int.add_zero]
  rw [e, cv_add_l, cv_delta]
theorem list_co {p q : List Int} (l : p.length = q.length) (h : ∀ i, i < p.length → co p i = co q i) : p = q :=
  List.ext_getElem l fun i h1 h2 => by have := h i h1; rwa [co_at h1, co_at h2] at this
theorem mul_tab {p q r : List Int} (hp : p ≠ []) (hq : q ≠ []) (l : r.length = p.length + q.length - 1) (h : ∀ t, t < r.length → co r t = cv (co p) (co q) t) : r = mulF p q :=
  list_co (l.trans (mulF_length hp hq).symm) fun i hi => by rw [h i hi, co_mul]
theorem co_rep (n i : Nat) : co (List.replicate n 0) i = 0 := by
  unfold co
  rw [List.getD_eq_getElem?_getD, List.getElem?_replicate]
  split <;> rfl
theorem rep0 (n : Nat) : (List.replicate n [V.int 0]).flatten = (List.replicate n (0 : Int)).map V.int := by
  induction n with
  | zero => rfl
  | succ n ih => rw [List.replicate_succ, List.flatten_cons, ih, List.replicate_succ]; rfl
/-- within a row of the product -/
def row (p q : List Int) (i j t : Nat) : Int := cv (co (p.take i)) (co q) t + if i ≤ t ∧ t < i + j then co p i * co q (t - i) else 0
theorem row_0 (p q : List Int) (i t : Nat) : row p q i 0 t = cv (co (p.take i)) (co q) t := by
  unfold row; rw [if_neg (by omega), Int.add_zero]
theorem row_s {p q : List Int} {i j t : Nat} : row p q i (j + 1) t = if t = i + j then row p q i j t + co p i * co q j else row p q i j t := by
  unfold row
  by_cases e : t = i + j
  · rw [if_pos e, if_pos (by omega), if_neg (by omega), show t - i = j by omega]; omega
  · rw [if_neg e]
    by_cases h : i ≤ t ∧ t < i + j
    · rw [if_pos h, if_pos (by omega)]
    · rw [if_neg h, if_neg (by omega)]
theorem row_end {p q : List Int} {i t : Nat} (l : i < p.length) : row p q i q.length t = cv (co (p.take (i + 1))) (co q) t := by
  rw [cv_take _ _ l]
  unfold row
  by_cases h : i ≤ t
  · rw [if_pos h]
    by_cases h2 : t < i + q.length
    · rw [if_pos ⟨h, h2⟩]
    · rw [if_neg (by omega), co_big (p := q) (by omega), Int.mul_zero]
  · rw [if_neg h, if_neg (by omega)]
theorem ev_rev (x : Int) (p : List Int) (i : Nat) (z : Int) (h : p.reverse[i]? = some z) :
    ev x (p.reverse.take (i + 1)).reverse = ev x (p.reverse.take i).reverse * x + z := by
  rw [List.take_add_one, h, List.reverse_append]
  show z + x * ev x (p.reverse.take i).reverse = _
  rw [Int.mul_comm, Int.add_comm]
theorem bd_sub {k : Nat} {p q : List Int} (h : Bd k p) (s : ∀ z ∈ q, z ∈ p) : Bd k q := fun z hz => h z (s z hz)
theorem ev_part {p : List Int} {x : Int} (i : Nat) (hl : p.length ≤ 1000) (h : Bd 1000000 p) (hx : x.natAbs < 2 ^ 1000) : (ev x (p.reverse.take i).reverse).natAbs < 2 ^ big := by
  have b : Bd 1000000 (p.reverse.take i).reverse := bd_sub h fun z hz => List.mem_reverse.mp (List.mem_of_mem_take (List.mem_reverse.mp hz))
  have l : (p.reverse.take i).reverse.length ≤ 1000 := by rw [List.length_reverse, List.length_take, List.length_reverse]; omega
  refine pow_big (ev_bd x hx _ b) ?_
  have := Nat.mul_le_mul_right (1000 + 1) l
  omega
theorem sl_row {p : List Int} {i : Nat} : (List.range (i + 1 - 1)).map (dv (co p)) = (if 0 < i then ((List.range (i - 1)).map (dv (co p))) ++ [(i : Int) * co p i] else (List.range (i - 1)).map (dv (co p))) := by
  cases i with
  | zero => rfl
  | succ i =>
    rw [if_pos (Nat.succ_pos i), Nat.add_sub_cancel, Nat.add_sub_cancel, List.range_succ, List.map_append]
    rfl
theorem co_app {p q : List Int} {i : Nat} : co (p ++ q) i = if i < p.length then co p i else co q (i - p.length) := by
  unfold co
  rw [List.getD_eq_getElem?_getD, List.getD_eq_getElem?_getD, List.getD_eq_getElem?_getD, List.getElem?_append]
  split <;> rfl
theorem co_pad (p : List Int) (n i : Nat) : co (p ++ List.replicate n 0) i = co p i := by
  rw [co_app]
  split
  · rfl
  · rw [co_rep, co_big (by omega)]
theorem co_zip {p q : List Int} (g : Int → Int → Int) (g0 : g 0 0 = 0) (l : p.length = q.length) (i : Nat) : co (List.zipWith g p q) i = g (co p i) (co q i) := by
  by_cases h : i < p.length
  · rw [co_at (by rw [List.length_zipWith]; omega), List.getElem_zipWith, co_at h, co_at (by omega)]
  · rw [co_big (by rw [List.length_zipWith]; omega), co_big (by omega), co_big (by omega), g0]
theorem pad_sum {p q : List Int} (f : Int) {n m : Nat} (l : p.length + n = q.length + m) :
    trim (List.zipWith (fun x y => x + f * y) (p ++ List.replicate n 0) (q ++ List.replicate m 0)) = trim (addF p (sclF f q)) := trim_ext fun i => by
  rw [co_zip _ (by simp) (by simpa using l), co_pad, co_pad, co_add, co_scl]
theorem trim_tab {p q r : List Int} (l : p.length + q.length ≤ r.length) (h : ∀ t, t < r.length → co r t = cv (co p) (co q) t) : trim r = trim (mulF p q) := trim_ext fun i => by
  by_cases hi : i < r.length
  · rw [h i hi, co_mul]
  · rw [co_big (by omega), co_big (Nat.le_trans (mulF_le p q) (by omega))]
theorem drop_last {p : List Int} (h : p ≠ []) : (p.map V.int)[(p.map V.int).length - 1]? = some (.int (co p (p.length - 1))) ∧ (p.map V.int).dropLast = (p.take (p.length - 1)).map V.int := by
  have l : 0 < p.length := List.length_pos_iff.mpr h
  refine ⟨by rw [List.length_map]; exact at_int (by omega), ?_⟩
  rw [List.dropLast_eq_take, List.length_map, List.map_take]
/-- one step of the greatest common divisor -/
theorem euclid {x y : Nat} (h : y ≠ 0) : ((x : Int) - (x : Int).fdiv y * y) = ((x % y : Nat) : Int) ∧ (x : Int).fdiv y = ((x / y : Nat) : Int) ∧ Nat.gcd y (x % y) = Nat.gcd x y := by
  have e : (x : Int).fdiv y = ((x / y : Nat) : Int) := by
    rw [Int.fdiv_eq_ediv_of_nonneg _ (by omega)]; rfl
  refine ⟨?_, e, ?_⟩
  · rw [e]
    have h2 := Nat.div_add_mod x y
    have h3 : ((y * (x / y) + x % y : Nat) : Int) = x := by rw [h2]
    rw [Int.natCast_add, Int.natCast_mul] at h3
    rw [Int.mul_comm]; omega
  · rw [Nat.gcd_comm y, ← Nat.gcd_rec, Nat.gcd_comm]
theorem Chg.ov {a D : Addr} {H H' : Hp} {o : HO} (n : H D = none) (s : Chg a H H') : Chg a H (upd H' D o) := by
  intro b x nb e
  rw [upd_ne (ne_of_none e n)]
  exact s _ _ nb e
theorem Chg.free {a D : Addr} {H H' : Hp} (s : Chg a H H') (na : D ≠ a) (n : H' D = none) : H D = none := by
  cases e : H D with
  | none => rfl
  | some o => have := s _ _ na e; rw [n] at this; cases this
/-- a part of a law that holds -/
def spHolds : Sp := fun vs H Q _ => ∃ a : Addr, vs = [.ref a] ∧ PotAt H a ∧
  ∀ H', Chg a H H' → PotAt H' a → Q (.bl true) H'
/-- a drawn line -/
structure Sm (p : List Int) : Prop where
  cn : Cn p
  len : p.length ≤ 7
  sm : ∀ z ∈ p, z.natAbs ≤ 12
theorem Sm.bd {p : List Int} (s : Sm p) : Bd 4 p := fun z hz => Nat.lt_of_le_of_lt (s.sm z hz) (by decide)
theorem Sm.ln {k : Bool} {H : Hp} {a : Addr} {p : List Int} (s : Sm p) (h : At k H a p) : Ln k H a p := ⟨h, s.cn, by have := s.len; omega, s.bd.mono (by decide)⟩
theorem scl_1 (p : List Int) : sclF 1 p = p := by
  unfold sclF
  exact (List.map_congr_left fun z _ => Int.one_mul z).trans (List.map_id p)
def dOf (k : Bool) (p : List Int) : PyData :=
  match k with | true => .tuple (p.map PyData.int) | false => .list (p.map PyData.int)
theorem At.d {K : PySem.W.Frag} {k : Bool} {H : Hp} {a : Addr} {p : List Int} (h : At k H a p) : Dp K H (.ref a) (dOf k p) := by
  cases k with
  | true => exact .tup (SqT.of h) (dp_ints p)
  | false => exact .lst (SqL.of h) (dp_ints p)
theorem ints_all {p : List Int} (h : ∀ z ∈ p, z.natAbs ≤ 1000000000) : PyData.showableAll (p.map PyData.int) = true ∧ PyData.hasDictAll (p.map PyData.int) = false ∧
    PyData.depthAll (p.map PyData.int) ≤ 1 ∧ PyData.leavesShortAll 13 (p.map PyData.int) = true ∧ PyData.bulkAll (p.map PyData.int) ≤ 101 * p.length := by
  induction p with
  | nil => exact ⟨by simp [PyData.showableAll], by simp [PyData.hasDictAll], by simp [PyData.depthAll], by simp [PyData.leavesShortAll], by simp [PyData.bulkAll]⟩
  | cons a p ih =>
    obtain ⟨h1, h2, h3, h4, h5⟩ := ih fun z hz => h z (List.mem_cons_of_mem _ hz)
    have ha := h a List.mem_cons_self
    have hs : PyData.showable (.int a) = true := by simpa [PyData.showable] using log2_small ha
    have hL : PyData.leavesShort 13 (.int a) = true := by simpa only [PyData.leavesShort, decide_eq_true_eq] using PyData.shown_int_le2 (by omega) (by omega)
    refine ⟨by simp only [List.map_cons, PyData.showableAll, hs, h1]; rfl, by simp only [List.map_cons, PyData.hasDictAll, h2, PyData.hasDict]; rfl, ?_, by simp only [List.map_cons, PyData.leavesShortAll, hL, h4]; rfl, ?_⟩
    · simp only [List.map_cons, PyData.depthAll, PyData.depth]; omega
    · simp only [List.map_cons, PyData.bulkAll, PyData.bulk, List.length_cons]; omega
theorem dOf_ok {k : Bool} {p : List Int} (h : ∀ z ∈ p, z.natAbs ≤ 1000000000) : PyData.showable (dOf k p) = true ∧ PyData.hasDict (dOf k p) = false ∧
    PyData.depth (dOf k p) ≤ 2 ∧ PyData.leavesShort 13 (dOf k p) = true ∧ PyData.bulk (dOf k p) ≤ 101 * p.length + 100 := by
  obtain ⟨h1, h2, h3, h4, h5⟩ := ints_all h
  cases k with
  | true => exact ⟨by simpa [dOf, PyData.showable] using h1, by simpa [dOf, PyData.hasDict] using h2, by simp only [dOf, PyData.depth]; omega, by simpa [dOf, PyData.leavesShort] using h4, by simp only [dOf, PyData.bulk]; omega⟩
  | false => exact ⟨by simpa [dOf, PyData.showable] using h1, by simpa [dOf, PyData.hasDict] using h2, by simp only [dOf, PyData.depth]; omega, by simpa [dOf, PyData.leavesShort] using h4, by simp only [dOf, PyData.bulk]; omega⟩
/-- two lines in a list, shown -/
theorem sh_two {K : PySem.W.Frag} {k j : Bool} {H : Hp} {u a b : Addr} {p q : List Int} (e : H u = some (.lst [.ref a, .ref b])) (ha : At k H a p) (hb : At j H b q)
    (hp : ∀ z ∈ p, z.natAbs ≤ 1000000000) (hq : ∀ z ∈ q, z.natAbs ≤ 1000000000) (lp : p.length ≤ 1000) (lq : q.length ≤ 1000) : Sh K H (.ref u) (PyData.shown (.list [dOf k p, dOf j q])) := by
  obtain ⟨a1, a2, a3, a4, a5⟩ := dOf_ok (k := k) hp
  obtain ⟨b1, b2, b3, b4, b5⟩ := dOf_ok (k := j) hq
  refine .dat (d := .list [dOf k p, dOf j q]) (.lst (SqL.of e) (.cons ha.d (.cons hb.d .nil))) (by simp [PyData.showable, PyData.showableAll, a1, b1]) (by simp [PyData.hasDict, PyData.hasDictAll, a2, b2]) (by simp only [PyData.depth, PyData.depthAll]; omega) ?_
  exact PyData.shown_fits_bulk (B := 13) (by decide) (by decide) (by simp [PyData.leavesShort, PyData.leavesShortAll, a4, b4]) (by simp only [PyData.bulk, PyData.bulkAll]; rw [pow20]; omega)
/-- tuple(x) or list(x) -/
theorem ite_seq {K : PySem.W.Frag} {c : Bool} {P : V → Hp → Prop} {σ : L2.St} {H1 : Hp} {b : Addr} {p : List Int} {i : Nat} (hσ : σ[i]? = some (some (.ref b))) (hb : At false H1 b p)
    (h : ∀ (k : Bool) (x : Addr) (H2 : Hp), Same H1 H2 → H1 x = none → At k H2 x p → P (.ref x) H2) :
    if c = true then tCB (fun xs H Q => ∃ p ys, xs = [.ref p] ∧ ((SqL K H p ys ∧ ∀ l, H l = none → Q (.ref l) (upd H l (.tup ys))) ∨ (SqT K H p ys ∧ Q (.ref p) H))) (tCons (tVar i) tNil) σ H1 P
    else tCB (fun xs H Q => ∃ p ys, xs = [.ref p] ∧ (SqL K H p ys ∨ SqT K H p ys) ∧ ∀ l, H l = none → Q (.ref l) (upd H l (.lst ys))) (tCons (tVar i) tNil) σ H1 P := by
  cases c with
  | true => exact ifT rfl ⟨_, hσ, b, _, rfl, .inl ⟨SqL.of hb, fun l nl => h true l _ (Same.put nl) nl upd_same⟩⟩
  | false => exact ifF rfl ⟨_, hσ, b, _, rfl, .inl (SqL.of hb), fun l nl => h false l _ (Same.put nl) nl upd_same⟩
theorem At.ovn {k : Bool} {H : Hp} {a o : Addr} {p : List Int} {v : HO} (h : At k H a p) (n : a ≠ o) : At k (upd H o v) a p := by
  cases k with
  | true => exact (upd_ne n).trans h
  | false => exact (upd_ne n).trans h
theorem PotAt.ovn {H : Hp} {a o : Addr} {v : HO} (h : PotAt H a) (n : a ≠ o) : PotAt (upd H o v) a := by
  obtain ⟨P, R, e, r⟩ := h
  exact ⟨P, R, (upd_ne n).trans e, r⟩
theorem Sm.cnt {p : List Int} (s : Sm p) : Kr.cnt p ≤ 12 := by
  by_cases h : p = []
  · subst h; decide
  · exact Nat.le_trans (cnt_le (List.getLast_mem h) (s.cn _ (List.getLast?_eq_some_getLast h))) (s.sm _ (List.getLast_mem h))
theorem less_self (p : List Int) : trim (addF p (sclF (-1) p)) = [] := co_ext (cn_trim _) cn_nil fun i => by
  rw [co_trim, co_add, co_scl, co_nil]
  show co p i + -1 * co p i = 0
  omega
theorem sum_nil {p : List Int} (c : Cn p) : trim (addF p []) = p := co_ext (cn_trim _) c fun i => by
  rw [co_trim, co_add, co_nil]
  show co p i + 0 = co p i
  omega
theorem mul_num {p : List Int} (n : Int) : mulF p [n] = sclF n p := by
  rw [mul_one_num]
  split
  · rename_i h; rw [h]; rfl
  · rfl
theorem nil_mul (p : List Int) : mulF [] p = [] := by simp [mulF]
end Kr
/-! Division of polynomials by polynomials, common parts. -/
namespace Kr
theorem length_le_of {p : List Int} (c : Cn p) {k : Nat} (h : ∀ i, k ≤ i → co p i = 0) : p.length ≤ k := by
  apply Nat.le_of_not_lt
  intro l
  have hp : p ≠ [] := by intro e; rw [e] at l; exact absurd l (Nat.not_lt_zero _)
  exact cn_last c hp (h _ (by omega))
theorem nil_of {p : List Int} (c : Cn p) (h : ∀ i, co p i = 0) : p = [] := List.length_eq_zero_iff.mp (Nat.le_zero.mp (length_le_of c fun i _ => h i))
theorem cv_scl_r (c : Int) (i : Nat) (f g : Fn) : cv f (fun n => c * g n) i = c * cv f g i := by
  rw [cv_comm, cv_scl_l, cv_comm]
/-- c times p is Q times q and r, r shorter -/
structure Dq (p q : List Int) (c : Int) (Q r : List Int) : Prop where
  c0 : c ≠ 0
  cr : Cn r
  len : r.length < q.length
  eq : ∀ i, c * co p i = cv (co Q) (co q) i + co r i
theorem dq_uniq {p q Q r Q' r' : List Int} {c c' : Int} (cq : Cn q) (h : Dq p q c Q r) (h' : Dq p q c' Q' r') :
    ∀ i, c' * co r i = c * co r' i ∧ c' * co Q i = c * co Q' i := by
  have eA : ∀ i, co (trim (addF (sclF c' Q) (sclF (-c) Q'))) i = c' * co Q i + -c * co Q' i := fun i => by rw [co_trim, co_add, co_scl, co_scl]
  have eR : ∀ i, co (trim (addF (sclF c r') (sclF (-c') r))) i = c * co r' i + -c' * co r i := fun i => by rw [co_trim, co_add, co_scl, co_scl]
  have key : mulF (trim (addF (sclF c' Q) (sclF (-c) Q'))) q = trim (addF (sclF c r') (sclF (-c') r)) := by
    refine co_ext (cn_mul (cn_trim _) cq) (cn_trim _) fun i => ?_
    have e : co (trim (addF (sclF c' Q) (sclF (-c) Q'))) = fun n => (fun n => c' * co Q n) n + (fun n => -c * co Q' n) n := by funext n; exact eA n
    rw [co_mul, e, cv_add_l, cv_scl_l, cv_scl_l, eR]
    have h1 := h.eq i
    have h2 := h'.eq i
    have h3 : cv (co Q) (co q) i = c * co p i - co r i := by omega
    have h4 : cv (co Q') (co q) i = c' * co p i - co r' i := by omega
    rw [h3, h4]; grind
  have short : (trim (addF (sclF c r') (sclF (-c') r))).length < q.length := by
    have h1 := trim_length (addF (sclF c r') (sclF (-c') r))
    rw [addF_length] at h1
    have h2 := h.len
    have h3 := h'.len
    simp only [sclF, List.length_map] at h1
    simp only [sclF]
    omega
  have hq : q ≠ [] := by intro e; have := h.len; rw [e] at this; exact absurd this (Nat.not_lt_zero _)
  have A0 : trim (addF (sclF c' Q) (sclF (-c) Q')) = [] := by
    apply Classical.byContradiction
    intro hA
    have := mulF_length hA hq
    have l : 0 < (trim (addF (sclF c' Q) (sclF (-c) Q'))).length := List.length_pos_iff.mpr hA
    rw [key] at this
    omega
  have R0 : trim (addF (sclF c r') (sclF (-c') r)) = [] := by
    rw [← key, A0]; simp [mulF]
  intro i
  have e1 := eA i
  have e2 := eR i
  rw [A0, co_nil] at e1
  rw [R0, co_nil] at e2
  dsimp only at e1 e2
  constructor <;> grind
/-- .. with no divisor common to all -/
structure Dv (p q : List Int) (c : Int) (Q r : List Int) : Prop extends Dq p q c Q r where
  pos : 0 < c
  cQ : Cn Q
  prim : ∀ d : Int, d ∣ c → (∀ i, d ∣ co Q i) → (∀ i, d ∣ co r i) → d ∣ 1
theorem coprime_dvd {a b x y : Int} (h : ∀ d : Int, d ∣ a → d ∣ b → d ∣ 1) (e : b * x = a * y) : a ∣ x := by
  have g : Int.gcd a b = 1 := by
    have d1 := h (Int.gcd a b) (Int.gcd_dvd_left ..) (Int.gcd_dvd_right ..)
    have d2 := Int.natCast_dvd_natCast.mp (show ((Int.gcd a b : Nat) : Int) ∣ ((1 : Nat) : Int) from d1)
    exact Nat.dvd_one.mp d2
  have g2 : Nat.Coprime a.natAbs b.natAbs := g
  have d : a.natAbs ∣ b.natAbs * x.natAbs := by
    rw [← Int.natAbs_mul, e, Int.natAbs_mul]; exact Nat.dvd_mul_right _ _
  exact Int.natAbs_dvd_natAbs.mp (g2.dvd_of_dvd_mul_left d)
theorem dv_uniq {p q Q r Q' r' : List Int} {c c' : Int} (cq : Cn q) (h : Dv p q c Q r) (h' : Dv p q c' Q' r') : c = c' ∧ Q = Q' ∧ r = r' := by
  have u := dq_uniq cq h.toDq h'.toDq
  have half : ∀ {Q r Q' r' : List Int} {c c' : Int}, Dv p q c Q r → Dv p q c' Q' r' → (∀ i, c' * co r i = c * co r' i ∧ c' * co Q i = c * co Q' i) → c ∣ c' := by
    intro Q r Q' r' c c' h h' u
    obtain ⟨g, g0, ⟨a, ha⟩, ⟨b, hb⟩, big⟩ : ∃ g : Int, 0 < g ∧ g ∣ c ∧ g ∣ c' ∧ ∀ d, d ∣ c → d ∣ c' → d ∣ g :=
      ⟨Int.gcd c c', by have := Int.gcd_pos_of_ne_zero_left c' (a := c) (by have := h.pos; omega); omega, Int.gcd_dvd_left .., Int.gcd_dvd_right .., fun d x y => Int.dvd_coe_gcd x y⟩
    have gn : g ≠ 0 := by omega
    have cop : ∀ d : Int, d ∣ a → d ∣ b → d ∣ 1 := by
      intro d d1 d2
      have x1 : g * d ∣ c := by rw [ha]; exact Int.mul_dvd_mul_left _ d1
      have x2 : g * d ∣ c' := by rw [hb]; exact Int.mul_dvd_mul_left _ d2
      obtain ⟨k, hk⟩ := big _ x1 x2
      refine ⟨k, ?_⟩
      have : g * 1 = g * (d * k) := by rw [Int.mul_one, ← Int.mul_assoc]; exact hk
      exact Int.eq_of_mul_eq_mul_left gn this
    have divs : ∀ x y : Int, c' * x = c * y → a ∣ x := by
      intro x y e
      refine coprime_dvd cop (y := y) ?_
      rw [ha, hb, Int.mul_assoc, Int.mul_assoc] at e
      exact Int.eq_of_mul_eq_mul_left gn e
    have a1 : a ∣ 1 := h.prim a ⟨g, by rw [Int.mul_comm]; exact ha⟩ (fun i => divs _ _ (u i).2) fun i => divs _ _ (u i).1
    obtain ⟨k, hk⟩ := a1
    refine ⟨k * b, ?_⟩
    rw [hb, ha]
    have : g * a * (k * b) = g * (a * k) * b := by grind
    rw [this, ← hk, Int.mul_one]
  have d1 := half h h' u
  have d2 := half h' h fun i => ⟨((u i).1).symm, ((u i).2).symm⟩
  have e : c = c' := Int.dvd_antisymm (Int.le_of_lt h.pos) (Int.le_of_lt h'.pos) d1 d2
  subst e
  refine ⟨rfl, co_ext h.cQ h'.cQ fun i => ?_, co_ext h.cr h'.cr fun i => ?_⟩
  · exact Int.eq_of_mul_eq_mul_left h.c0 (u i).2
  · exact Int.eq_of_mul_eq_mul_left h.c0 (u i).1
/-- a number that a step of the division takes -/
theorem step_num {x t : Int} (ht : t ≠ 0) : ∃ f : Nat, ∃ n : Int, f = t.natAbs / Nat.gcd x.natAbs t.natAbs ∧ n = (x * f).fdiv t ∧ 0 < f ∧ n * t = x * f ∧
    (∀ d : Int, d ∣ f → d ∣ n → d ∣ 1) ∧ n.natAbs ≤ x.natAbs ∧ f ≤ t.natAbs := by
  obtain ⟨g, hg⟩ : ∃ g : Nat, Nat.gcd x.natAbs t.natAbs = g := ⟨_, rfl⟩
  have g0 : 0 < g := by rw [← hg]; exact Nat.gcd_pos_of_pos_right _ (by omega)
  obtain ⟨f, hf⟩ : g ∣ t.natAbs := by rw [← hg]; exact Nat.gcd_dvd_right ..
  obtain ⟨m, hm⟩ : g ∣ x.natAbs := by rw [← hg]; exact Nat.gcd_dvd_left ..
  have ef : f = t.natAbs / Nat.gcd x.natAbs t.natAbs := by
    rw [hg, hf, Nat.mul_div_cancel_left _ g0]
  have cop : Nat.gcd m f = 1 := by
    have h : g * Nat.gcd m f = g := by
      rw [← Nat.gcd_mul_left, ← hm, ← hf, hg]
    exact Nat.eq_of_mul_eq_mul_left g0 (by rw [Nat.mul_one]; exact h)
  have f0 : 0 < f := Nat.pos_of_ne_zero fun e => by rw [e] at hf; omega
  -- the number, with its sign
  obtain ⟨s, hs, hs2⟩ : ∃ s : Int, (s = 1 ∨ s = -1) ∧ t = s * (g * f : Nat) := by
    rcases Int.natAbs_eq t with h | h
    · exact ⟨1, .inl rfl, by rw [← hf]; omega⟩
    · exact ⟨-1, .inr rfl, by rw [← hf]; omega⟩
  obtain ⟨u, hu, hu2⟩ : ∃ u : Int, (u = 1 ∨ u = -1) ∧ x = u * (g * m : Nat) := by
    rcases Int.natAbs_eq x with h | h
    · exact ⟨1, .inl rfl, by rw [← hm]; omega⟩
    · exact ⟨-1, .inr rfl, by rw [← hm]; omega⟩
  have e : x * f = (s * u * m) * t := by
    rw [hs2, hu2]
    push_cast
    rcases hs with rfl | rfl <;> rcases hu with rfl | rfl <;> grind
  have en : (x * f).fdiv t = s * u * m := by rw [e, Int.mul_comm (s * u * m) t, Int.mul_fdiv_cancel_left _ ht]
  refine ⟨f, s * u * m, ef, en.symm, f0, e.symm, ?_, ?_, ?_⟩
  · intro d d1 d2
    have d3 : d ∣ (m : Int) := by
      obtain ⟨k, hk⟩ := d2
      refine ⟨s * u * k, ?_⟩
      have : (m : Int) = (s * s) * (u * u) * m := by rcases hs with rfl | rfl <;> rcases hu with rfl | rfl <;> simp
      rw [this]; grind
    have d4 := Int.dvd_coe_gcd d3 d1
    have : Int.gcd (m : Int) (f : Int) = 1 := cop
    rw [this] at d4
    exact d4
  · have : (s * u * (m : Int)).natAbs = m := by rcases hs with rfl | rfl <;> rcases hu with rfl | rfl <;> simp
    rw [this, hm]
    exact Nat.le_mul_of_pos_left _ g0
  · rw [hf]; exact Nat.le_mul_of_pos_left _ g0
/-- further to the right -/
def shF (s : Nat) (p : List Int) : List Int := List.replicate s 0 ++ p
theorem co_sh (s : Nat) (p : List Int) (i : Nat) : co (shF s p) i = if s ≤ i then co p (i - s) else 0 := by
  unfold shF co
  rw [List.getD_eq_getElem?_getD, List.getD_eq_getElem?_getD, List.getElem?_append, List.length_replicate]
  by_cases h : s ≤ i
  · rw [if_pos h, if_neg (by omega)]
  · rw [if_neg h, if_pos (by omega), List.getElem?_replicate]
    simp [show i < s by omega]
theorem cv_sh (s : Nat) (n : Int) (g : Fn) : ∀ i, cv (fun m => if m = s then n else 0) g i = if s ≤ i then n * g (i - s) else 0 := by
  induction s with
  | zero =>
    intro t
    have z : (fun n' => if n' + 1 = 0 then n else 0) = fun _ : Nat => (0 : Int) := by funext m; rw [if_neg (by omega)]
    cases t with
    | zero => simp [cv]
    | succ t => rw [cv, z, cv_zero]; simp
  | succ s ih =>
    intro t
    have z : (fun m => if m + 1 = s + 1 then n else 0) = fun m : Nat => if m = s then n else (0 : Int) := by
      funext m
      by_cases e : m = s
      · rw [if_pos e, if_pos (by omega)]
      · rw [if_neg e, if_neg (by omega)]
    cases t with
    | zero => simp [cv]
    | succ t =>
      rw [cv, z, ih t]
      simp only [show (0 = s + 1) = False by simp, if_false, Int.zero_mul, Int.zero_add, Nat.add_le_add_iff_right, Nat.add_sub_add_right]
/-- while it is divided -/
structure DI (p q : List Int) (c : Int) (Q r : List Int) : Prop where
  pos : 0 < c
  cr : Cn r
  lr : r.length ≤ p.length
  lQ : Q.length = p.length + 1 - q.length
  eq : ∀ i, c * co p i = cv (co Q) (co q) i + co r i
  z : ∀ i, i + q.length ≤ r.length → co Q i = 0
  top : r.length = p.length ∨ (co Q (Q.length - 1) ≠ 0 ∧ 0 < Q.length)
  prim : ∀ d : Int, d ∣ c → (∀ i, d ∣ co Q i) → (∀ i, d ∣ co r i) → d ∣ 1
theorem co_zeros (n i : Nat) : co (List.replicate n 0) i = 0 := by
  unfold co
  rw [List.getD_eq_getElem?_getD, List.getElem?_replicate]
  split <;> rfl
theorem di_init {p : List Int} (q : List Int) (c : Cn p) : DI p q 1 (List.replicate (p.length + 1 - q.length) 0) p where
  pos := by decide
  cr := c
  lr := Nat.le_refl _
  lQ := List.length_replicate
  eq := fun i => by
    have e : co (List.replicate (p.length + 1 - q.length) 0) = fun _ => 0 := by funext i; exact co_zeros _ i
    rw [e, cv_zero]; omega
  z := fun i _ => co_zeros _ i
  top := .inl rfl
  prim := fun d h _ _ => h
theorem di_done {p q Q r : List Int} {c : Int} (h : DI p q c Q r) (l : r.length < q.length) : Dv p q c Q r where
  c0 := by have := h.pos; omega
  cr := h.cr
  len := l
  eq := h.eq
  pos := h.pos
  cQ := by
    rcases h.top with e | ⟨e, _⟩
    · have : Q = [] := List.length_eq_zero_iff.mp (by rw [h.lQ]; omega)
      rw [this]; exact cn_nil
    · exact cn_of fun _ => e
  prim := h.prim
theorem di_step {p q Q r Q' r' : List Int} {c f n : Int} (h : DI p q c Q r) (l : q.length ≤ r.length) (hq : q ≠ []) (f0 : 0 < f)
    (nt : n * co q (q.length - 1) = co r (r.length - 1) * f) (cop : ∀ d : Int, d ∣ f → d ∣ n → d ∣ 1)
    (lQ : Q'.length = Q.length) (eQ : ∀ i, co Q' i = if i = r.length - q.length then n else f * co Q i)
    (cr : Cn r') (er : ∀ i, co r' i = f * co r i - n * (if r.length - q.length ≤ i then co q (i - (r.length - q.length)) else 0)) :
    DI p q (c * f) Q' r' ∧ r'.length < r.length := by
  have lq : 0 < q.length := List.length_pos_iff.mpr hq
  have hr : r ≠ [] := by intro e; rw [e] at l; simp at l; exact hq l
  have x0 := cn_last h.cr hr
  have eQ2 : co Q' = fun i => (fun i => f * co Q i) i + (fun i => if i = r.length - q.length then n else 0) i := by
    funext i
    rw [eQ]
    by_cases e : i = r.length - q.length
    · dsimp only
      rw [if_pos e, if_pos e, h.z i (by omega)]; omega
    · dsimp only
      rw [if_neg e, if_neg e]; omega
  have short : r'.length ≤ r.length - 1 := length_le_of cr fun i hi => by
    rw [er]
    by_cases e : i = r.length - 1
    · rw [if_pos (by omega), e, show r.length - 1 - (r.length - q.length) = q.length - 1 by omega, nt, Int.mul_comm f]; omega
    · rw [co_big (p := r) (by omega), if_pos (by omega), co_big (p := q) (by omega)]; omega
  have lr0 : 0 < r.length := List.length_pos_iff.mpr hr
  refine ⟨⟨Int.mul_pos h.pos f0, cr, by have := h.lr; omega, lQ.trans h.lQ, fun i => ?_, fun i hi => ?_, .inr ?_, fun d d1 d2 d3 => ?_⟩, by omega⟩
  · have e := h.eq i
    have e3 : c * f * co p i = f * (c * co p i) := by grind
    rw [eQ2, cv_add_l, cv_scl_l, cv_sh, er, e3, e]
    split <;> grind
  · rw [eQ, if_neg (by omega), h.z i (by omega), Int.mul_zero]
  · have lQ1 := h.lQ
    have lp := h.lr
    rw [lQ, eQ]
    by_cases e : r.length = p.length
    · rw [if_pos (by omega)]
      refine ⟨fun n0 => ?_, by omega⟩
      rw [n0, Int.zero_mul] at nt
      rcases Int.mul_eq_zero.mp nt.symm with z | z
      · exact x0 z
      · omega
    · obtain ⟨t0, t1⟩ := h.top.resolve_left e
      rw [if_neg (by omega)]
      exact ⟨Int.mul_ne_zero (by omega) t0, t1⟩
  · have dn : d ∣ n := by have := d2 (r.length - q.length); rwa [eQ, if_pos rfl] at this
    have cdf : ∀ e : Int, e ∣ d → e ∣ f → e ∣ 1 := fun e e1 e2 => cop e e2 (Int.dvd_trans e1 dn)
    have strip : ∀ x : Int, d ∣ f * x → d ∣ x := fun x ⟨k, hk⟩ => coprime_dvd cdf hk
    refine h.prim d (strip c (by rw [Int.mul_comm]; exact d1)) (fun i => ?_) fun i => strip _ ?_
    · by_cases e : i = r.length - q.length
      · rw [h.z i (by omega)]; exact Int.dvd_zero d
      · have := d2 i
        rw [eQ, if_neg e] at this
        exact strip _ this
    · have := d3 i
      rw [er] at this
      have h2 := Int.dvd_add this (Int.dvd_mul_of_dvd_left (c := (if r.length - q.length ≤ i then co q (i - (r.length - q.length)) else 0)) dn)
      rwa [Int.sub_add_cancel] at h2

/-! common parts -/
def Pl (p : List Int) : Prop := Cn p ∧ plF p = p
theorem pl_plF {p : List Int} (c : Cn p) : Pl (plF p) := ⟨cn_pl c, pl_pl c⟩
theorem pl_nil : Pl [] := ⟨cn_nil, rfl⟩
/-- one is a number times the other -/
def Pp (A B : List Int) : Prop := ∃ c d : Int, c ≠ 0 ∧ d ≠ 0 ∧ ∀ i, c * co A i = d * co B i
theorem pp_pl {A B : List Int} (ca : Cn A) (cb : Cn B) : Pp A B → plF A = plF B
  | ⟨c, d, c0, d0, h⟩ => by
    have e : sclF c A = sclF d B := co_ext (cn_scl c0 ca) (cn_scl d0 cb) fun i => by rw [co_scl, co_scl, h]
    rw [← pl_times ca c0, e, pl_times cb d0]
theorem pl_co {A : List Int} (c : Cn A) : ∃ g : Int, g ≠ 0 ∧ ∀ i, g * co (plF A) i = co A i := by
  by_cases h : A = []
  · subst h; exact ⟨1, by decide, fun i => by simp [plF, co]⟩
  · exact ⟨sgc A, sgc_ne c h, fun i => by rw [← co_scl, pl_scl c]⟩
inductive Gc : List Int → List Int → List Int → Prop
  | done (P : List Int) : Gc P [] P
  | step {P S Q r g : List Int} {c : Int} : S ≠ [] → Dq P S c Q r → Gc S (plF r) g → Gc P S g
theorem gc_det {P S g : List Int} (h : Gc P S g) : Cn S → ∀ g', Gc P S g' → g = g' := by
  induction h with
  | done P =>
    intro _ g' h'
    cases h' with
    | done => rfl
    | step n _ _ => exact absurd rfl n
  | @step P S Q r g c n d _ ih =>
    intro cS g' h'
    cases h' with
    | done => exact absurd rfl n
    | @step _ _ Q' r' _ c' _ d' h2 =>
      have e : plF r = plF r' := pp_pl d.cr d'.cr ⟨c', c, d'.c0, d.c0, fun i => (dq_uniq cS d d' i).1⟩
      rw [← e] at h2
      exact ih (cn_pl d.cr) _ h2
theorem gc_pls {P S g : List Int} (h : Gc P S g) : Pl P → Pl S → Pl g := by
  induction h with
  | done P => exact fun h _ => h
  | step n d _ ih => exact fun _ h => ih h (pl_plF d.cr)
/-- it goes into both -/
def Gi (g P : List Int) : Prop := ∃ (c : Int) (A : List Int), c ≠ 0 ∧ ∀ i, c * co P i = cv (co A) (co g) i
theorem gi_self (g : List Int) : Gi g g := ⟨1, [1], by decide, fun i => by
  have z : (fun n => co [(1 : Int)] (n + 1)) = fun _ => 0 := by funext n; simp [co]
  cases i with
  | zero => simp [cv, co]
  | succ i => rw [cv, z, cv_zero]; simp [co]⟩
theorem gi_nil (g : List Int) : Gi g [] := ⟨1, [], by decide, fun i => by rw [co_nil, cv_zero]; rfl⟩
theorem gi_both {P S g : List Int} (h : Gc P S g) : Gi g P ∧ Gi g S := by
  induction h with
  | done P => exact ⟨gi_self P, gi_nil P⟩
  | @step P S Q r g c n d _ ih =>
    obtain ⟨⟨c1, A1, n1, h1⟩, ⟨c2, A2, n2, h2⟩⟩ := ih
    refine ⟨?_, ⟨c1, A1, n1, h1⟩⟩
    obtain ⟨k, k0, hk⟩ := pl_co d.cr
    -- c2 * r = k * (A2 g)
    refine ⟨c * c1 * c2, addF (sclF c2 (mulF Q A1)) (sclF (c1 * k) A2), Int.mul_ne_zero (Int.mul_ne_zero d.c0 n1) n2, fun i => ?_⟩
    have e1 : co (addF (sclF c2 (mulF Q A1)) (sclF (c1 * k) A2)) = fun n => (fun n => c2 * cv (co Q) (co A1) n) n + (fun n => (c1 * k) * co A2 n) n := by
      funext n; rw [co_add, co_scl, co_scl, co_mul]
    have e2 : cv (cv (co Q) (co A1)) (co g) i = c1 * cv (co Q) (co S) i := by
      have : cv (co A1) (co g) = fun n => c1 * co S n := by funext n; exact (h1 n).symm
      rw [cv_assoc, this, cv_scl_r]
    have e3 : c2 * co r i = k * cv (co A2) (co g) i := by rw [← h2, ← hk i]; grind
    have e4 := d.eq i
    rw [e1, cv_add_l, cv_scl_l, cv_scl_l, e2]
    have e5 : c * c1 * c2 * co P i = c1 * c2 * (c * co P i) := by grind
    rw [e5, e4]
    grind
theorem gi_rest {P g Q r : List Int} {c : Int} (cg : Cn g) (d : Dq P g c Q r) : Gi g P → r = []
  | ⟨c', A, n, h⟩ => by
    have d' : Dq P g c' A [] := ⟨n, cn_nil, Nat.lt_of_le_of_lt (Nat.zero_le _) d.len, fun i => by rw [h, co_nil]; show _ = _ + (0 : Int); omega⟩
    refine nil_of d.cr fun i => ?_
    have e := (dq_uniq cg d d' i).1
    rw [co_nil] at e
    have e2 : c' * co r i = 0 := by rw [e]; exact Int.mul_zero _
    exact (Int.mul_eq_zero.mp e2).resolve_left n
theorem gi_pl {g P : List Int} (c : Cn P) : Gi g (plF P) → Gi g P
  | ⟨c', A, n, h⟩ => by
    obtain ⟨k, k0, hk⟩ := pl_co c
    refine ⟨c', sclF k A, n, fun i => ?_⟩
    have e : co (sclF k A) = fun n => k * co A n := by funext n; exact co_scl k A n
    rw [e, cv_scl_l, ← h, ← hk i]; grind
/-- both times the same line -/
theorem gc_times {P S g : List Int} (h : Gc P S g) {s : List Int} (cs : Cn s) (hs : s ≠ []) : Cn P → Cn S → ∀ P' S' : List Int, Pl P' → Pl S' → Pp P' (mulF P s) → Pp S' (mulF S s) → Gc P' S' (plF (mulF g s)) := by
  induction h with
  | done P =>
    intro cP _ P' S' hP hS pP ⟨c, d, c0, d0, e⟩
    have S0 : S' = [] := nil_of hS.1 fun i => by
      have := e i
      rw [show mulF [] s = [] by simp [mulF], co_nil] at this
      have e2 : c * co S' i = 0 := by rw [this]; exact Int.mul_zero _
      exact (Int.mul_eq_zero.mp e2).resolve_left c0
    rw [S0, ← pp_pl hP.1 (cn_mul cP cs) pP, hP.2]
    exact .done P'
  | @step P S Q r g c n d _ ih =>
    rintro cP cS P' S' hP hS ⟨a, b, a0, b0, eP⟩ ⟨a', b', a0', b0', eS⟩
    have hS' : S' ≠ [] := by
      intro z
      have l : 0 < (mulF S s).length := by
        rw [mulF_length n hs]
        have := List.length_pos_iff.mpr n
        have := List.length_pos_iff.mpr hs
        omega
      have hm : mulF S s ≠ [] := List.length_pos_iff.mp l
      have := eS ((mulF S s).length - 1)
      rw [z, co_nil] at this
      exact Int.mul_ne_zero b0' (cn_last (cn_mul cS cs) hm) (by simpa using this.symm)
    have lS : S'.length = (mulF S s).length := by
      have h1 := length_le_of hS.1 (k := (mulF S s).length) fun i hi => by
        have e := eS i
        rw [co_big (p := mulF S s) hi, Int.mul_zero] at e
        exact (Int.mul_eq_zero.mp e).resolve_left a0'
      have h2 := length_le_of (cn_mul cS cs) (k := S'.length) fun i hi => by
        have e := eS i
        rw [co_big (p := S') hi, Int.mul_zero] at e
        exact (Int.mul_eq_zero.mp e.symm).resolve_left b0'
      omega
    have d' : Dq P' S' (b' * c * a) (sclF (b * a') Q) (sclF (b' * b) (mulF r s)) := by
      refine ⟨Int.mul_ne_zero (Int.mul_ne_zero b0' d.c0) a0, cn_scl (Int.mul_ne_zero b0' b0) (cn_mul d.cr cs), ?_, fun i => ?_⟩
      · rw [lS, mulF_length n hs]
        have h1 := mulF_le r s
        have h2 := d.len
        have := List.length_pos_iff.mpr hs
        simp only [sclF, List.length_map]
        omega
      · have e : co (sclF (b * a') Q) = fun n => (b * a') * co Q n := by funext n; exact co_scl _ Q n
        have e2 : cv (co Q) (cv (co S) (co s)) i = cv (cv (co Q) (co S)) (co s) i := (cv_assoc i _ _ _).symm
        have e3 : a' * cv (co Q) (co S') i = b' * cv (cv (co Q) (co S)) (co s) i := by
          have f : (fun n => a' * co S' n) = fun n => b' * cv (co S) (co s) n := by funext n; rw [eS, co_mul]
          rw [← cv_scl_r, f, cv_scl_r, e2]
        have e4 : c * cv (co P) (co s) i = cv (cv (co Q) (co S)) (co s) i + cv (co r) (co s) i := by
          rw [← cv_scl_l, ← cv_add_l]
          have f : (fun n => c * co P n) = fun n => cv (co Q) (co S) n + co r n := by funext n; exact d.eq n
          rw [f]
        have e5 := eP i
        rw [co_mul] at e5
        rw [e, cv_scl_l, co_scl, co_mul]
        have e6 : b' * c * a * co P' i = b' * c * (a * co P' i) := by grind
        rw [e6, e5]
        have e7 : b * a' * cv (co Q) (co S') i = b * (a' * cv (co Q) (co S') i) := by grind
        rw [e7, e3]
        have e8 : b' * c * (b * cv (co P) (co s) i) = b' * b * (c * cv (co P) (co s) i) := by grind
        rw [e8, e4]
        grind
    refine .step hS' d' (ih cS (cn_pl d.cr) _ _ hS (pl_plF d'.cr) ⟨a', b', a0', b0', eS⟩ ?_)
    obtain ⟨k1, k10, h1⟩ := pl_co d.cr
    obtain ⟨k2, k20, h2⟩ := pl_co d'.cr
    refine ⟨k2, b' * b * k1, k20, Int.mul_ne_zero (Int.mul_ne_zero b0' b0) k10, fun i => ?_⟩
    have f : co r = fun n => k1 * co (plF r) n := by funext n; exact (h1 n).symm
    rw [h2, co_scl, co_mul, co_mul, f, cv_scl_l]
    grind
theorem gc_self {P : List Int} : Gc P P P := by
  by_cases h : P = []
  · subst h; exact .done []
  · refine .step (c := 1) (Q := [1]) (r := []) h ⟨by decide, cn_nil, List.length_pos_iff.mpr h, fun i => ?_⟩ (.done P)
    have z : (fun n => co [(1 : Int)] (n + 1)) = fun _ => 0 := by funext n; simp [co]
    rw [co_nil]
    cases i with
    | zero => simp [cv, co]
    | succ i => rw [cv, z, cv_zero]; simp [co]
theorem gc_none {F : List Int} : Gc [] F F := by
  by_cases h : F = []
  · subst h; exact .done []
  · exact .step (c := 1) (Q := []) (r := []) h ⟨by decide, cn_nil, List.length_pos_iff.mpr h, fun i => by rw [co_nil, cv_zero]; rfl⟩ (.done F)
theorem gc_top {P S g : List Int} (h : Gc P S g) (f : List Int) : Gi f P → Gi f S → Gi f g := by
  induction h with
  | done P => exact fun h _ => h
  | @step P S Q r g c n d _ ih =>
    rintro ⟨c1, A1, n1, h1⟩ ⟨c2, A2, n2, h2⟩
    refine ih ⟨c2, A2, n2, h2⟩ ?_
    obtain ⟨k, k0, hk⟩ := pl_co d.cr
    -- r = c P - Q S
    refine ⟨c1 * c2 * k, addF (sclF (c2 * c) A1) (sclF (-c1) (mulF Q A2)), Int.mul_ne_zero (Int.mul_ne_zero n1 n2) k0, fun i => ?_⟩
    have e1 : co (addF (sclF (c2 * c) A1) (sclF (-c1) (mulF Q A2))) = fun n => (fun n => (c2 * c) * co A1 n) n + (fun n => (-c1) * cv (co Q) (co A2) n) n := by
      funext n; rw [co_add, co_scl, co_scl, co_mul]
    have e2 : cv (cv (co Q) (co A2)) (co f) i = c2 * cv (co Q) (co S) i := by
      have : cv (co A2) (co f) = fun n => c2 * co S n := by funext n; exact (h2 n).symm
      rw [cv_assoc, this, cv_scl_r]
    rw [e1, cv_add_l, cv_scl_l, cv_scl_l, e2, ← h1]
    have e4 := d.eq i
    have e5 := hk i
    have e6 : c1 * c2 * k * co (plF r) i = c1 * c2 * (k * co (plF r) i) := by grind
    rw [e6, e5]
    have e7 : co r i = c * co P i - cv (co Q) (co S) i := by omega
    rw [e7]; grind
theorem gi_le {g f : List Int} (cg : Cn g) (cf : Cn f) (hg : g ≠ []) : Gi f g → f.length ≤ g.length ∧ (f.length = g.length → Pp g f)
  | ⟨c, A, n, h⟩ => by
    have e : sclF c g = mulF (trim A) f := co_ext (cn_scl n cg) (cn_mul (cn_trim A) cf) fun i => by
      have : co (trim A) = co A := by funext i; exact co_trim A i
      rw [co_scl, co_mul, this, h]
    have lg : 0 < g.length := List.length_pos_iff.mpr hg
    have ls : (sclF c g).length = g.length := by simp [sclF]
    have hA : trim A ≠ [] := by
      intro z
      rw [z, show mulF [] f = [] by simp [mulF]] at e
      rw [e] at ls; simp at ls; omega
    have hf : f ≠ [] := by
      intro z
      rw [z, show mulF (trim A) [] = [] by simp [mulF]] at e
      rw [e] at ls; simp at ls; omega
    have lm := mulF_length hA hf
    rw [← e, ls] at lm
    have lA : 0 < (trim A).length := List.length_pos_iff.mpr hA
    have lf : 0 < f.length := List.length_pos_iff.mpr hf
    refine ⟨by omega, fun l => ?_⟩
    have l1 : (trim A).length = 1 := by omega
    match hT : trim A, l1 with
    | [z], _ =>
      have z0 : z ≠ 0 := cn_trim A z (by rw [hT]; rfl)
      refine ⟨c, z, n, z0, fun i => ?_⟩
      have t : (fun n => co [z] (n + 1)) = fun _ => 0 := by funext n; simp [co]
      rw [← co_scl, e, hT, co_mul]
      cases i with
      | zero => rw [cv, co_0]
      | succ i => rw [cv, t, cv_zero, co_0, Int.add_zero]
theorem gi_eq {g f : List Int} (hg : Pl g) (hf : Pl f) (a : Gi f g) (b : Gi g f) : g = f := by
  have nil : ∀ {f : List Int}, Pl f → Gi [] f → f = [] := fun {f} hf ⟨c, A, n, h⟩ => nil_of hf.1 fun i => by
    have := h i
    rw [co_nil, cv_comm, cv_zero] at this
    exact (Int.mul_eq_zero.mp this).resolve_left n
  by_cases h1 : g = []
  · subst h1; exact (nil hf b).symm
  by_cases h2 : f = []
  · subst h2; exact nil hg a
  obtain ⟨l1, e1⟩ := gi_le hg.1 hf.1 h1 a
  obtain ⟨l2, _⟩ := gi_le hf.1 hg.1 h2 b
  rw [← hg.2, ← hf.2]
  exact pp_pl hg.1 hf.1 (e1 (by omega))
theorem gc_comm {P S g f : List Int} (hP : Pl P) (hS : Pl S) (h : Gc P S g) (h' : Gc S P f) : g = f :=
  gi_eq (gc_pls h hP hS) (gc_pls h' hS hP) (gc_top h f (gi_both h').2 (gi_both h').1) (gc_top h' g (gi_both h).2 (gi_both h).1)
/-- both times a line, made plain -/
theorem gc_prod {p r s g f : List Int} (cp : Cn p) (cr : Cn r) (cs : Cn s) (hs : s ≠ []) (h : Gc (plF p) (plF r) g) (h' : Gc (plF (mulF p s)) (plF (mulF r s)) f) : f = plF (mulF g s) := by
  have pr : ∀ {p : List Int}, Cn p → Pp (plF (mulF p s)) (mulF (plF p) s) := fun {p} c => by
    obtain ⟨k1, k10, e1⟩ := pl_co (cn_mul c cs)
    obtain ⟨k2, k20, e2⟩ := pl_co c
    refine ⟨k1, k2, k10, k20, fun i => ?_⟩
    have f : co p = fun n => k2 * co (plF p) n := by funext n; exact (e2 n).symm
    rw [e1, co_mul, co_mul, f, cv_scl_l]
  have d := gc_times h cs hs (cn_pl cp) (cn_pl cr) _ _ (pl_plF (cn_mul cp cs)) (pl_plF (cn_mul cr cs)) (pr cp) (pr cr)
  exact gc_det h' (cn_pl (cn_mul cr cs)) _ d
theorem gi_mul (p s : List Int) : Gi s (mulF p s) := ⟨1, p, by decide, fun i => by rw [co_mul, Int.one_mul]⟩
theorem cnt_prim {c : Int} {D r : List Int} (h : ∀ d : Int, d ∣ c → (∀ i, d ∣ co D i) → (∀ i, d ∣ co r i) → d ∣ 1) : cnt (c :: (D ++ r)) = 1 := by
  have m : ∀ z ∈ c :: (D ++ r), ((cnt (c :: (D ++ r)) : Nat) : Int) ∣ z := fun z hz => cnt_dvd hz
  have co_mem : ∀ (p : List Int), (∀ z ∈ p, ((cnt (c :: (D ++ r)) : Nat) : Int) ∣ z) → ∀ i, ((cnt (c :: (D ++ r)) : Nat) : Int) ∣ co p i := fun p hp i => by
    by_cases l : i < p.length
    · rw [co_at l]; exact hp _ (List.getElem_mem l)
    · rw [co_big (by omega)]; exact Int.dvd_zero _
  have d := h (cnt (c :: (D ++ r))) (m c List.mem_cons_self) (co_mem D fun z hz => m z (by simp [hz])) (co_mem r fun z hz => m z (by simp [hz]))
  have d2 := Int.natCast_dvd_natCast.mp (show ((cnt (c :: (D ++ r)) : Nat) : Int) ∣ ((1 : Nat) : Int) from d)
  exact Nat.dvd_one.mp d2
theorem dv_sum {p q D r : List Int} {c : Int} (cp : Cn p) (d : Dv p q c D r) : trim (addF (mulF D q) r) = sclF c p :=
  co_ext (cn_trim _) (cn_scl d.c0 cp) fun i => by rw [co_trim, co_add, co_mul, co_scl, d.eq]
/-- one told in numbers -/
theorem dv_is {p q D r : List Int} {c : Int} (c0 : 0 < c) (cD : Cn D) (cr : Cn r) (l : r.length < q.length) (e : sclF c p = addF (mulF D q) r)
    (prim : ∀ d : Int, d ∣ c → (∀ i, d ∣ co D i) → (∀ i, d ∣ co r i) → d ∣ 1) : Dv p q c D r where
  c0 := by omega
  cr := cr
  len := l
  eq := fun i => by rw [← co_scl, e, co_add, co_mul]
  pos := c0
  cQ := cD
  prim := prim
theorem dv_times {p q r : List Int} (cp : Cn p) (cr : Cn r) (l : r.length < q.length) : Dv (trim (addF (mulF p q) r)) q 1 p r where
  c0 := by decide
  cr := cr
  len := l
  eq := fun i => by rw [co_trim, co_add, co_mul, Int.one_mul]
  pos := by decide
  cQ := cp
  prim := fun d h _ _ => h
theorem dv_len {p q D r : List Int} {c : Int} (cq : Cn q) (hq : q ≠ []) (d : Dv p q c D r) : D.length ≤ p.length := by
  by_cases hD : D = []
  · rw [hD]; exact Nat.zero_le _
  have l0 : 0 < q.length := List.length_pos_iff.mpr hq
  have l1 : 0 < D.length := List.length_pos_iff.mpr hD
  apply Nat.le_of_not_lt
  intro h7
  have e1 := d.eq (D.length + q.length - 2)
  have van := (cv_vanish (D.length - 1) (q.length - 1) (co D) (co q) (co_van D) (co_van q)).1
  rw [show D.length - 1 + (q.length - 1) = D.length + q.length - 2 by omega] at van
  have lsr := d.len
  rw [van, co_big (p := p) (by omega), co_big (p := r) (by omega), Int.mul_zero, Int.add_zero] at e1
  exact Int.mul_ne_zero (cn_last d.cQ hD) (cn_last cq hq) e1.symm
theorem bd_sm {p : List Int} {k : Nat} (h : Bd k p) (l : k ≤ 20) : ∀ z ∈ p, z.natAbs ≤ 1000000000 := fun z hz => by
  have h1 := h.mono l z hz
  have h2 : (2 : Nat) ^ 20 = 1048576 := by decide
  omega
end Kr
/-! Division and common parts: rules and promises. -/
namespace Kr
open PySem PySem.Spec
open PyProof.Rows L2

def rIxSq (K : PySem.W.Frag) : R2 := fun x y H Q => ∃ (k : Bool) (p : Addr) (xs : List V) (i : Int) (v : V), x = .ref p ∧ y = .int i ∧ Sq K k H p xs ∧ atI xs i = some v ∧ Q v H
theorem ix_sq {X : Cx} : IxR X (rIxSq X.K) := by
  intro value slice pins s σ H x y v u Q I rx ry ⟨k, p, xs, i, z, e1, e2, hq, he, q⟩ hs
  cases k with
  | true => exact ix_tup value slice pins s σ H x y v u Q I rx ry ⟨p, xs, i, z, e1, e2, hq, he, q⟩ hs
  | false => exact ix_list value slice pins s σ H x y v u Q I rx ry ⟨p, xs, i, z, e1, e2, hq, he, q⟩ hs
@[irreducible] def k9 : Nat := 9000
@[irreducible] def k13 : Nat := 13500
theorem k9_le {n : Nat} (h : n ≤ 9000) : n ≤ k9 := by unfold k9; exact h
theorem k13_le {n : Nat} (h : n ≤ 13500) : n ≤ k13 := by unfold k13; exact h
theorem k13_big : k13 ≤ 60000000 := by unfold k13; decide
theorem log2_lt_pow {n k : Nat} (h : n < 2 ^ k) (hk : 0 < k) : n.log2 < k := by
  by_cases z : n = 0
  · subst z; simpa using hk
  · exact (Nat.log2_lt z).mpr h
theorem noPy {x y : Int} (h : y.natAbs < 2 ^ k9 ∨ x.natAbs < 2 ^ k13) : Builtin.divisionGoesByPylong x y = false := by
  rcases h with h | h
  · refine PyProof.noPylong_of_log2 (Nat.lt_of_lt_of_le (log2_lt_pow h (by unfold k9; decide)) (by unfold k9; decide))
  · have lx : x.natAbs.log2 < 13500 := Nat.lt_of_lt_of_le (log2_lt_pow h (by unfold k13; decide)) (by unfold k13; decide)
    have dx : (if x == 0 then 0 else x.natAbs.log2 / 30 + 1) ≤ 450 := by split <;> omega
    show (decide ((if y == 0 then 0 else y.natAbs.log2 / 30 + 1) > 300) && decide ((if x == 0 then 0 else x.natAbs.log2 / 30 + 1) > (if y == 0 then 0 else y.natAbs.log2 / 30 + 1) + 150)) = false
    generalize (if y == 0 then 0 else y.natAbs.log2 / 30 + 1) = dy at *
    generalize (if x == 0 then 0 else x.natAbs.log2 / 30 + 1) = dx' at *
    by_cases c : dy > 300
    · rw [decide_eq_false (show ¬ dx' > dy + 150 by omega), Bool.and_false]
    · rw [decide_eq_false c, Bool.false_and]
def CDivB (i j : Int) : Prop := j ≠ 0 ∧ (j.natAbs < 2 ^ k9 ∨ i.natAbs < 2 ^ k13)
theorem op_fdivB {X : Cx} : OpR X (binaryOp .FloorDiv) (rI CDivB fun i j => .int (i.fdiv j)) := opI fun _ _ _ _ _ _ _ hc q => floordiv_int hc.1 q (.inl (noPy hc.2))
theorem op_fdivBk {X : Cx} : OpR X (binaryOp .FloorDiv) (rI CDivB fun i j => .int (i.fdiv j)) := op_fdivB

def spPPlainB : Sp := fun vs H Q _ => ∃ (k : Bool) (a : Addr) (p : List Int), vs = [.ref a] ∧ At k H a p ∧ p.length ≤ 900 ∧ Cn p ∧ Bd k13 p ∧ NewL H (plF p) Q
/-- how wide what comes of a division is -/
def dw (p q : List Int) (n m : Nat) : Nat := n + (p.length + 1 - q.length) * (m + 1)
def spPDiv : Sp := fun vs H Q _ => ∃ (a b : Addr) (p q : List Int) (n m : Nat), vs = [.ref a, .ref b] ∧ At false H a p ∧ At false H b q ∧
  p.length ≤ 400 ∧ q.length ≤ 400 ∧ Cn p ∧ Cn q ∧ q ≠ [] ∧ Bd n p ∧ Bd m q ∧ (co q (q.length - 1)).natAbs < 2 ^ k9 ∧ n ≤ 60000 ∧ m ≤ 60000 ∧
  ∀ (H' : Hp) (T u v : Addr) (c : Int) (D r : List Int), Same H H' → H T = none → H u = none → H v = none → u ≠ v → H' T = some (.tup [.int c, .ref u, .ref v]) → At false H' u D → At false H' v r →
    Dv p q c D r → Bd (dw p q n m) D → Bd (dw p q n m) r → c.natAbs < 2 ^ (dw p q n m + 1) → Q (.ref T) H'
def spPComm : Sp := fun vs H Q _ => ∃ (k j : Bool) (a b : Addr) (p q : List Int), vs = [.ref a, .ref b] ∧ At k H a p ∧ At j H b q ∧
  p.length ≤ 8 ∧ q.length ≤ 8 ∧ Cn p ∧ Cn q ∧ Bd 8 (plF p) ∧ Bd 8 (plF q) ∧ Bd k13 p ∧ Bd k13 q ∧
  ∀ (H' : Hp) (u : Addr) (g : List Int), Same H H' → H u = none → At false H' u g → Gc (plF p) (plF q) g → Bd k9 g → g.length ≤ 8 → Q (.ref u) H'
def spLnD : Sp := fun vs H Q _ => ∃ (a b : Addr) (p q : List Int) (n m : Nat), vs = [.ref a, .ref b] ∧ Ln false H a p ∧ Ln false H b q ∧ q ≠ [] ∧
  (co q (q.length - 1)).natAbs < 2 ^ k9 ∧ Bd n p ∧ Bd m q ∧ n ≤ 60000 ∧ m ≤ 60000 ∧
  ∀ (H' : Hp) (T u v : Addr) (c : Int) (D r : List Int), Same H H' → H T = none → H u = none → H v = none → u ≠ v → H' T = some (.tup [.int c, .ref u, .ref v]) → At false H' u D → At false H' v r →
    Dv p q c D r → Bd (dw p q n m) D → Bd (dw p q n m) r → c.natAbs < 2 ^ (dw p q n m + 1) → Q (.ref T) H'
def spLnC : Sp := fun vs H Q _ => ∃ (k j : Bool) (a b : Addr) (p q : List Int), vs = [.ref a, .ref b] ∧ Ln k H a p ∧ Ln j H b q ∧
  p.length ≤ 8 ∧ q.length ≤ 8 ∧ Bd 8 (plF p) ∧ Bd 8 (plF q) ∧ Bd k13 p ∧ Bd k13 q ∧
  ∀ (H' : Hp) (u : Addr) (g : List Int), Same H H' → H u = none → At false H' u g → Gc (plF p) (plF q) g → Bd k9 g → g.length ≤ 8 → Q (.ref u) H'
def spLGreatB : Sp := fun vs H Q _ => ∃ (a : Addr) (p : List Int), vs = [.ref a] ∧ At false H a p ∧ p.length ≤ 900 ∧ Bd k13 p ∧ Q (.int (cnt p : Nat)) H
def spLPlainB : Sp := fun vs H Q _ => ∃ (a : Addr) (p : List Int), vs = [.ref a] ∧ At false H a p ∧ p.length ≤ 900 ∧ Cn p ∧ Bd k13 p ∧ NewL H (plF p) Q
theorem cnt_bd {p : List Int} {k : Nat} (c : Cn p) (h : Bd k p) : cnt p < 2 ^ k := by
  by_cases e : p = []
  · subst e; exact Nat.two_pow_pos k
  · exact Nat.lt_of_le_of_lt (cnt_le (List.getLast_mem e) (c _ (List.getLast?_eq_some_getLast e))) (h _ (List.getLast_mem e))
theorem wide2 {i j : Int} {a b : Nat} (ha : i.natAbs < 2 ^ a) (hb : j.natAbs < 2 ^ b) : (i * j).natAbs < 2 ^ (a + b) := by
  rw [Int.natAbs_mul, Nat.pow_add]
  exact Nat.mul_lt_mul'' ha hb
theorem one_pl {P : List Int} (h : Pl P) (l : P.length = 1) : P = [1] := by
  match P, l with
  | [z], _ =>
    have c := pl_cnt h.1 (by simp)
    have d := pl_lead h.1 (by simp)
    rw [h.2] at c d
    have e1 : Nat.gcd z.natAbs 0 = 1 := c
    rw [Nat.gcd_zero_right] at e1
    have e2 : 0 < co [z] 0 := d
    rw [co_0] at e2
    rw [show z = 1 by omega]
theorem three_pow (g : Nat) : g + 2 ≤ 2 * 3 ^ g ∧ (0 < g → g + 2 ≤ 3 ^ g) := by
  induction g with
  | zero => exact ⟨by decide, fun h => absurd h (by decide)⟩
  | succ g ih =>
    rw [Nat.pow_succ]
    have h1 : 1 ≤ 3 ^ g := Nat.pow_pos (show 0 < 3 by decide)
    refine ⟨by omega, fun _ => ?_⟩
    by_cases e : g = 0
    · subst e; decide
    · have := ih.2 (by omega); omega
theorem three_le {a b : Nat} (h : a ≤ b) : (3 : Nat) ^ a ≤ 3 ^ b := Nat.pow_le_pow_right (by decide) h
/-- how wide the lines grow on the way to the common part -/
structure CB (P S : List Int) (n m : Nat) : Prop where
  p : Pl P
  s : Pl S
  lp : P.length ≤ 8
  ls : S.length ≤ 8
  bp : Bd n P
  bs : Bd m S
  w : (n ≤ 8 ∧ m ≤ 8) ∨ (S.length < P.length ∧ n + 1 ≤ 18 * 3 ^ (7 - P.length) ∧ m + 1 ≤ 18 * 3 ^ (8 - P.length))
theorem CB.small {P S : List Int} {n m : Nat} (h : CB P S n m) : n ≤ 60000 ∧ m ≤ 60000 := by
  rcases h.w with ⟨a, b⟩ | ⟨l, a, b⟩
  · omega
  · have h1 : (3 : Nat) ^ (7 - P.length) ≤ 3 ^ 7 := three_le (by omega)
    have h2 : (3 : Nat) ^ (8 - P.length) ≤ 3 ^ 7 := three_le (by omega)
    have : (3 : Nat) ^ 7 = 2187 := by decide
    omega
theorem CB.top {P S : List Int} {n m : Nat} (h : CB P S n m) (hS : S ≠ []) : (co S (S.length - 1)).natAbs < 2 ^ k9 := by
  have l0 : 0 < S.length := List.length_pos_iff.mpr hS
  by_cases e : S.length = 1
  · rw [one_pl h.s e]
    exact Nat.lt_of_lt_of_le (show 1 < 2 ^ 1 by decide) (Nat.pow_le_pow_right (by decide) (k9_le (by decide)))
  · have : m ≤ 9000 := by
      rcases h.w with ⟨a, b⟩ | ⟨l, a, b⟩
      · omega
      · have h2 : (3 : Nat) ^ (8 - P.length) ≤ 3 ^ 5 := three_le (by omega)
        have : (3 : Nat) ^ 5 = 243 := by decide
        omega
    exact Nat.lt_of_lt_of_le (h.bs.co _) (Nat.pow_le_pow_right (by decide) (k9_le this))
theorem CB.done {P : List Int} {n m : Nat} (h : CB P [] n m) : Bd k9 P := by
  by_cases e : P.length ≤ 1
  · by_cases e1 : P.length = 1
    · rw [one_pl h.p e1]
      intro z hz
      have : z = 1 := by simpa using hz
      rw [this]
      exact Nat.lt_of_lt_of_le (show 1 < 2 ^ 1 by decide) (Nat.pow_le_pow_right (by decide) (k9_le (by decide)))
    · have : P = [] := List.length_eq_zero_iff.mp (by omega)
      rw [this]; exact fun z hz => nomatch hz
  · refine h.bp.mono (k9_le ?_)
    rcases h.w with ⟨a, b⟩ | ⟨l, a, b⟩
    · omega
    · have h2 : (3 : Nat) ^ (7 - P.length) ≤ 3 ^ 5 := three_le (by omega)
      have : (3 : Nat) ^ 5 = 243 := by decide
      omega
theorem CB.next {P S r : List Int} {n m : Nat} (h : CB P S n m) (hS : S ≠ []) (cr : Cn r) (lr : r.length < S.length) (br : Bd (dw P S n m) r) :
    CB S (plF r) m (dw P S n m) ∧ Bd k13 r := by
  have lp := h.lp
  have ls := h.ls
  have key : dw P S n m + 1 ≤ 18 * 3 ^ (8 - S.length) ∧ m + 1 ≤ 18 * 3 ^ (7 - S.length) := by
    rcases h.w with ⟨a, b⟩ | ⟨l, a, b⟩
    · have o : 1 ≤ (3 : Nat) ^ (7 - S.length) := Nat.pow_pos (show 0 < 3 by decide)
      refine ⟨?_, by omega⟩
      have t := (three_pow (8 - S.length)).1
      have g : P.length + 1 - S.length ≤ 8 - S.length + 1 := by omega
      have g2 : (P.length + 1 - S.length) * (m + 1) ≤ (8 - S.length + 1) * 9 := Nat.mul_le_mul g (by omega)
      unfold dw
      omega
    · have x1 : (3 : Nat) ^ (7 - P.length) ≤ 3 ^ (8 - P.length) := three_le (by omega)
      have x2 : (3 : Nat) ^ (8 - P.length) ≤ 3 ^ (7 - S.length) := three_le (by omega)
      refine ⟨?_, by omega⟩
      have t := (three_pow (P.length - S.length)).2 (by omega)
      have e : (3 : Nat) ^ (8 - S.length) = 3 ^ (P.length - S.length) * 3 ^ (8 - P.length) := by
        rw [← Nat.pow_add]; congr 1; omega
      rw [e]
      generalize (3 : Nat) ^ (8 - P.length) = X at *
      generalize hY : (3 : Nat) ^ (P.length - S.length) = Y at *
      have g : P.length + 1 - S.length = P.length - S.length + 1 := by omega
      have g2 : (P.length - S.length + 1) * (m + 1) ≤ (P.length - S.length + 1) * (18 * X) := Nat.mul_le_mul_left _ b
      have g3 : (P.length - S.length + 2) * (18 * X) ≤ Y * (18 * X) := Nat.mul_le_mul_right _ t
      have g4 : (P.length - S.length + 2) * (18 * X) = (P.length - S.length + 1) * (18 * X) + 18 * X := by grind
      have g5 : Y * (18 * X) = 18 * (Y * X) := by rw [← Nat.mul_assoc, Nat.mul_comm Y 18, Nat.mul_assoc]
      unfold dw
      rw [g]
      omega
  refine ⟨⟨h.s, pl_plF cr, ls, by rw [plF_length]; omega, h.bs, bd_pl cr br, .inr ⟨by rw [plF_length]; exact lr, key.2, key.1⟩⟩, ?_⟩
  by_cases e : r.length = 0
  · rw [List.length_eq_zero_iff.mp e]; exact fun z hz => nomatch hz
  · refine br.mono (k13_le ?_)
    have h2 : (3 : Nat) ^ (8 - S.length) ≤ 3 ^ 6 := three_le (by omega)
    have : (3 : Nat) ^ 6 = 729 := by decide
    have := key.1
    omega
theorem CB.first {p q : List Int} (cp : Cn p) (cq : Cn q) (lp : p.length ≤ 8) (lq : q.length ≤ 8) (bp : Bd 8 (plF p)) (bq : Bd 8 (plF q)) : CB (plF p) (plF q) 8 8 :=
  ⟨pl_plF cp, pl_plF cq, by rw [plF_length]; exact lp, by rw [plF_length]; exact lq, bp, bq, .inl ⟨Nat.le_refl _, Nat.le_refl _⟩⟩
theorem Gc.len {P S g : List Int} (h : Gc P S g) : P.length ≤ 8 → S.length ≤ 8 → g.length ≤ 8 := by
  induction h with
  | done P => exact fun h _ => h
  | step n d _ ih => exact fun _ h => ih h (by rw [plF_length]; have := d.len; omega)
/-- what a division tells -/
def d3 (c : Int) (D r : List Int) : PyData := .tuple [.int c, .list (D.map PyData.int), .list (r.map PyData.int)]
theorem dp3 {K : PySem.W.Frag} {H : Hp} {T u v : Addr} {c : Int} {D r : List Int} (e : H T = some (.tup [.int c, .ref u, .ref v])) (hu : At false H u D) (hv : At false H v r) : Dp K H (.ref T) (d3 c D r) :=
  .tup (SqT.of e) (.cons (.int c) (.cons hu.dp (.cons hv.dp .nil)))
theorem eqv3 (c c' : Int) (D r D' r' : List Int) : PyData.eqv (d3 c D r) (d3 c' D' r') = decide (c = c' ∧ D = D' ∧ r = r') := by
  simp only [d3, PyData.eqv, PyData.eqvAll, eqv_ints, Bool.and_true]
  rw [show (c == c') = decide (c = c') by by_cases h : c = c' <;> simp [h], ← Bool.decide_and, ← Bool.decide_and]
theorem shaped3 (c : Int) (D r : List Int) : SeqAt.shaped (d3 c D r) = true := by
  have h1 := shaped_ints D
  have h2 := shaped_ints r
  unfold SeqAt.shaped at *
  simp only [Bool.and_eq_true, decide_eq_true_eq] at *
  have e1 : ∀ p : List Int, PyData.depthAll (p.map PyData.int) ≤ 1 := by
    intro p
    induction p with
    | nil => simp [PyData.depthAll]
    | cons a p ih => simp only [List.map_cons, PyData.depthAll, PyData.depth]; omega
  have a := e1 D
  have b := e1 r
  refine ⟨by simp [d3, PyData.canLay0, PyData.canLayAll0] at h1 h2 ⊢; exact ⟨h1.1, h2.1⟩, ?_⟩
  simp only [d3, PyData.depth, PyData.depthAll]; omega
theorem ne3 {K : PySem.W.Frag} {H : Hp} {T u v T' u' v' : Addr} {c c' : Int} {D r D' r' : List Int} {Q : VK} (e : H T = some (.tup [.int c, .ref u, .ref v])) (hu : At false H u D) (hv : At false H v r)
    (e' : H T' = some (.tup [.int c', .ref u', .ref v'])) (hu' : At false H u' D') (hv' : At false H v' r') (q : Q (.bl (!decide (c = c' ∧ D = D' ∧ r = r'))) H) : rNeD K (.ref T) (.ref T') H Q :=
  ⟨_, _, dp3 e hu hv, dp3 e' hu' hv', shaped3 .., shaped3 .., by rw [eqv3]; exact q⟩
theorem eq3 {K : PySem.W.Frag} {H : Hp} {T u v T' u' v' : Addr} {c c' : Int} {D r D' r' : List Int} {Q : VK} (e : H T = some (.tup [.int c, .ref u, .ref v])) (hu : At false H u D) (hv : At false H v r)
    (e' : H T' = some (.tup [.int c', .ref u', .ref v'])) (hu' : At false H u' D') (hv' : At false H v' r') (q : Q (.bl (decide (c = c' ∧ D = D' ∧ r = r'))) H) : rEqD K (.ref T) (.ref T') H Q :=
  ⟨_, _, dp3 e hu hv, dp3 e' hu' hv', shaped3 .., shaped3 .., by rw [eqv3]; exact q⟩
def spLnPB : Sp := fun vs H Q _ => ∃ (k : Bool) (a : Addr) (p : List Int), vs = [.ref a] ∧ Ln k H a p ∧ Bd k13 p ∧ NewL H (plF p) Q
def spLComm : Sp := fun vs H Q _ => ∃ (a b : Addr) (p q : List Int), vs = [.ref a, .ref b] ∧ At false H a p ∧ At false H b q ∧
  p.length ≤ 8 ∧ q.length ≤ 8 ∧ Cn p ∧ Cn q ∧ Bd 8 (plF p) ∧ Bd 8 (plF q) ∧ Bd k13 p ∧ Bd k13 q ∧
  ∀ (H' : Hp) (u : Addr) (g : List Int), Same H H' → H u = none → At false H' u g → Gc (plF p) (plF q) g → Bd k9 g → g.length ≤ 8 → Q (.ref u) H'
theorem few (A B : Nat) : ∀ (q : List Int) (f : Fn) (i : Nat), (∀ z ∈ q, z.natAbs ≤ B) → (∀ n, (f n).natAbs ≤ A) → (cv (co q) f i).natAbs ≤ q.length * (B * A)
  | [], f, i, _, _ => by rw [co_nil, cv_zero]; simp
  | b :: q, f, i, hq, hf => by
    have z : (fun n => co (b :: q) (n + 1)) = co q := by funext n; exact co_s b q n
    have h1 : (b * f i).natAbs ≤ B * A := by
      rw [Int.natAbs_mul]
      exact Nat.mul_le_mul (hq b List.mem_cons_self) (hf i)
    cases i with
    | zero =>
      rw [cv, co_0, List.length_cons, Nat.add_mul, Nat.one_mul]
      exact Nat.le_trans h1 (Nat.le_add_left _ _)
    | succ i =>
      have ih := few A B q f i (fun z hz => hq z (List.mem_cons_of_mem _ hz)) hf
      rw [cv, z, co_0, List.length_cons, Nat.add_mul, Nat.one_mul]
      have := Int.natAbs_add_le (b * f (i + 1)) (cv (co q) f i)
      have h2 : (b * f (i + 1)).natAbs ≤ B * A := by
        rw [Int.natAbs_mul]
        exact Nat.mul_le_mul (hq b List.mem_cons_self) (hf (i + 1))
      omega
theorem mul_few {p q : List Int} {A B L k : Nat} (hp : ∀ z ∈ p, z.natAbs ≤ A) (hq : ∀ z ∈ q, z.natAbs ≤ B) (l : q.length ≤ L) (h : L * (B * A) < 2 ^ k) : Bd k (mulF p q) := bd_of fun i => by
  rw [co_mul, cv_comm]
  have := few A B q (co p) i hq fun n => by
    by_cases e : n < p.length
    · rw [co_at e]; exact hp _ (List.getElem_mem e)
    · rw [co_big (by omega)]; exact Nat.zero_le _
  have := Nat.mul_le_mul_right (B * A) l
  omega
/-- one step of the law's own common part -/
theorem pseudo {P S D r r' : List Int} {c t x : Int} {w : Nat} (c0 : c ≠ 0) (hS : S ≠ []) (cS : Cn S) (ht : co S (S.length - 1) = t) (hx : co r (r.length - 1) = x) (l : S.length ≤ r.length) (hw : r.length - S.length = w)
    (eq : ∀ i, c * co P i = cv (co D) (co S) i + co r i) (cr : Cn r') (er : ∀ i, co r' i = t * co r i + -x * (if w ≤ i then co S (i - w) else 0)) :
    c * t ≠ 0 ∧ (∃ D', ∀ i, c * t * co P i = cv (co D') (co S) i + co r' i) ∧ r'.length < r.length := by
  have ls : 0 < S.length := List.length_pos_iff.mpr hS
  have t0 : t ≠ 0 := by rw [← ht]; exact cn_last cS hS
  refine ⟨Int.mul_ne_zero c0 t0, ⟨addF (sclF t D) (shF w [x]), fun i => ?_⟩, ?_⟩
  · have e : co (addF (sclF t D) (shF w [x])) = fun n => (fun n => t * co D n) n + (fun n => if n = w then x else 0) n := by
      funext n
      rw [co_add, co_scl, co_sh]
      by_cases h : n = w
      · subst h; simp [co]
      · by_cases h2 : w ≤ n
        · have : co [x] (n - w) = 0 := co_big (by simp; omega)
          simp [h, h2, this]
        · simp [h, h2]
    rw [e, cv_add_l, cv_scl_l, cv_sh, er]
    have := eq i
    split <;> grind
  · have := length_le_of cr (k := r.length - 1) fun i hi => by
      rw [er]
      by_cases e : i = r.length - 1
      · rw [if_pos (by omega), e, show r.length - 1 - w = S.length - 1 by omega, ht, hx]; grind
      · rw [co_big (p := r) (by omega), if_pos (by omega), co_big (p := S) (by omega)]; grind
    omega
theorem k9_val : k9 = 9000 := by unfold k9; rfl
theorem k13_val : k13 = 13500 := by unfold k13; rfl
theorem k9_13 {a b : Nat} (h : a + b ≤ 4500) : a + k9 + b ≤ k13 := by rw [k9_val, k13_val]; omega
theorem nil_bd (k : Nat) : Bd k [] := fun z hz => nomatch hz
theorem cn_lit {p : List Int} {z : Int} (h : p.getLast? = some z) (n : z ≠ 0) : Cn p := fun y hy => by rw [h] at hy; cases hy; exact n
theorem dv_one : Dv [1, 0, 1] [1, 2] 4 [-1, 2] [5] := dv_is (by decide) (cn_lit (z := 2) rfl (by decide)) (cn_lit (z := 5) rfl (by decide)) (by decide) (by decide) fun d _ h _ => by
  have h0 := h 0
  have e : co [-1, 2] 0 = -1 := rfl
  rw [e] at h0
  exact Int.dvd_neg.mp h0
theorem dv_two : Dv [3] [0, 1] 1 [] [3] := dv_is (by decide) cn_nil (cn_lit (z := 3) rfl (by decide)) (by decide) (by decide) fun d h _ _ => h
theorem dv_nil {q : List Int} (h : q ≠ []) : Dv [] q 1 [] [] := dv_is (by decide) cn_nil cn_nil (List.length_pos_iff.mpr h) (by simp [mulF, sclF, addF]) fun d h _ _ => h
theorem bd_lit {p : List Int} {k : Nat} (h : (p.all fun z => decide (z.natAbs < 2 ^ k)) = true) : Bd k p := fun z hz => of_decide_eq_true (List.all_eq_true.mp h z hz)
end Kr
/-! Polynomials in two letters: lists of lists. -/
namespace Kr
abbrev Pn := List (List Int)
def ro (P : Pn) (i : Nat) : List Int := P.getD i []
def co2 (P : Pn) (i j : Nat) : Int := co (ro P i) j
theorem ro_big {P : Pn} {i : Nat} (h : P.length ≤ i) : ro P i = [] := by simp [ro, List.getD, List.getElem?_eq_none h]
theorem ro_at {P : Pn} {i : Nat} (h : i < P.length) : ro P i = P[i] := by simp [ro, List.getD, h]
theorem co2_big {P : Pn} {i : Nat} (h : P.length ≤ i) (j : Nat) : co2 P i j = 0 := by unfold co2; rw [ro_big h, co_nil]
structure Cn2 (P : Pn) : Prop where
  row : ∀ p ∈ P, Cn p
  last : ∀ p, P.getLast? = some p → p ≠ []
theorem Cn2.ro {P : Pn} (c : Cn2 P) (i : Nat) : Cn (ro P i) := by
  by_cases h : i < P.length
  · rw [ro_at h]; exact c.row _ (List.getElem_mem h)
  · rw [ro_big (by omega)]; exact cn_nil
theorem cn2_nil : Cn2 [] := ⟨fun p h => (by cases h), fun p h => (by cases h)⟩
theorem cn2_last {P : Pn} (c : Cn2 P) (h : P ≠ []) : ro P (P.length - 1) ≠ [] := by
  have l : 0 < P.length := List.length_pos_iff.mpr h
  rw [ro_at (by omega)]
  refine c.last _ ?_
  rw [List.getLast?_eq_some_getLast h, List.getLast_eq_getElem]
theorem co2_ext {P Q : Pn} (cp : Cn2 P) (cq : Cn2 Q) (h : ∀ i j, co2 P i j = co2 Q i j) : P = Q := by
  have rows : ∀ i, ro P i = ro Q i := fun i => co_ext (cp.ro i) (cq.ro i) (h i)
  have key : ∀ {P Q : Pn}, Cn2 Q → (∀ i, ro P i = ro Q i) → ¬ P.length < Q.length := by
    intro P Q cq h l
    have hq : Q ≠ [] := by intro e; rw [e] at l; exact absurd l (Nat.not_lt_zero _)
    have := cn2_last cq hq
    rw [← h, ro_big (by omega)] at this
    exact this rfl
  have l1 := key cq rows
  have l2 := key cp fun i => (rows i).symm
  refine List.ext_getElem (by omega) fun i h1 h2 => ?_
  have := rows i
  rwa [ro_at h1, ro_at h2] at this
def trim2 : Pn → Pn
  | [] => []
  | p :: P => if trim2 P = [] ∧ trim p = [] then [] else trim p :: trim2 P
theorem ro_0 (p : List Int) (P : Pn) : ro (p :: P) 0 = p := by simp [ro]
theorem ro_s (p : List Int) (P : Pn) (i : Nat) : ro (p :: P) (i + 1) = ro P i := by simp [ro]
theorem ro_trim2 : ∀ (P : Pn) (i : Nat), ro (trim2 P) i = trim (ro P i)
  | [], i => by simp [trim2, ro, trim]
  | p :: P, i => by
    have ih := ro_trim2 P
    unfold trim2
    split
    · rename_i h
      cases i with
      | zero => rw [ro_0, h.2]; simp [ro]
      | succ i => rw [ro_s, ← ih, h.1]; simp [ro]
    · cases i with
      | zero => rw [ro_0, ro_0]
      | succ i => rw [ro_s, ro_s, ih]
theorem co2_trim2 (P : Pn) (i j : Nat) : co2 (trim2 P) i j = co2 P i j := by unfold co2; rw [ro_trim2, co_trim]
theorem cn2_trim2 : ∀ P : Pn, Cn2 (trim2 P)
  | [] => cn2_nil
  | p :: P => by
    have ih := cn2_trim2 P
    unfold trim2
    split
    · exact cn2_nil
    · rename_i h
      refine ⟨fun q hq => ?_, fun q hq => ?_⟩
      · rcases List.mem_cons.mp hq with e | e
        · rw [e]; exact cn_trim p
        · exact ih.row q e
      · by_cases e : trim2 P = []
        · rw [e] at hq
          have : trim p = q := by simpa using hq
          intro z
          exact h ⟨e, by rw [this, z]⟩
        · rw [List.getLast?_cons, List.getLast?_eq_some_getLast e] at hq
          refine ih.last q ?_
          rw [List.getLast?_eq_some_getLast e]
          simpa using hq
theorem trim2_length : ∀ P : Pn, (trim2 P).length ≤ P.length
  | [] => Nat.le_refl _
  | p :: P => by
    have ih := trim2_length P
    unfold trim2
    split
    · exact Nat.zero_le _
    · simp only [List.length_cons]; omega
theorem trim2_cn {P : Pn} (c : Cn2 P) : trim2 P = P := co2_ext (cn2_trim2 P) c (co2_trim2 P)
theorem trim2_ext {P Q : Pn} (h : ∀ i j, co2 P i j = co2 Q i j) : trim2 P = trim2 Q :=
  co2_ext (cn2_trim2 P) (cn2_trim2 Q) fun i j => by rw [co2_trim2, co2_trim2, h]
/-- as the program does it -/
theorem trim2_take {P : Pn} {n : Nat} (hn : n ≤ P.length) (h : ∀ i, n ≤ i → trim (ro P i) = []) (e : n = 0 ∨ trim (ro P (n - 1)) ≠ []) :
    trim2 P = (P.map trim).take n := by
  have r : ∀ i, ro ((P.map trim).take n) i = if i < n then trim (ro P i) else [] := fun i => by
    unfold ro
    rw [List.getD_eq_getElem?_getD, List.getD_eq_getElem?_getD, List.getElem?_take]
    split
    · rw [List.getElem?_map]
      cases P[i]? <;> simp [trim]
    · rfl
  have l : ((P.map trim).take n).length = n := by rw [List.length_take, List.length_map]; omega
  refine co2_ext (cn2_trim2 P) ⟨fun p hp => ?_, fun p hp => ?_⟩ fun i j => ?_
  · obtain ⟨q, _, rfl⟩ := List.mem_map.mp (List.mem_of_mem_take hp)
    exact cn_trim q
  · have hne : (P.map trim).take n ≠ [] := by intro z; rw [z] at hp; cases hp
    have n0 : n ≠ 0 := by intro z; subst z; exact hne rfl
    rw [List.getLast?_eq_some_getLast hne, List.getLast_eq_getElem] at hp
    have := r (n - 1)
    rw [if_pos (by omega), ro_at (by omega)] at this
    simp only [l] at hp
    rw [← Option.some.inj hp, this]
    exact e.resolve_left n0
  · unfold co2
    rw [ro_trim2, r]
    split
    · rfl
    · rw [h i (by omega)]
def add2 : Pn → Pn → Pn
  | [], Q => Q
  | p :: P, [] => p :: P
  | p :: P, q :: Q => addF p q :: add2 P Q
theorem ro_add2 : ∀ (P Q : Pn) (i : Nat), ro (add2 P Q) i = addF (ro P i) (ro Q i)
  | [], Q, i => by simp [add2, ro, addF]
  | p :: P, [], i => by rw [show ro ([] : Pn) i = [] by simp [ro], addF_comm]; simp [add2, addF]
  | p :: P, q :: Q, 0 => by simp [add2, ro]
  | p :: P, q :: Q, i + 1 => by simp only [add2, ro_s]; exact ro_add2 P Q i
theorem co2_add2 (P Q : Pn) (i j : Nat) : co2 (add2 P Q) i j = co2 P i j + co2 Q i j := by unfold co2; rw [ro_add2, co_add]
theorem add2_length : ∀ P Q : Pn, (add2 P Q).length = max P.length Q.length
  | [], Q => by simp [add2]
  | p :: P, [] => by simp [add2]
  | p :: P, q :: Q => by simp only [add2, List.length_cons, add2_length P Q]; omega
theorem add2_comm (P Q : Pn) : trim2 (add2 P Q) = trim2 (add2 Q P) := trim2_ext fun i j => by rw [co2_add2, co2_add2]; omega
def scl2 (c : Int) (P : Pn) : Pn := P.map (sclF c)
theorem ro_scl2 (c : Int) (P : Pn) (i : Nat) : ro (scl2 c P) i = sclF c (ro P i) := by
  unfold ro scl2
  rw [List.getD_eq_getElem?_getD, List.getD_eq_getElem?_getD, List.getElem?_map]
  cases P[i]? <;> simp [sclF]
theorem co2_scl2 (c : Int) (P : Pn) (i j : Nat) : co2 (scl2 c P) i j = c * co2 P i j := by unfold co2; rw [ro_scl2, co_scl]
theorem ro_app {P Q : Pn} {i : Nat} : ro (P ++ Q) i = if i < P.length then ro P i else ro Q (i - P.length) := by
  unfold ro
  rw [List.getD_eq_getElem?_getD, List.getD_eq_getElem?_getD, List.getD_eq_getElem?_getD, List.getElem?_append]
  split <;> rfl
theorem ro_tab (g : Nat → List Int) (n i : Nat) : ro ((List.range n).map g) i = if i < n then g i else [] := by
  unfold ro
  rw [List.getD_eq_getElem?_getD, List.getElem?_map]
  by_cases h : i < n
  · rw [if_pos h, List.getElem?_range h]; rfl
  · rw [if_neg h, List.getElem?_eq_none (by simpa using h)]; rfl
theorem ro_drop (P : Pn) (n i : Nat) : ro (P.drop n) i = ro P (n + i) := by
  unfold ro
  rw [List.getD_eq_getElem?_getD, List.getD_eq_getElem?_getD, List.getElem?_drop]
/-- the rows added, as the program lays them -/
theorem add2_zip {P Q : Pn} (l : Q.length ≤ P.length) : trim2 ((List.range Q.length).map (fun i => trim (addF (ro P i) (ro Q i))) ++ P.drop Q.length) = trim2 (add2 P Q) := trim2_ext fun i j => by
  rw [co2_add2]
  unfold co2
  rw [ro_app, List.length_map, List.length_range]
  split
  · rename_i h
    rw [ro_tab, if_pos h, co_trim, co_add]
  · rw [ro_drop, ro_big (P := Q) (by omega), co_nil, show Q.length + (i - Q.length) = i by omega]
    exact (Int.add_zero _).symm
def slx (P : Pn) : Pn := (List.range (P.length - 1)).map fun i : Nat => trim (sclF (((i + 1 : Nat) : Int)) (ro P (i + 1)))
def sly (P : Pn) : Pn := trim2 (P.map slF)
/-- with a number in the place of x -/
def atX (x : Int) : Pn → List Int
  | [] => []
  | p :: P => trim (addF (sclF x (atX x P)) p)
def atY (y : Int) (P : Pn) : List Int := trim (P.map (ev y))
theorem atX_rev (x : Int) (P : Pn) (i : Nat) (h : i < P.length) :
    atX x (P.reverse.take (i + 1)).reverse = trim (addF (sclF x (atX x (P.reverse.take i).reverse)) (ro P.reverse i)) := by
  have l : i < P.reverse.length := by rw [List.length_reverse]; exact h
  rw [List.take_add_one, List.getElem?_eq_getElem l, List.reverse_append, ro_at l]
  rfl
theorem atX_length (x : Int) : ∀ (P : Pn) (n : Nat), (∀ p ∈ P, p.length ≤ n) → (atX x P).length ≤ n
  | [], n, _ => by simp [atX]
  | p :: P, n, h => by
    have ih := atX_length x P n fun q hq => h q (List.mem_cons_of_mem _ hq)
    have hp := h p List.mem_cons_self
    refine Nat.le_trans (trim_length _) ?_
    rw [addF_length]
    simp only [sclF, List.length_map]
    omega
theorem atX_bd {k j : Nat} {x : Int} (hx : x.natAbs < 2 ^ j) : ∀ P : Pn, (∀ p ∈ P, Bd k p) → Bd (k + P.length * (j + 1)) (atX x P)
  | [], _ => fun z hz => (by cases hz)
  | p :: P, h => by
    have ih := atX_bd hx P fun q hq => h q (List.mem_cons_of_mem _ hq)
    have b1 := bd_scl hx ih
    have b2 : Bd (j + (k + P.length * (j + 1))) p := (h p List.mem_cons_self).mono (by omega)
    refine (bd_trim (bd_add b1 b2)).mono ?_
    rw [List.length_cons, Nat.add_mul]; omega
/-! products -/
def cvP : (Nat → Fn) → (Nat → Fn) → Nat → Fn
  | f, g, 0 => cv (f 0) (g 0)
  | f, g, i + 1 => fun j => cv (f 0) (g (i + 1)) j + cvP (fun n => f (n + 1)) g i j
def cf (P : Pn) : Nat → Fn := fun i => co (ro P i)
theorem cvP_s (f g : Nat → Fn) (i j : Nat) : cvP f g (i + 1) j = cv (f 0) (g (i + 1)) j + cvP (fun n => f (n + 1)) g i j := rfl
theorem cvP_zero : ∀ (i : Nat) (g : Nat → Fn) (j : Nat), cvP (fun _ _ => 0) g i j = 0
  | 0, g, j => by rw [cvP, cv_zero]
  | i + 1, g, j => by rw [cvP_s, cv_zero, cvP_zero i g j]; rfl
theorem cvP_add_l : ∀ (i : Nat) (f f' g : Nat → Fn) (j : Nat), cvP (fun n m => f n m + f' n m) g i j = cvP f g i j + cvP f' g i j
  | 0, f, f', g, j => by rw [cvP, cvP, cvP, cv_add_l]
  | i + 1, f, f', g, j => by
    have ih := cvP_add_l i (fun n => f (n + 1)) (fun n => f' (n + 1)) g j
    simp only [cvP]
    rw [ih, cv_add_l]
    grind
theorem cvP_delta (i : Nat) (c : Fn) : ∀ (t : Nat) (g : Nat → Fn) (j : Nat), cvP (fun n m => if n = i then c m else 0) g t j = if i ≤ t then cv c (g (t - i)) j else 0 := by
  induction i with
  | zero =>
    intro t g j
    have z : (fun (n : Nat) (m : Nat) => if n + 1 = 0 then c m else 0) = fun _ _ => (0 : Int) := by funext n m; rw [if_neg (by omega)]
    have e : (fun m => if (0 : Nat) = 0 then c m else 0) = c := by funext m; rw [if_pos rfl]
    cases t with
    | zero => rw [cvP, e]; rfl
    | succ t =>
      rw [cvP_s, e, z, cvP_zero, if_pos (Nat.zero_le _)]
      exact Int.add_zero _
  | succ i ih =>
    intro t g j
    have z : (fun (n : Nat) (m : Nat) => if n + 1 = i + 1 then c m else 0) = fun n m => if n = i then c m else (0 : Int) := by
      funext n m
      by_cases e : n = i
      · rw [if_pos e, if_pos (by omega)]
      · rw [if_neg e, if_neg (by omega)]
    have e : (fun m => if (0 : Nat) = i + 1 then c m else 0) = fun _ => (0 : Int) := by funext m; rw [if_neg (by omega)]
    cases t with
    | zero => rw [cvP, e, cv_zero, if_neg (by omega)]
    | succ t =>
      rw [cvP_s, e, cv_zero, z, ih t g j, Int.zero_add]
      simp only [Nat.add_le_add_iff_right, Nat.add_sub_add_right]
theorem cvP_vanish : ∀ (a b : Nat) (f g : Nat → Fn), (∀ k, a < k → f k = fun _ => 0) → (∀ k, b < k → g k = fun _ => 0) → (∀ j, cvP f g (a + b) j = cv (f a) (g b) j) ∧ ∀ k, a + b < k → ∀ j, cvP f g k j = 0
  | 0, b, f, g, hf, hg => by
    have z : (fun n => f (n + 1)) = fun _ _ => 0 := by funext n; exact hf _ (Nat.succ_pos n)
    have all : ∀ k j, cvP f g k j = cv (f 0) (g k) j := by
      intro k j
      cases k with
      | zero => rfl
      | succ k => rw [cvP_s, z, cvP_zero, Int.add_zero]
    exact ⟨fun j => by rw [Nat.zero_add, all], fun k hk j => by rw [all, hg k (by omega), cv_comm, cv_zero]⟩
  | a + 1, b, f, g, hf, hg => by
    obtain ⟨h1, h2⟩ := cvP_vanish a b (fun n => f (n + 1)) g (fun k hk => hf _ (by omega)) hg
    refine ⟨fun j => ?_, fun k hk j => ?_⟩
    · rw [show a + 1 + b = (a + b) + 1 by omega, cvP_s, h1, hg _ (by omega), cv_comm (f := f 0), cv_zero, Int.zero_add]
    · obtain ⟨k, rfl⟩ : ∃ j, k = j + 1 := ⟨k - 1, by omega⟩
      rw [cvP_s, h2 k (by omega), hg _ (by omega), cv_comm (f := f 0), cv_zero]; rfl
/-- a row of the product -/
def rowL : (Nat → List Int) → (Nat → List Int) → Nat → List Int
  | f, g, 0 => trim (mulF (f 0) (g 0))
  | f, g, i + 1 => trim (addF (mulF (f 0) (g (i + 1))) (rowL (fun n => f (n + 1)) g i))
theorem co_rowL : ∀ (t : Nat) (f g : Nat → List Int) (j : Nat), co (rowL f g t) j = cvP (fun n => co (f n)) (fun n => co (g n)) t j
  | 0, f, g, j => by rw [rowL, co_trim, co_mul]; rfl
  | t + 1, f, g, j => by rw [rowL, co_trim, co_add, co_mul, co_rowL t]; rfl
theorem cn_rowL : ∀ (t : Nat) (f g : Nat → List Int), Cn (rowL f g t)
  | 0, _, _ => cn_trim _
  | _ + 1, _, _ => cn_trim _
def mul2 (P Q : Pn) : Pn := if P = [] ∨ Q = [] then [] else (List.range (P.length + Q.length - 1)).map (rowL (ro P) (ro Q))
theorem mul2_of {P Q R : Pn} (hp : P ≠ []) (hq : Q ≠ []) (l : R.length = P.length + Q.length - 1) (c : ∀ t, t < R.length → Cn (ro R t)) (h : ∀ t, t < R.length → ∀ j, co2 R t j = cvP (cf P) (cf Q) t j) : R = mul2 P Q := by
  unfold mul2
  rw [if_neg (fun e => e.elim hp hq)]
  refine List.ext_getElem (by rw [l]; simp) fun i h1 h2 => ?_
  rw [← ro_at h1, ← ro_at h2, ro_tab, if_pos (by omega)]
  exact co_ext (c i h1) (cn_rowL _ _ _) fun j => (h i h1 j).trans (co_rowL i _ _ j).symm
/-- within a row of the program's loop -/
def rowP (P Q : Pn) (i j t y : Nat) : Int := cvP (cf (P.take i)) (cf Q) t y + if i ≤ t ∧ t < i + j then cv (co (ro P i)) (co (ro Q (t - i))) y else 0
theorem rowP_0 (P Q : Pn) (i t y : Nat) : rowP P Q i 0 t y = cvP (cf (P.take i)) (cf Q) t y := by
  unfold rowP; rw [if_neg (by omega), Int.add_zero]
theorem rowP_s {P Q : Pn} {i j t y : Nat} : rowP P Q i (j + 1) t y = if t = i + j then rowP P Q i j t y + cv (co (ro P i)) (co (ro Q j)) y else rowP P Q i j t y := by
  unfold rowP
  by_cases e : t = i + j
  · rw [if_pos e, if_pos (by omega), if_neg (by omega), show t - i = j by omega]; omega
  · rw [if_neg e]
    by_cases h : i ≤ t ∧ t < i + j
    · rw [if_pos h, if_pos (by omega)]
    · rw [if_neg h, if_neg (by omega)]
theorem ro_take {P : Pn} {n i : Nat} : ro (P.take n) i = if i < n then ro P i else [] := by
  unfold ro
  rw [List.getD_eq_getElem?_getD, List.getD_eq_getElem?_getD, List.getElem?_take]
  split <;> rfl
theorem rowP_end {P Q : Pn} {i t y : Nat} (l : i < P.length) : rowP P Q i Q.length t y = cvP (cf (P.take (i + 1))) (cf Q) t y := by
  have e : cf (P.take (i + 1)) = fun n m => cf (P.take i) n m + if n = i then co (ro P i) m else 0 := by
    funext n m
    unfold cf
    rw [ro_take, ro_take]
    by_cases h1 : n < i
    · rw [if_pos (by omega), if_pos h1, if_neg (by omega), Int.add_zero]
    · by_cases h2 : n = i
      · rw [if_pos (by omega), if_neg h1, if_pos h2, h2, co_nil]; exact (Int.zero_add _).symm
      · rw [if_neg (by omega), if_neg h1, if_neg h2, co_nil]; rfl
  rw [e, cvP_add_l, cvP_delta]
  unfold rowP
  by_cases h : i ≤ t
  · rw [if_pos h]
    by_cases h2 : t < i + Q.length
    · rw [if_pos ⟨h, h2⟩]; rfl
    · rw [if_neg (by omega), show cf Q (t - i) = fun _ => 0 by unfold cf; rw [ro_big (by omega), co_nil], cv_comm, cv_zero]
  · rw [if_neg h, if_neg (by omega)]
theorem cn2_mul {P Q : Pn} (cp : Cn2 P) (cq : Cn2 Q) : Cn2 (mul2 P Q) := by
  unfold mul2
  split
  · exact cn2_nil
  · rename_i hn
    have hp : P ≠ [] := fun e => hn (.inl e)
    have hq : Q ≠ [] := fun e => hn (.inr e)
    have lp : 0 < P.length := List.length_pos_iff.mpr hp
    have lq : 0 < Q.length := List.length_pos_iff.mpr hq
    refine ⟨fun p h => ?_, fun p h => ?_⟩
    · obtain ⟨i, _, rfl⟩ := List.mem_map.mp h
      exact cn_rowL _ _ _
    · rw [List.getLast?_map, List.getLast?_range, if_neg (by omega)] at h
      have e : rowL (ro P) (ro Q) (P.length + Q.length - 1 - 1) = p := by simpa using h
      intro z
      have v := (cvP_vanish (P.length - 1) (Q.length - 1) (cf P) (cf Q) (fun k hk => by unfold cf; rw [ro_big (by omega), co_nil]) (fun k hk => by unfold cf; rw [ro_big (by omega), co_nil])).1
      rw [show P.length - 1 + (Q.length - 1) = P.length + Q.length - 1 - 1 by omega] at v
      have c1 := cp.ro (P.length - 1)
      have c2 := cq.ro (Q.length - 1)
      have n1 := cn2_last cp hp
      have n2 := cn2_last cq hq
      have m0 : mulF (ro P (P.length - 1)) (ro Q (Q.length - 1)) = [] := nil_of (cn_mul c1 c2) fun j => by
        rw [co_mul]
        have := co_rowL (P.length + Q.length - 1 - 1) (ro P) (ro Q) j
        rw [e, z, co_nil] at this
        exact (v j).symm.trans this.symm
      have := mulF_length n1 n2
      rw [m0] at this
      have a := List.length_pos_iff.mpr n1
      have b := List.length_pos_iff.mpr n2
      simp at this
      omega
end Kr
/-! Planes at their places, and what the program's functions about them promise. -/
namespace Kr
open PySem PySem.Spec
open PyProof.Rows L2

abbrev Rf := List (Bool × Addr)
def rfs (rs : Rf) : List V := rs.map fun x => V.ref x.2
/-- the rows at their places -/
inductive Rows (H : Hp) : Rf → Pn → Prop
  | nil : Rows H [] []
  | cons {x : Bool × Addr} {p : List Int} {rs : Rf} {P : Pn} : At x.1 H x.2 p → Rows H rs P → Rows H (x :: rs) (p :: P)
theorem Rows.same {H H' : Hp} (s : Same H H') : ∀ {rs : Rf} {P : Pn}, Rows H rs P → Rows H' rs P
  | _, _, .nil => .nil
  | _, _, .cons a r => .cons (a.same s) (r.same s)
theorem Rows.chg {c : Addr} {H H' : Hp} (s : Chg c H H') : ∀ {rs : Rf} {P : Pn}, (∀ x ∈ rs, x.2 ≠ c) → Rows H rs P → Rows H' rs P
  | _, _, _, .nil => .nil
  | _, _, n, .cons a r => .cons (a.chg s (n _ List.mem_cons_self)) (r.chg s fun x hx => n x (List.mem_cons_of_mem _ hx))
theorem Rows.len {H : Hp} : ∀ {rs : Rf} {P : Pn}, Rows H rs P → rs.length = P.length
  | _, _, .nil => rfl
  | _, _, .cons _ r => by rw [List.length_cons, List.length_cons, r.len]
theorem Rows.get {H : Hp} : ∀ {rs : Rf} {P : Pn} {i : Nat} {v : V}, Rows H rs P → (rfs rs)[i]? = some v → ∃ k a, v = .ref a ∧ rs[i]? = some (k, a) ∧ At k H a (ro P i) ∧ i < P.length
  | _, _, i, v, .nil, h => by simp [rfs] at h
  | _, _, 0, v, .cons (x := x) a r, h => by
    have e : V.ref x.2 = v := by simpa [rfs] using h
    exact ⟨x.1, x.2, e.symm, rfl, by rw [ro_0]; exact a, by simp⟩
  | _, _, i + 1, v, .cons a r, h => by
    obtain ⟨k, b, e1, e2, e3, e4⟩ := r.get (i := i) (v := v) (by simpa [rfs] using h)
    exact ⟨k, b, e1, by simpa using e2, by rw [ro_s]; exact e3, by simpa using e4⟩
theorem Rows.app {H : Hp} : ∀ {rs : Rf} {P : Pn} {rs' : Rf} {P' : Pn}, Rows H rs P → Rows H rs' P' → Rows H (rs ++ rs') (P ++ P')
  | _, _, _, _, .nil, h => h
  | _, _, _, _, .cons a r, h => .cons a (r.app h)
theorem Rows.drop {H : Hp} : ∀ {rs : Rf} {P : Pn} (n : Nat), Rows H rs P → Rows H (rs.drop n) (P.drop n)
  | _, _, 0, h => h
  | _, _, n + 1, .nil => .nil
  | _, _, n + 1, .cons _ r => r.drop n
theorem Rows.take {H : Hp} : ∀ {rs : Rf} {P : Pn} (n : Nat), Rows H rs P → Rows H (rs.take n) (P.take n)
  | _, _, 0, _ => .nil
  | _, _, n + 1, .nil => .nil
  | _, _, n + 1, .cons a r => .cons a (r.take n)
theorem Rows.one {H : Hp} {k : Bool} {a : Addr} {p : List Int} (h : At k H a p) : Rows H [(k, a)] [p] := .cons (x := (k, a)) h .nil
/-- a plane at a: rs its rows -/
structure At2 (k : Bool) (H : Hp) (a : Addr) (rs : Rf) (P : Pn) : Prop where
  top : match k with | true => H a = some (.tup (rfs rs)) | false => H a = some (.lst (rfs rs))
  rows : Rows H rs P
theorem At2.same {k : Bool} {H H' : Hp} {a : Addr} {rs : Rf} {P : Pn} (s : Same H H') (h : At2 k H a rs P) : At2 k H' a rs P := by
  refine ⟨?_, h.rows.same s⟩
  cases k with
  | true => exact s _ _ h.top
  | false => exact s _ _ h.top
theorem At2.sq {K : PySem.W.Frag} {k : Bool} {H : Hp} {a : Addr} {rs : Rf} {P : Pn} (h : At2 k H a rs P) : Sq K k H a (rfs rs) := by
  cases k with
  | true => exact SqT.of h.top
  | false => exact SqL.of h.top
theorem At2.ne {k : Bool} {H : Hp} {a b : Addr} {rs : Rf} {P : Pn} (h : At2 k H a rs P) (n : H b = none) : a ≠ b := by
  cases k with
  | true => exact ne_of_none h.top n
  | false => exact ne_of_none h.top n
theorem rfs_len (rs : Rf) : (rfs rs).length = rs.length := by simp [rfs]
theorem At2.len {k : Bool} {H : Hp} {a : Addr} {rs : Rf} {P : Pn} (h : At2 k H a rs P) : (rfs rs).length = P.length := by rw [rfs_len, h.rows.len]
/-- a new plane, its rows new, too -/
abbrev NewP (H : Hp) (R : Pn) (Q : VK) : Prop := ∀ (H' : Hp) (a : Addr) (rs : Rf), Same H H' → H a = none → At2 false H' a rs R → (∀ x ∈ rs, x.1 = false ∧ H x.2 = none ∧ x.2 ≠ a) → (rs.map (·.2)).Nodup → Q (.ref a) H'
theorem NewP.go {H H1 : Hp} {R : Pn} {Q : VK} (q : NewP H R Q) (s : Same H H1) : NewP H1 R Q := fun H' a rs s1 n t f d => q H' a rs (Same.trans s s1) (s.free n) t (fun x hx => ⟨(f x hx).1, s.free (f x hx).2.1, (f x hx).2.2⟩) d
def small2 (P : Pn) : Prop := P.length ≤ 400 ∧ ∀ p ∈ P, p.length ≤ 400
theorem small2.ro {P : Pn} (h : small2 P) (i : Nat) : (ro P i).length ≤ 400 := by
  by_cases l : i < P.length
  · rw [ro_at l]; exact h.2 _ (List.getElem_mem l)
  · rw [ro_big (by omega)]; exact Nat.zero_le _
def Bd2 (k : Nat) (P : Pn) : Prop := ∀ p ∈ P, Bd k p
theorem Bd2.ro {k : Nat} {P : Pn} (h : Bd2 k P) (i : Nat) : Bd k (ro P i) := by
  by_cases l : i < P.length
  · rw [ro_at l]; exact h _ (List.getElem_mem l)
  · rw [ro_big (by omega)]; exact nil_bd k
def spTrimQ : Sp := fun vs H Q _ => ∃ (k : Bool) (a : Addr) (p : List Int), vs = [.ref a] ∧ At k H a p ∧ p.length ≤ 1000 ∧ NewL H (trim p) Q
def spGTrim : Sp := fun vs H Q _ => ∃ (k : Bool) (a : Addr) (rs : Rf) (P : Pn), vs = [.ref a] ∧ At2 k H a rs P ∧ small2 P ∧ NewP H (trim2 P) Q
def spGScaled : Sp := fun vs H Q _ => ∃ (k : Bool) (a : Addr) (rs : Rf) (P : Pn) (f : Int), vs = [.ref a, .int f] ∧ At2 k H a rs P ∧ small2 P ∧ Bd2 big P ∧ f.natAbs < 2 ^ big ∧ NewP H (trim2 (scl2 f P)) Q
def spGSum : Sp := fun vs H Q _ => ∃ (k j : Bool) (a b : Addr) (rs ss : Rf) (P R : Pn), vs = [.ref a, .ref b] ∧ At2 k H a rs P ∧ At2 j H b ss R ∧ small2 P ∧ small2 R ∧ NewP H (trim2 (add2 P R)) Q
def spGLess : Sp := fun vs H Q _ => ∃ (k j : Bool) (a b : Addr) (rs ss : Rf) (P R : Pn), vs = [.ref a, .ref b] ∧ At2 k H a rs P ∧ At2 j H b ss R ∧ small2 P ∧ small2 R ∧ Bd2 big R ∧ NewP H (trim2 (add2 P (scl2 (-1) R))) Q
/-- rows made one by one -/
structure Made (H H' : Hp) (o : Addr) (rs : Rf) (P : Pn) : Prop where
  same : Same H H'
  top : H' o = some (.lst (rfs rs))
  rows : Rows H' rs P
  new : ∀ x ∈ rs, x.1 = false ∧ H x.2 = none ∧ x.2 ≠ o
  nd : (rs.map (·.2)).Nodup
theorem Made.nil {H : Hp} {o : Addr} (n : H o = none) : Made H (upd H o (.lst [])) o [] [] :=
  ⟨Same.put n, by rw [upd_same]; rfl, .nil, fun x h => (by cases h), List.nodup_nil⟩
/-- one more -/
theorem Made.add {H H1 H2 : Hp} {o r : Addr} {rs : Rf} {P : Pn} {p : List Int} (no : H o = none) (m : Made H H1 o rs P) (s : Same H1 H2) (nr : H1 r = none) (e : At false H2 r p) :
    Made H (upd H2 o (.lst (rfs rs ++ [.ref r]))) o (rs ++ [(false, r)]) (P ++ [p]) := by
  have ro' : r ≠ o := fun z => by rw [z, m.top] at nr; cases nr
  have ch : Chg o H2 (upd H2 o (.lst (rfs rs ++ [.ref r]))) := fun b x nb e => by rw [upd_ne nb]; exact e
  refine ⟨Same.ov no (Same.trans m.same s), ?_, ?_, fun x hx => ?_, ?_⟩
  · rw [upd_same]; simp [rfs]
  · exact ((m.rows.same s).chg ch fun x hx => (m.new x hx).2.2).app (.one (e.chg ch ro'))
  · rcases List.mem_append.mp hx with h | h
    · exact m.new x h
    · obtain rfl : x = (false, r) := by simpa using h
      exact ⟨rfl, Same.free m.same nr, ro'⟩
  · rw [List.map_append, List.nodup_append]
    refine ⟨m.nd, by simp, fun y hy z hz => ?_⟩
    obtain rfl : z = r := by simpa using hz
    obtain ⟨x, hx, rfl⟩ := List.mem_map.mp hy
    intro e2
    obtain ⟨i, hi⟩ := List.mem_iff_getElem?.mp hx
    have := m.rows.get (i := i) (v := .ref x.2) (by simp [rfs, hi])
    obtain ⟨k, b, e3, e4, e5, _⟩ := this
    cases e3
    exact (e5.ne nr) e2
theorem Made.at2 {H H' : Hp} {o : Addr} {rs : Rf} {P : Pn} (m : Made H H' o rs P) : At2 false H' o rs P := ⟨m.top, m.rows⟩
theorem take_ro {P : Pn} {i : Nat} (l : i < P.length) : P.take (i + 1) = P.take i ++ [ro P i] := by
  rw [List.take_add_one, List.getElem?_eq_getElem l, ro_at l]; rfl
theorem atI_neg {α : Type} {xs : List α} {v : α} (h : xs[xs.length - 1]? = some v) (n : xs ≠ []) : atI xs (-1) = some v := by
  have l : 0 < xs.length := List.length_pos_iff.mpr n
  have e : xs = xs.dropLast ++ [v] := by
    rw [List.getElem?_eq_getElem (by omega)] at h
    have h2 := Option.some.inj h
    rw [← h2, ← List.getLast_eq_getElem n]
    exact (List.dropLast_concat_getLast n).symm
  rw [e]; exact atI_last _ _
theorem Made.pop {H H' : Hp} {o : Addr} {rs : Rf} {P : Pn} (no : H o = none) (m : Made H H' o rs P) : Made H (upd H' o (.lst (rfs rs).dropLast)) o (rs.take (rs.length - 1)) (P.take (P.length - 1)) := by
  have ch : Chg o H' (upd H' o (.lst (rfs rs).dropLast)) := fun b x nb e => by rw [upd_ne nb]; exact e
  refine ⟨Same.ov no m.same, ?_, ?_, fun x hx => m.new x (List.mem_of_mem_take hx), ?_⟩
  · rw [upd_same, List.dropLast_eq_take, rfs_len]; simp [rfs, List.map_take]
  · rw [← m.rows.len]
    exact (m.rows.chg ch fun x hx => (m.new x hx).2.2).take _
  · rw [List.map_take]
    exact (List.take_sublist _ _).nodup m.nd
theorem Made.chgd {H H1 H2 : Hp} {o : Addr} {rs : Rf} {P : Pn} (m : Made H H1 o rs P) (s : Same H1 H2) : Made H H2 o rs P :=
  ⟨Same.trans m.same s, s _ _ m.top, m.rows.same s, m.new, m.nd⟩
theorem Made.newP {H H' : Hp} {o : Addr} {rs : Rf} {P : Pn} {Q : VK} (m : Made H H' o rs P) (no : H o = none) (q : NewP H P Q) : Q (.ref o) H' := q H' o rs m.same no m.at2 m.new m.nd
theorem ro_map (P : Pn) (g : List Int → List Int) (g0 : g [] = []) (i : Nat) : ro (P.map g) i = g (ro P i) := by
  unfold ro
  rw [List.getD_eq_getElem?_getD, List.getD_eq_getElem?_getD, List.getElem?_map]
  cases P[i]? <;> simp [g0]
theorem small2_map {P : Pn} (h : small2 P) (g : List Int → List Int) (hg : ∀ p, (g p).length ≤ p.length) : small2 (P.map g) :=
  ⟨by rw [List.length_map]; exact h.1, fun p hp => by obtain ⟨q, hq, rfl⟩ := List.mem_map.mp hp; exact Nat.le_trans (hg q) (h.2 q hq)⟩
theorem take_map {P : Pn} {g : List Int → List Int} {i : Nat} (l : i < P.length) : (P.take (i + 1)).map g = (P.take i).map g ++ [g (ro P i)] := by
  rw [take_ro l, List.map_append]; rfl
def spGSlx : Sp := fun vs H Q _ => ∃ (k : Bool) (a : Addr) (rs : Rf) (P : Pn), vs = [.ref a] ∧ At2 k H a rs P ∧ small2 P ∧ Bd2 big P ∧ NewP H (slx P) Q
def spGSly : Sp := fun vs H Q _ => ∃ (k : Bool) (a : Addr) (rs : Rf) (P : Pn), vs = [.ref a] ∧ At2 k H a rs P ∧ small2 P ∧ Bd2 big P ∧ NewP H (sly P) Q
def spGAtX : Sp := fun vs H Q _ => ∃ (k : Bool) (a : Addr) (rs : Rf) (P : Pn) (x : Int), vs = [.ref a, .int x] ∧ At2 k H a rs P ∧ small2 P ∧ Bd2 1000000 P ∧ x.natAbs < 2 ^ 1000 ∧ NewL H (atX x P) Q
def spGAtY : Sp := fun vs H Q _ => ∃ (k : Bool) (a : Addr) (rs : Rf) (P : Pn) (y : Int), vs = [.ref a, .int y] ∧ At2 k H a rs P ∧ small2 P ∧ Bd2 1000000 P ∧ y.natAbs < 2 ^ 1000 ∧ NewL H (atY y P) Q
theorem rfs_drop (rs : Rf) (n : Nat) : (rfs rs).drop n = rfs (rs.drop n) := by simp [rfs, List.map_drop]
theorem rfs_app (rs ss : Rf) : rfs rs ++ rfs ss = rfs (rs ++ ss) := by simp [rfs]
theorem rfs_rev (rs : Rf) : (rfs rs).reverse = rfs rs.reverse := by simp [rfs]
theorem Rows.rev {H : Hp} {rs : Rf} {P : Pn} (h : Rows H rs P) : Rows H rs.reverse P.reverse := by
  induction h with
  | nil => exact .nil
  | cons a _ ih => rw [List.reverse_cons, List.reverse_cons]; exact ih.app (.one a)
theorem Rows.ats {H : Hp} {rs : Rf} {P : Pn} (h : Rows H rs P) {i : Nat} (l : i < P.length) : ∃ k a, rs[i]? = some (k, a) ∧ At k H a (ro P i) := by
  obtain ⟨v, hv⟩ : ∃ v, (rfs rs)[i]? = some v := ⟨_, List.getElem?_eq_getElem (by rw [rfs_len, h.len]; exact l)⟩
  obtain ⟨k, a, _, e, r, _⟩ := h.get hv
  exact ⟨k, a, e, r⟩
theorem tab_s (g : Nat → List Int) (i : Nat) : (List.range (i + 1)).map g = (List.range i).map g ++ [g i] := by
  rw [List.range_succ, List.map_append]; rfl
def spGTimes : Sp := fun vs H Q _ => ∃ (k j : Bool) (a b : Addr) (rs ss : Rf) (P R : Pn), vs = [.ref a, .ref b] ∧ At2 k H a rs P ∧ At2 j H b ss R ∧
  P.length ≤ 200 ∧ R.length ≤ 200 ∧ (∀ p ∈ P, p.length ≤ 200) ∧ (∀ p ∈ R, p.length ≤ 200) ∧ Bd2 big P ∧ Bd2 big R ∧ NewP H (mul2 P R) Q
theorem Rows.set {H : Hp} {k : Bool} {r : Addr} {p : List Int} (e : At k H r p) : ∀ {rs : Rf} {P : Pn} (i : Nat), Rows H rs P → Rows H (rs.set i (k, r)) (P.set i p)
  | _, _, _, .nil => by simp; exact .nil
  | _, _, 0, .cons a r' => .cons (x := (k, r)) e r'
  | _, _, i + 1, .cons a r' => .cons a (r'.set e i)
theorem nodup_set {l : List Addr} {a : Addr} (h : l.Nodup) (n : a ∉ l) (i : Nat) : (l.set i a).Nodup := by
  induction l generalizing i with
  | nil => simp
  | cons b l ih =>
    have hb := List.nodup_cons.mp h
    have nl : a ∉ l := fun z => n (List.mem_cons_of_mem _ z)
    cases i with
    | zero => exact List.nodup_cons.mpr ⟨nl, hb.2⟩
    | succ i =>
      refine List.nodup_cons.mpr ⟨fun z => ?_, ih hb.2 nl i⟩
      rcases List.mem_or_eq_of_mem_set z with z | z
      · exact hb.1 z
      · exact n (by rw [z]; exact List.mem_cons_self)
/-- one row by another -/
theorem Made.set {H H1 H2 : Hp} {o r : Addr} {rs : Rf} {P : Pn} {p : List Int} (no : H o = none) (m : Made H H1 o rs P) (s : Same H1 H2) (nr : H1 r = none) (e : At false H2 r p) (i : Nat) :
    Made H (upd H2 o (.lst ((rfs rs).set i (.ref r)))) o (rs.set i (false, r)) (P.set i p) := by
  have ro' : r ≠ o := fun z => by rw [z, m.top] at nr; cases nr
  have ch : Chg o H2 (upd H2 o (.lst ((rfs rs).set i (.ref r)))) := fun b x nb e => by rw [upd_ne nb]; exact e
  refine ⟨Same.ov no (Same.trans m.same s), by rw [upd_same]; simp [rfs, List.map_set], ((m.rows.same s).chg ch fun x hx => (m.new x hx).2.2).set (k := false) (e.chg ch ro') i, fun x hx => ?_, ?_⟩
  · rcases List.mem_or_eq_of_mem_set hx with h | h
    · exact m.new x h
    · subst h; exact ⟨rfl, Same.free m.same nr, ro'⟩
  · rw [List.map_set]
    refine nodup_set m.nd (fun hm => ?_) i
    obtain ⟨x, hx, ex⟩ := List.mem_map.mp hm
    obtain ⟨j, hj⟩ := List.mem_iff_getElem?.mp hx
    obtain ⟨k, b, e3, e4, e5, _⟩ := m.rows.get (i := j) (v := .ref x.2) (by simp [rfs, hj])
    cases e3
    exact (e5.ne nr) ex
theorem ro_set {P : Pn} {i : Nat} (l : i < P.length) (p : List Int) (t : Nat) : ro (P.set i p) t = if t = i then p else ro P t := by
  unfold ro
  rw [List.getD_eq_getElem?_getD, List.getElem?_set]
  by_cases e : t = i
  · subst e; simp [l]
  · rw [if_neg (fun z => e z.symm), if_neg e]; rfl
theorem ro_nils (n t : Nat) : ro (List.replicate n ([] : List Int)) t = [] := by
  unfold ro
  rw [List.getD_eq_getElem?_getD, List.getElem?_replicate]
  split <;> rfl
end Kr
/-! Tables whose keys are tuples: dict(list of pairs), dict(table). -/
namespace Kr
open PySem PySem.Spec PyProof.Rows L2

/-- one put behind the other -/
def mergeT (kvs more : List (List Key × V)) : List (List Key × V) := more.foldl (fun acc kv => putK acc kv.1 kv.2) kvs
theorem length_mergeT : ∀ (more kvs : List (List Key × V)), (mergeT kvs more).length ≤ kvs.length + more.length
  | [], kvs => by show kvs.length ≤ kvs.length + 0; omega
  | p :: r, kvs => by
    have h1 := length_mergeT r (putK kvs p.1 p.2)
    have h2 := length_putK kvs p.1 p.2
    show (mergeT (putK kvs p.1 p.2) r).length ≤ _
    rw [List.length_cons]; omega
theorem mergeT_cons (p : List Key × V) (r kvs : List (List Key × V)) : mergeT kvs (p :: r) = mergeT (putK kvs p.1 p.2) r := rfl
/-- fresh keys, each once: behind what is there -/
theorem mergeT_new : ∀ (more kvs : List (List Key × V)), ((kvs ++ more).map (·.1)).Nodup → mergeT kvs more = kvs ++ more
  | [], kvs, _ => by rw [List.append_nil]; rfl
  | p :: r, kvs, h => by
    rw [mergeT_cons]
    have hn : valV kvs p.1 = none := by
      have q : (kvs.any fun kv => decide (kv.1 = p.1)) = false := by
        rw [List.any_eq_false]
        intro x hx
        simp only [decide_eq_true_eq]
        intro e
        rw [List.map_append, List.nodup_append] at h
        exact h.2.2 x.1 (List.mem_map_of_mem hx) p.1 (by simp) e
      rw [valV_any] at q
      cases z : valV kvs p.1 with
      | none => rfl
      | some y => rw [z] at q; cases q
    rw [putK_new p.2 hn, mergeT_new r _ (by simpa using h)]
    simp

theorem KT_merge {H : Hp} : ∀ {more : List (List Key × V)} {rs : List (List Key × Addr × Value)} {kvs : List (List Key × V)} {xs : List (List Key × Addr × Value)},
    KT H more rs → KT H kvs xs → KT H (mergeT kvs more) (storedAllH xs rs) := by
  intro more rs kvs xs r
  induction r generalizing kvs xs with
  | nil => intro q; exact q
  | @cons p q ps qs h t ih =>
    intro r0
    have e : KT H (putK kvs p.1 p.2) (storedH xs q.1 q.2.1 q.2.2) := by
      have z := KT.put r0 p.1 h.2.1 h.2.2
      rw [← h.1]; exact z
    exact ih e

section
variable {X : Cx}
theorem is_keep {P : Program} {w : World} {h h' : Heap} {ks : List Key} {a : Addr} (x : (tupleKind (mixKind P w)).is h ks a) (e : ∀ o, h.get? a = some o → h'.get? a = some o) : (tupleKind (mixKind P w)).is h' ks a := by
  obtain ⟨o, its, n, h1, r⟩ := x
  exact ⟨o, its, n, e _ h1, r⟩
theorem prsT {pins : List (Addr × Obj)} {σ : L2.St} {H : Hp} {s : Shared} (I : Inv X pins σ H s) : ∀ {ps : List Addr} {kvs : List (List Key × V)},
    Paired (fun p kv => ∃ b, H b = some (.tup (kv.1.map kV)) ∧ SqT X.K H p [.ref b, kv.2]) ps kvs →
    ∃ rs : List (List Key × Addr × Value), KT H kvs rs ∧ rs.length = ps.length ∧ ∀ (j : Nat) (q : List Key × Addr × Value), rs[j]? = some q → ∃ b : Addr, ps[j]? = some b ∧ IsTup s.heap b #[.ref q.2.1, q.2.2]
  | _, _, .nil => ⟨[], .nil, rfl, fun j q e => by simp at e⟩
  | _, _, .cons (a := p) (b := kv) h t => by
    obtain ⟨rs, r, hl, hp⟩ := prsT I t
    obtain ⟨b, hb, ht⟩ := h
    obtain ⟨its, rv, ht, _⟩ := I.tuple ht
    obtain ⟨u, y, ei, ru, ry⟩ := vals2 rv
    subst ei
    cases (show u = Value.ref b from ru)
    refine ⟨(kv.1, b, y) :: rs, .cons ⟨rfl, hb, ry⟩ r, by rw [List.length_cons, List.length_cons, hl], fun j q e => ?_⟩
    cases j with
    | zero =>
      have e' : (kv.1, b, y) = q := Option.some.inj e
      subst e'
      exact ⟨p, rfl, ht⟩
    | succ j => exact hp j q (by simpa using e)
theorem KT_is {P : Program} {w : World} {H : Hp} {h : Heap} (ok : HOk P w H h) {kvs : List (List Key × V)} {xs : List (List Key × Addr × Value)} (r : KT H kvs xs) : ∀ x ∈ xs, (tupleKind (mixKind P w)).is h x.1 x.2.1 := by
  induction r with
  | nil => intro x hx; cases hx
  | @cons p q ps qs hq t ih =>
    intro x hx
    rcases List.mem_cons.mp hx with e | hx
    · subst e
      exact key_of ok (by rw [← hq.1]; exact hq.2.1)
    · exact ih x hx
/-- a new table, laid -/
theorem dt_laid {pins : List (Addr × Obj)} {σ : L2.St} {H : Hp} {s : Shared} {h' : Heap} {tk : Nat} {kvs : List (List Key × V)} {xs : List (List Key × Addr × Value)} (I : Inv X pins σ H s)
    (k : ∀ b u, s.heap.get? b = some u → h'.get? b = some u) (hz : kvs.length ≤ sizeLine) (r : KT H kvs xs) (hd : h'.DictOfH (tupleKind (mixKind X.prog X.w)) s.heap.objs.size xs) :
    Inv X pins σ (upd H s.heap.objs.size (.dT kvs)) { s with heap := h', toks := tk } := by
  have hm : (s.heap.objs.size == sysModules) = false := beq_eq_false_iff_ne.mpr (Nat.ne_of_gt I.big)
  obtain ⟨q, es, ep, hq, h2, h3, h4, _, h5⟩ := hd
  refine I.laid (t' := tk) k (Nat.le_refl _) (show ObjOk X.prog X.w _ _ _ (.dT kvs) from ⟨hz, hm, xs, r.keeps fun c ys ec => ?_, q, es, ep, hq, h2, h3, h4, h5⟩)
  have hn : H s.heap.objs.size = none := I.hok.fresh (Nat.le_refl _)
  rw [upd_ne (fun e => by rw [e, hn] at ec; cases ec)]
  exact ec

/-- dict(xs) of a list of pairs (key, value), keys that are tuples -/
theorem call_dictPT (hcalm : X.calm = true) (hu : X.A.units + 2 < cLine) : CallR X (.type "dict") (fun xs H Q => ∃ (a : Addr) (ps : List Addr) (kvs : List (List Key × V)), xs = [.ref a] ∧ SqL X.K H a (ps.map V.ref) ∧
    Paired (fun p kv => ∃ b, H b = some (.tup (kv.1.map kV)) ∧ SqT X.K H p [.ref b, kv.2]) ps kvs ∧
    ∀ p, H p = none → Q (.ref p) (upd H p (.dT (mergeT [] kvs)))) := by
  intro pins s σ H xs us Q I r q
  obtain ⟨a, ps, kvs, ex, hq, hp, q⟩ := q
  subst ex
  obtain ⟨u, eu, rx⟩ := vals1 r
  subst eu
  cases rx
  obtain ⟨its, rv, pl, hz⟩ := I.list hq
  have ei := refs_at rv
  subst ei
  rw [List.length_map] at hz
  obtain ⟨rs, rel, hl, hpr⟩ := prsT I hp
  obtain ⟨o, n, ho, hc, hd, hdat⟩ := pl
  refine call_dict_pairsH (knd := tupleKind (mixKind X.prog X.w)) (ps := rs) (PairArg.list a (ps.map Value.ref).toArray (fun j => ps.getD j 0) (rs.map fun q => (Value.ref q.2.1, q.2.2))) (I.ok.hd hcalm) hu
    ⟨⟨o, n, ho, hc, hd, hdat⟩, by simp [hl], fun j k v e => ?_⟩ ⟨by simp, fun i key v e => ?_⟩ (fun h' hk x hx => ?_) (by rw [List.length_map, hl]; exact hz) fun h' tk hd' k => ?_
  · rw [List.getElem?_map, Option.map_eq_some_iff] at e
    obtain ⟨q', e1, e2⟩ := e
    obtain ⟨b, e3, e4⟩ := hpr j q' e1
    have e5 : ps.getD j 0 = b := by rw [List.getD_eq_getElem?_getD, e3]; rfl
    show (List.map Value.ref ps).toArray[j]? = some (Value.ref (ps.getD j 0)) ∧ PairAt s.heap (ps.getD j 0) k v
    rw [e5]
    injection e2 with e6 e7
    subst e6 e7
    refine ⟨by simp [e3], .inl e4⟩
  · have e' : (rs.map fun q => (Value.ref q.2.1, q.2.2))[i]? = some (key, v) := e
    rw [List.getElem?_map, Option.map_eq_some_iff] at e'
    obtain ⟨q', e1, e2⟩ := e'
    injection e2 with e6 e7
    exact ⟨q'.1, q'.2.1, by rw [e1, ← e7], e6.symm⟩
  · refine is_keep (KT_is I.hok rel x hx) fun o' e => hk _ o' (Nat.ne_of_lt (Heap.lt_size e)) (fun z => by cases z) e
  · have hlen : (mergeT [] kvs).length ≤ sizeLine := by
      refine Nat.le_trans (length_mergeT kvs []) ?_
      rw [List.length_nil, Nat.zero_add, Paired.length rel, hl]
      exact hz
    exact ⟨.ref s.heap.objs.size, _, dt_laid I (fun b o e => k b o (fun z => by cases z) e) hlen (KT_merge rel .nil) hd', rfl, q _ (I.hok.fresh (Nat.le_refl _))⟩

theorem DictOfH_push {P : Program} {w : World} {h : Heap} {d : Addr} {xs : List (List Key × Addr × Value)} (x : h.DictOfH (tupleKind (mixKind P w)) d xs) (o : Obj) : (h.push o).DictOfH (tupleKind (mixKind P w)) d xs := by
  obtain ⟨_, _, _, _, _, _, _, his, _⟩ := id x
  exact x.at' (fun o' e => Heap.get?_push_of_some _ e) fun y hy => is_keep (his y hy) fun o' e => Heap.get?_push_of_some _ e

/-- dict(d) of a table whose keys are tuples -/
theorem call_dictDT (hu : X.A.units + 2 < cLine) : CallR X (.type "dict") (fun xs H Q => ∃ (a : Addr) (kvs : List (List Key × V)), xs = [.ref a] ∧ Rd H a (.dT kvs) ∧
    (kvs.map fun kv => (tupleKind (mixKind X.prog X.w)).hash kv.1).Nodup ∧ ∀ p, H p = none → Q (.ref p) (upd H p (.dT kvs))) := by
  intro pins s σ H xs us Q I r q
  obtain ⟨a, kvs, ex, hd, hap, q⟩ := q
  subst ex
  obtain ⟨u, eu, rx⟩ := vals1 r
  subst eu
  cases rx
  obtain ⟨z, lo, xs, rel, dd⟩ := dt_rd I.hok hd
  have his := KT_is I.hok rel
  have hlen := Paired.length rel
  have hap' : (xs.map fun x => (tupleKind (mixKind X.prog X.w)).hash x.1).Nodup := by
    have e : kvs.map (fun kv => (tupleKind (mixKind X.prog X.w)).hash kv.1) = xs.map (fun x => (tupleKind (mixKind X.prog X.w)).hash x.1) := by
      clear his hap dd hlen z q lo hd
      induction rel with
      | nil => rfl
      | @cons p q ps qs h t ih => rw [List.map_cons, List.map_cons, ih, h.1]
    rw [← e]; exact hap
  refine callType_codes (Q₁ := fun obj s₁ => obj = .ref s.heap.objs.size ∧ s₁ = { s with heap := s.heap.push { cls := .type "dict", data := .dict #[] } }) PySem.F.kt_called_dict (PySem.F.kt_typeCall_dict_1 _) PySem.F.entry_dict_init (kt_code_dict_new _ ⟨rfl, rfl⟩) ?_
  rintro obj s₁ ⟨rfl, rfl⟩
  have hnew : (s.heap.push { cls := .type "dict", data := .dict #[] }).DictOfH (tupleKind (mixKind X.prog X.w)) s.heap.objs.size [] := Heap.DictOfH.new s.heap
  have ho' : (s.heap.push { cls := .type "dict", data := .dict #[] }).DictOfH (tupleKind (mixKind X.prog X.w)) a xs := DictOfH_push dd _
  have hdo : s.heap.objs.size ≠ a := fun e => absurd dd.lt_size (by rw [← e]; exact Nat.lt_irrefl _)
  refine ⟨hnew.typeIs, PySem.F.args_dict_init_2 _ _, ?_⟩
  unfold Builtin.«dict.__init__»
  refine wpAny_bind ?_
  unfold Builtin.Dict.selfAndRest
  refine wpAny_bind (wpAny_notOrdered_dict hnew.typeIs ?_)
  show wpAny _ _ (pure (s.heap.objs.size, [Value.ref a])) _ _ _
  refine wpAny_pure ?_
  refine updateFrom_dictH (A := X.A.in1) (knd := tupleKind (mixKind X.prog X.w)) .none hu hdo lo hnew ho' (.inr ⟨fun x hx => ?_, hap'⟩) (by rw [List.length_nil, Nat.zero_add, ← hlen]; exact z) fun h' hd' _ hs => ?_
  · obtain ⟨o, its, n, h1, h2, _⟩ := his x hx
    exact ⟨o, Heap.get?_push_of_some _ h1, h2⟩
  · rw [storedAllH_nil_of_nodup xs dd.nodup] at hd'
    refine ⟨rfl, ?_⟩
    exact ⟨.ref s.heap.objs.size, _, dt_laid (s := s) (h' := h') (tk := s.toks) I (fun b o e => (hs.2 b (Nat.ne_of_lt (Heap.lt_size e))).trans (Heap.get?_push_of_some _ e)) z rel hd', rfl, q _ (I.hok.fresh (Nat.le_refl _))⟩
end

/-- a pair of powers as a key -/
def pairKey (p : Nat × Nat) : List Key := [.inl (p.1 : Int), .inl (p.2 : Int)]
def pairHash (p : Nat × Nat) : Int := reduceHash (Builtin.Tuple.tupleHashOf [hashInt (p.1 : Int), hashInt (p.2 : Int)])
theorem hash_pair (P : Program) (w : World) (p : Nat × Nat) : (tupleKind (mixKind P w)).hash (pairKey p) = pairHash p := rfl
def pairs9 : List (Nat × Nat) := (List.range 9).flatMap fun i => (List.range 9).map fun j => (i, j)
theorem hash9 : (pairs9.map pairHash).Nodup := by decide +kernel
end Kr
/-! max over a list or a tuple of ints, with keywords or none. -/
namespace Kr
open PySem PySem.Spec PyProof.Rows L2

theorem mx_name : (toString "max" ++ toString ".loop" : String) = "max.loop" := by decide
section
variable {prog : Program} {w : World} {A : Around} {R : Result → Shared → Prop} {it S : Addr} {fp wr : List Addr} {n : Nat} {P : Nat → Value → Prop} {St : Nat → Heap → Prop} {bt : Nat → Nat → Bool} {kw : List (Str × Value)}
/-- the turns behind the first one -/
theorem mx_turns (W : Walks prog w A.in1 it fp wr n P St) (hc : CmpOf prog w A.in1 .Gt P bt) (nS : S ∉ fp) : ∀ (k j : Nat) (s : Shared) (v : Value) (c : Nat), n = j + 1 + k → St (j + 1) s.heap → P (argBest bt j) v →
    s.heap.get? S = some ({ cls := .type "list", data := .seq #[v, v] c } : Obj) →
    (∀ u h' tk, P (argBest bt (n - 1)) u → (∀ b o, b ∉ wr → b ≠ S → s.heap.get? b = some o → h'.get? b = some o) → R (.ok (.ret u)) { s with heap := h', toks := tk }) →
    codeAny (model prog w) A (.builtin "max.loop" ⟨[.ref it, .none, .ref S], kw⟩) R s := by
  have nw : S ∉ wr := fun h => nS (W.sub _ h)
  intro k
  induction k with
  | zero =>
    intro j s v c hk hst hP hS hR
    refine codeAny_builtin F.entry_max_loop ?_
    rw [Around.under_plainId (id := "max.loop") F.plain_max_loop ⟨_, kw⟩]
    refine wpAny_bind (m := seqItems? (.ref S)) (wpAny_seqItems hS rfl ?_)
    refine wpAny_bind (m := tryCatch (pyNext (.ref it)) _) (wpAny_tryCatch (W.done s _ _ (by rw [hk]; exact hst) fun h1 tk kp => ?_))
    refine wpAny_bind (m := updateSeq S (fun _ => #[])) (wpAny_updateSeq (kp S _ nw hS) rfl (wpAny_bind (wpAny_letGo (wpAny_pure ?_))))
    exact hR v _ tk (by rw [hk]; exact hP) fun b o b1 b2 e => (Heap.get?_update_other _ _ (Ne.symm b2)).trans (kp b o b1 e)
  | succ k ih =>
    intro j s v c hk hst hP hS hR
    refine codeAny_builtin F.entry_max_loop ?_
    rw [Around.under_plainId (id := "max.loop") F.plain_max_loop ⟨_, kw⟩]
    refine wpAny_bind (m := seqItems? (.ref S)) (wpAny_seqItems hS rfl ?_)
    refine wpAny_bind (m := tryCatch (pyNext (.ref it)) _) (wpAny_tryCatch (W.item (j + 1) s _ _ (by omega) hst fun u h1 tk hu st1 kp => ?_))
    have hS1 := kp S _ nw hS
    refine wpAny_bind (m := tryCatch (holding [u, u] (richCompare .Gt u v >>= _)) _) (wpAny_tryCatch (wpAny_holding (wpAny_bind (hc (j + 1) (argBest bt j) u v _ _ _ hu hP ?_))))
    refine wpAny_bind (wpAny_holding (wpAny_truthy_bool (wpAny_bind (wpAny_letGo (wpAny_pure ?_)))))
    cases hb : bt (j + 1) (argBest bt j) with
    | true =>
      rw [if_pos rfl]
      refine wpAny_bind (wpAny_updateSeq hS1 rfl (wpAny_bind (wpAny_letGo ?_)))
      rw [mx_name]
      refine wpAny_pure ⟨plainId_quiet F.plain_max_loop _, ih (j + 1) _ u _ (by omega) (W.frame _ _ _ st1 fun b hbf o e => (Heap.get?_update_other _ _ (fun z : S = b => nS (by rw [z]; exact hbf))).trans e)
        (by simp only [argBest, hb, if_true]; exact hu) (Heap.get?_update_self _ hS1 rfl) fun x h2 tk2 hx kp2 => ?_⟩
      exact hR x h2 tk2 hx fun b o b1 b2 e => kp2 b o b1 b2 ((Heap.get?_update_other _ _ (Ne.symm b2)).trans (kp b o b1 e))
    | false =>
      rw [if_neg (by decide)]
      refine wpAny_bind (wpAny_letGo ?_)
      rw [mx_name]
      refine wpAny_pure ⟨plainId_quiet F.plain_max_loop _, ih (j + 1) _ v c (by omega) st1 (by simp only [argBest, hb, Bool.false_eq_true, if_false]; exact hP) hS1 fun x h2 tk2 hx kp2 => ?_⟩
      exact hR x h2 tk2 hx fun b o b1 b2 e => kp2 b o b1 b2 (kp b o b1 e)
/-- from the first turn on, or none and the number told -/
theorem mx_begin (W : Walks prog w A.in1 it fp wr n P St) (hc : CmpOf prog w A.in1 .Gt P bt) (nS : S ∉ fp) {s : Shared} {c : Nat} (hst : St 0 s.heap) (hS : s.heap.get? S = some ({ cls := .type "list", data := .seq #[] c } : Obj))
    (h0 : n = 0 → ∃ x d r, kw = (x, d) :: r ∧ ∀ h' tk, (∀ b o, b ∉ wr → b ≠ S → s.heap.get? b = some o → h'.get? b = some o) → R (.ok (.ret d)) { s with heap := h', toks := tk })
    (hR : 0 < n → ∀ u h' tk, P (argBest bt (n - 1)) u → (∀ b o, b ∉ wr → b ≠ S → s.heap.get? b = some o → h'.get? b = some o) → R (.ok (.ret u)) { s with heap := h', toks := tk }) :
    codeAny (model prog w) A (.builtin "max.loop" ⟨[.ref it, .none, .ref S], kw⟩) R s := by
  have nw : S ∉ wr := fun h => nS (W.sub _ h)
  refine codeAny_builtin F.entry_max_loop ?_
  rw [Around.under_plainId (id := "max.loop") F.plain_max_loop ⟨_, kw⟩]
  refine wpAny_bind (m := seqItems? (.ref S)) (wpAny_seqItems hS rfl ?_)
  by_cases z : n = 0
  · obtain ⟨x, d, r, e, q⟩ := h0 z
    subst e
    refine wpAny_bind (m := tryCatch (pyNext (.ref it)) _) (wpAny_tryCatch (W.done s _ _ (by rw [z]; exact hst) fun h1 tk kp => ?_))
    exact wpAny_bind (m := rule _) (wpAny_rule (wpAny_pure (q h1 tk fun b o b1 _ e => kp b o b1 e)))
  · refine wpAny_bind (m := tryCatch (pyNext (.ref it)) _) (wpAny_tryCatch (W.item 0 s _ _ (by omega) hst fun u h1 tk hu st1 kp => ?_))
    have hS1 := kp S _ nw hS
    refine wpAny_bind (m := updateSeq S (fun _ => #[u, u])) (wpAny_updateSeq hS1 rfl ?_)
    rw [mx_name]
    refine wpAny_pure ⟨plainId_quiet F.plain_max_loop _, mx_turns W hc nS (n - 1) 0 _ u _ (by omega) (W.frame _ _ _ st1 fun b hbf o e => (Heap.get?_update_other _ _ (fun q : S = b => nS (by rw [q]; exact hbf))).trans e) hu
      (Heap.get?_update_self _ hS1 rfl) fun x h2 tk2 hx kp2 => ?_⟩
    exact hR (by omega) x h2 tk2 hx fun b o b1 b2 e => kp2 b o b1 b2 ((Heap.get?_update_other _ _ (Ne.symm b2)).trans (kp b o b1 e))
end
section
variable {prog : Program} {w : World} {A : Around} {E : Value → Shared → Prop} {s : Shared}
theorem mx_args (a d : Value) : argsOk "max" ⟨[a], [("default", d)]⟩ := by unfold argsOk; kernel_rfl
/-- a built-in function with keywords that goes on by another piece of itself -/
theorem tree_kw {id : String} {b : Builtin} {args : List Value} {kw : List (Str × Value)} {Q : Value → Shared → Prop} (hk : builtinKind id = none) (hp : plainId id = true) (hb : entryFor table id = some b) (ha : argsOk id ⟨args, kw⟩)
    (hc : wpAny (model prog w) A.in1 (b ⟨args, kw⟩) (fun fin s' => match fin with
      | .done f => (match (Except.ok f : Result) with | .ok (.ret v) => Q v s' | .ok _ => False | .error e => E e s')
      | .again c' => c'.quiet = true ∧ codeAny (model prog w) A c' (fun r s' => match r with | .ok (.ret v) => Q v s' | .ok _ => False | .error e => E e s') s') E s) :
    wpAny (model prog w) A (call (.builtin id) args kw) Q E s := by
  refine wpAny_call (codeAny_call_builtin hp hb ?_)
  unfold checkBuiltinCall
  rw [hk]
  cases hs : Manifest.signature? id with
  | none => exact wpAny_pure hc
  | some sg =>
    have z : Bind.checkArgs id sg ⟨args, kw⟩ = pure () := by simpa only [argsOk, hs] using ha
    show wpAny _ A.in1 (Bind.checkArgs id sg ⟨args, kw⟩) _ _ s
    rw [z]
    exact wpAny_pure hc
/-- max(x, default = d) -/
theorem mx_call {x d : Value} {Q : Value → Shared → Prop}
    (h : wpAny (model prog w) A.in1 (pyIter x) (fun v s2 => ∃ it fp wr n P St bt, v = .ref it ∧ Walks prog w A.in1 it fp wr n P St ∧ St 0 s2.heap ∧ (∀ b ∈ fp, b < s2.heap.objs.size) ∧ CmpOf prog w A.in1 .Gt P bt ∧
      (n = 0 → ∀ h' tk, (∀ b o, b ∉ wr → s2.heap.get? b = some o → h'.get? b = some o) → Q d { s2 with heap := h', toks := tk }) ∧
      (0 < n → ∀ u h' tk, P (argBest bt (n - 1)) u → (∀ b o, b ∉ wr → s2.heap.get? b = some o → h'.get? b = some o) → Q u { s2 with heap := h', toks := tk })) E s) :
    wpAny (model prog w) A (call (.builtin "max") [x] [("default", d)]) Q E s := by
  refine tree_kw F.kind_max F.plain_max F.entry_max (mx_args x d) ?_
  refine wpAny_bind (m := Builtin.Builtins.bindParams "max" ["key", "default"] 0 ⟨[], [("default", d)]⟩) (wpAny_of_eq (show Builtin.Builtins.bindParams "max" ["key", "default"] 0 ⟨[], [("default", d)]⟩ = pure [none, some d] by rfl) ?_)
  refine wpAny_bind (wpAny_pure ?_)
  refine wpAny_bind (wpAny_mono h (fun v s2 h2 => ?_) fun _ _ e => e)
  obtain ⟨it, fp, wr, n, P, St, bt, rfl, W, hst, hfp, hc, q0, q1⟩ := h2
  refine wpAny_bind (wpAny_newObj_type ?_)
  have nS : s2.heap.objs.size ∉ fp := fun z => Nat.lt_irrefl _ (hfp _ z)
  rw [mx_name]
  have old : ∀ {h' : Heap}, (∀ b o, b ∉ wr → b ≠ s2.heap.objs.size → (s2.heap.push { cls := .type "list", data := .seq #[] }).get? b = some o → h'.get? b = some o) →
      ∀ b o, b ∉ wr → s2.heap.get? b = some o → h'.get? b = some o := fun kp b o b1 e => kp b o b1 (Nat.ne_of_lt (Heap.lt_size e)) (Heap.get?_push_of_some _ e)
  refine wpAny_pure ⟨plainId_quiet F.plain_max_loop _, mx_begin W hc nS (W.frame _ _ _ hst fun b _ o e => Heap.get?_push_of_some _ e) (Heap.get?_push_size _ rfl) (fun z => ⟨_, d, [], rfl, fun h' tk kp => ?_⟩) fun z u h' tk hu kp => ?_⟩
  · exact q0 z h' tk (old kp)
  · exact q1 z u h' tk hu (old kp)
end
end Kr
/-! Tables that are read alone; max; tables with tuple keys written out; defs called by a local name. -/
namespace Kr
open PySem PySem.Spec PyProof.Rows L2

/-- what e tells is read alone from now on -/
def tFrz (t : TE) : TE := fun σ H Q => t σ H fun x H1 => ∃ d u, x = .ref d ∧ H1 d = some u ∧ Mut (some u) ∧ ∀ od, Q x (upd H1 d (.frz od u))
theorem pe_frz {X : Cx} {e : Expr} {t : TE} (h : PE X e t) : PE X e (tFrz t) := by
  refine ⟨fun pins s σ H Q I hw => ?_⟩
  refine thn (h.run pins s σ H _ I hw) fun v s1 ⟨x, H1, I1, r, d, u, ex, hd, mu, q⟩ => ?_
  obtain ⟨od, I2⟩ := I1.lock hd mu
  exact ⟨x, _, I2, r, q od⟩

/-! ### max -/
theorem walksS {prog : Program} {w : World} {A : Around} (hh : A.handled = none) (k : Bool) (it a : Addr) (ne : a ≠ it) (items : Array Value) :
    Walks prog w A it [it, a] [it] items.size (fun i v => items[i]? = some v) (fun i h => Iat k h it a i ∧ Sat k h a items) := by
  cases k with
  | true => exact Walks.tuple hh it a ne items
  | false => exact Walks.list hh it a ne items
theorem mx_val {its : List Value} {ns : List Int} (r : Vals (ns.map V.int) its) {i : Nat} {v : Value} (h : its.toArray[i]? = some v) : ∃ t, v = .int (co ns i) t := by
  have h1 : its[i]? = some v := by simpa using h
  have l : i < ns.length := by
    have := (List.getElem?_eq_some_iff.mp h1).1
    have e := r.length
    rw [List.length_map] at e
    omega
  obtain ⟨u, e1, t, e2⟩ := r.get (at_int l)
  rw [h1] at e1
  cases e1
  exact ⟨t, e2⟩
theorem mx_best {ns : List Int} (h : ns ≠ []) : co ns (argBest (fun i j => decide (co ns i > co ns j)) (ns.length - 1)) ∈ ns ∧
    ∀ y ∈ ns, y ≤ co ns (argBest (fun i j => decide (co ns i > co ns j)) (ns.length - 1)) := by
  have l : 0 < ns.length := List.length_pos_iff.mpr h
  obtain ⟨h1, h2⟩ := argBest_gt (co ns) (ns.length - 1)
  refine ⟨by rw [co_at (by omega)]; exact List.getElem_mem _, fun y hy => ?_⟩
  obtain ⟨i, li, rfl⟩ := List.mem_iff_getElem.mp hy
  rw [← co_at li]
  exact h2 i (by omega)
def rMaxS (K : PySem.W.Frag) : List V → Hp → VK → Prop := fun vs H Q => ∃ (k : Bool) (a : Addr) (ns : List Int), vs = [.ref a] ∧ Sq K k H a (ns.map V.int) ∧ ns ≠ [] ∧
  ∀ m, m ∈ ns → (∀ y ∈ ns, y ≤ m) → Q (.int m) H
def rMaxD (K : PySem.W.Frag) : List V → List V → Hp → VK → Prop := fun vs zs H Q => ∃ (k : Bool) (a : Addr) (ns : List Int) (z : Int), vs = [.ref a] ∧ zs = [.int z] ∧ Sq K k H a (ns.map V.int) ∧
  (ns = [] → Q (.int z) H) ∧ (ns ≠ [] → ∀ m, m ∈ ns → (∀ y ∈ ns, y ≤ m) → Q (.int m) H)
section
variable {X : Cx}
theorem cr_maxS (hc : X.calm = true) : CallR X (.builtin "max") (rMaxS X.K) := by
  intro pins s σ H vs us Q I r h
  obtain ⟨k, a, ns, rfl, hs, h0, q⟩ := h
  obtain ⟨its, rv, p, hz⟩ := Sq.is I hs
  rw [Vals.ref1 r]
  have la := p.lt
  have el := rv.length
  rw [List.length_map] at el
  refine call_max_walk ((beginsS k a its.toArray).iter X.prog X.w X.A.in1 X.xe s _ p ?_)
  refine ⟨s.heap.objs.size, [s.heap.objs.size, a], [s.heap.objs.size], _, _, _, _, rfl, walksS (show X.A.in1.handled = none from I.ok.hd hc) k s.heap.objs.size a (Nat.ne_of_lt la) its.toArray,
    ⟨itO_at (Heap.get?_push_size _ (beginsS k a its.toArray).free), (beginsS k a its.toArray).keeps _ _ p fun b o e => Heap.get?_push_of_some _ e⟩, fun b hb => ?_, ?_, CmpOf.ints_gt (co ns) (fun i v hv => mx_val rv hv), fun v h' tk hP hk => ?_⟩
  · show b < (s.heap.push _).objs.size
    rw [Heap.size_push]
    rcases List.mem_cons.mp hb with e | e
    · rw [e]; exact Nat.lt_succ_self _
    · rw [show b = a by simpa using e]; exact Nat.lt_succ_of_lt la
  · rw [List.size_toArray, ← el]; exact List.length_pos_iff.mpr h0
  · rw [List.size_toArray, ← el] at hP
    obtain ⟨t, rfl⟩ := mx_val rv hP
    have I1 : Inv X pins σ H { s with heap := h', toks := tk } := I.kept fun b o e => hk b o (fun z => by rw [show b = s.heap.objs.size by simpa using z] at e; exact absurd (Heap.lt_size e) (Nat.lt_irrefl _)) (Heap.get?_push_of_some _ e)
    exact ⟨.int _, H, I1, ⟨_, rfl⟩, q _ (mx_best h0).1 (mx_best h0).2⟩
theorem cr_maxD (hc : X.calm = true) : CallRK X (.builtin "max") ["default"] (rMaxD X.K) := by
  intro pins s σ H vs zs us ws Q I r rz h
  obtain ⟨k, a, ns, z, rfl, rfl, hs, q0, q⟩ := h
  obtain ⟨its, rv, p, hz⟩ := Sq.is I hs
  rw [Vals.ref1 r]
  obtain ⟨d, rfl, rd⟩ := vals1 rz
  have la := p.lt
  have el := rv.length
  rw [List.length_map] at el
  have kept : ∀ {h' : Heap} {tk : Nat}, (∀ b o, b ∉ [s.heap.objs.size] → (s.heap.push (itO k a)).get? b = some o → h'.get? b = some o) → Inv X pins σ H { s with heap := h', toks := tk } := fun hk =>
    I.kept fun b o e => hk b o (fun z => by rw [show b = s.heap.objs.size by simpa using z] at e; exact absurd (Heap.lt_size e) (Nat.lt_irrefl _)) (Heap.get?_push_of_some _ e)
  refine mx_call ((beginsS k a its.toArray).iter X.prog X.w X.A.in1 X.xe s _ p ?_)
  refine ⟨s.heap.objs.size, [s.heap.objs.size, a], [s.heap.objs.size], _, _, _, _, rfl, walksS (show X.A.in1.handled = none from I.ok.hd hc) k s.heap.objs.size a (Nat.ne_of_lt la) its.toArray,
    ⟨itO_at (Heap.get?_push_size _ (beginsS k a its.toArray).free), (beginsS k a its.toArray).keeps _ _ p fun b o e => Heap.get?_push_of_some _ e⟩, fun b hb => ?_, CmpOf.ints_gt (co ns) (fun i v hv => mx_val rv hv), fun n0 h' tk hk => ?_, fun n0 v h' tk hP hk => ?_⟩
  · show b < (s.heap.push _).objs.size
    rw [Heap.size_push]
    rcases List.mem_cons.mp hb with e | e
    · rw [e]; exact Nat.lt_succ_self _
    · rw [show b = a by simpa using e]; exact Nat.lt_succ_of_lt la
  · have e0 : ns = [] := List.length_eq_zero_iff.mp (by rw [el, ← List.size_toArray]; exact n0)
    exact ⟨.int z, H, kept hk, rd, q0 e0⟩
  · have h0 : ns ≠ [] := List.length_pos_iff.mp (by rw [el, ← List.size_toArray]; exact n0)
    rw [List.size_toArray, ← el] at hP
    obtain ⟨t, rfl⟩ := mx_val rv hP
    exact ⟨.int _, H, kept hk, ⟨_, rfl⟩, q h0 _ (mx_best h0).1 (mx_best h0).2⟩

/-! ### {(i, j): v, ..} -/
def tDispT (trs : List (TE × TE)) : TE := fun σ H Q => ∀ p, H p = none → tPairs trs σ (upd H p (.dT [])) fun ps H2 => H2 p = some (.dT []) ∧ ∃ kvs : List (List Key × V),
  Paired (fun (x : V × V) (kv : List Key × V) => ∃ b, x.1 = .ref b ∧ x.2 = kv.2 ∧ H2 b = some (.tup (kv.1.map kV))) ps kvs ∧ kvs.length ≤ 15 ∧ Q (.ref p) (upd H2 p (.dT (mergeT [] kvs)))
theorem carriesT {P : Program} {w : World} {H : Hp} {h : Heap} (ok : HOk P w H h) : ∀ {ps : List (V × V)} {kvs : List (List Key × V)} {ws : List (Value × Value)},
    Paired (fun (x : V × V) (kv : List Key × V) => ∃ b, x.1 = .ref b ∧ x.2 = kv.2 ∧ H b = some (.tup (kv.1.map kV))) ps kvs → VV ps ws → ∃ rs, CarriesH (tupleKind (mixKind P w)) h ws rs ∧ KT H kvs rs ∧ rs.length = kvs.length
  | _, _, _, .nil, .nil => ⟨[], trivial, .nil, rfl⟩
  | _, _, _, .cons (a := x) (b := kv) hx t, .cons (b := wv) hw t2 => by
    obtain ⟨rs, c, k, l⟩ := carriesT ok t t2
    obtain ⟨b, e1, e2, e3⟩ := hx
    obtain ⟨x1, x2⟩ := x
    obtain ⟨w1, w2⟩ := wv
    dsimp only at e1 e2
    subst e1 e2
    obtain ⟨r1, r2⟩ := hw
    obtain rfl : w1 = Value.ref b := r1
    exact ⟨(kv.1, b, w2) :: rs, ⟨rfl, rfl, key_of ok e3, c⟩, .cons ⟨rfl, e3, r2⟩ k, by rw [List.length_cons, List.length_cons, l]⟩
theorem pe_dispT {pos : Pos} {keys : List (Option Expr)} {values : List Expr} {trs : List (TE × TE)} (hu : X.A.units + 64 < cLine) (h : PPs X pos keys values trs) (hall : keys.all (·.isSome) = true) (hl : keys.length = values.length)
    (h0 : keys ≠ []) (h15 : keys.length ≤ 15) : PE X (.Dict keys values pos) (tDispT trs) := by
  refine ⟨fun pins s σ H Q I q => ?_⟩
  have hn := I.hok.fresh (Nat.le_refl s.heap.objs.size)
  have I1 := I.laid (a := s.heap.objs.size) (o := .dT []) (h' := s.heap.push { cls := .type "dict", data := .dict #[] }) (t' := s.toks) (fun _ _ q => Heap.get?_push_of_some _ q) (Nat.le_refl _) (dt_empty s.heap I.big)
  refine wpAny_Dict_any hall hl h0 h15 (thn (h.run pins _ σ _ _ I1 (q _ hn)) fun ws s2 ⟨ps, H2, I2, rel, e, kvs, pr, lk, q2⟩ => ?_)
  obtain ⟨rs, cr, kt, lr⟩ := carriesT I2.hok pr rel
  obtain ⟨z, hd, xs0, r0, dd⟩ := dt_of I2.hok e
  cases r0
  have hm := length_mergeT kvs []
  rw [List.length_nil, Nat.zero_add] at hm
  have l15 : (15 : Nat) ≤ sizeLine := by decide
  refine wpAny_storeAllH (knd := tupleKind (mixKind X.prog X.w)) (Nat.lt_of_le_of_lt (Nat.le_add_right _ _) hu) ws rs [] s2 _ cr dd (by rw [List.length_nil, lr]; omega) fun h' tk dd' hs => ?_
  obtain ⟨qo, es, ep, hq, h2, h3, h4, _, h5⟩ := dd'
  refine ⟨.ref s.heap.objs.size, _, d_write (ob := .dT (mergeT [] kvs)) I2 (by rw [e]; exact True.intro) hs ⟨qo, hq⟩ ⟨by omega, hd, _, (KT_merge kt .nil).keeps fun c ys ec => ?_, qo, es, ep, hq, h2, h3, h4, h5⟩, rfl, q2⟩
  rw [upd_ne (ne_of ec e (fun z => nomatch z))]
  exact ec

/-! ### a def in a slot, called -/
structure HeldG (P : Program) (w : World) (K : PySem.W.Frag) (mg : Str → Option Value) (base : Heap) (k : Nat) (f : Addr) (sp : Sp) : Prop where
  ex : ∃ (fd : FuncData) (ps : List Str), FnG P w K mg base CX0 k f fd ps sp ∧ PySem.W.keepIn K (.ref f) = true ∧ Binds K fd ps []
def tCallG (X : Cx) (i k : Nat) (t : TA) : TE := fun σ H Q => ∃ f sp, σ[i]? = some (some (.ref f)) ∧ HeldG X.prog X.w X.K X.mg X.base k f sp ∧ t σ H fun vs H1 => sp vs H1 Q (fun _ _ _ => False)
theorem pe_uL {i k j : Nat} {x : Str} {p pos : Pos} {e : Expr} {es : List Expr} {t : TA} (hG : Quiet X.A) (hr : Room j X.A) (hk : k ≤ j) (hN : X.N[i]? = some x) (hv : Vis X.env.scope x) (ha : PA X (e :: es) t)
    (hdb : (x == ("__debug__" : Str)) = false := by decide) (hcd : (x == ("__classdict__" : Str)) = false := by decide)
    (he : starEach (e :: es) X.env = (false, eval e X.env) :: starEach es X.env := by rfl) (hpl : (backTo pos (starEach es X.env)).any (·.1) = false := by rfl) :
    PE X (.Call (.Name x p) (e :: es) [] pos) (tCallG X i k t) := by
  refine ⟨fun pins s σ H Q I h => ?_⟩
  obtain ⟨f, sp, hs, ⟨fd, ps, G, kp, b⟩, ht⟩ := h
  refine wpAny_Call_Name_kw (thn ((pe_var (pos := p) hN hv hdb hcd).run pins s σ H (fun v H1 => v = .ref f ∧ H1 = H) I ⟨.ref f, hs, rfl, rfl⟩) fun u s1 ⟨v, H1, I1, r1, q1⟩ => ?_)
  obtain ⟨rfl, rfl⟩ := q1
  cases r1
  refine PySem.W.callWith_K (h₀ := X.base) I.ok.mod.kin kp (thn (ha.run pos pins s1 σ _ _ I1 ht) fun us s2 ⟨vs, H2, I2, r, q⟩ => ⟨I2.kIn, ?_⟩) he hpl
  exact calls_u G hG (hr.mono hk) b (fun _ _ _ _ _ _ _ z => z.elim) I2 r q
end
end Kr
/-! Tables: numbers by pairs of powers, in some sequence. -/
namespace Kr
abbrev Pr := Nat × Nat
abbrev Tm := List (Pr × Int)
def cT : Tm → Pr → Int
  | [], _ => 0
  | x :: T, p => if x.1 = p then x.2 else cT T p
abbrev ksT (T : Tm) : List Pr := T.map (·.1)
def putT (T : Tm) (p : Pr) (z : Int) : Tm := if (T.any fun x => decide (x.1 = p)) = true then T.map (fun x => if x.1 = p then (x.1, z) else x) else T ++ [(p, z)]
theorem cT_none {T : Tm} {p : Pr} (h : p ∉ ksT T) : cT T p = 0 := by
  induction T with
  | nil => rfl
  | cons x T ih =>
    have h' : ¬ x.1 = p := fun e => h (by simp [ksT, e])
    rw [cT, if_neg h', ih fun z => h (by simp only [ksT, List.map_cons, List.mem_cons]; exact .inr z)]
theorem cT_mem {T : Tm} {p : Pr} (h : cT T p ≠ 0) : ∃ x ∈ T, x.1 = p ∧ x.2 = cT T p := by
  induction T with
  | nil => exact absurd rfl h
  | cons x T ih =>
    unfold cT at h ⊢
    by_cases e : x.1 = p
    · rw [if_pos e]; exact ⟨x, List.mem_cons_self, e, rfl⟩
    · rw [if_neg e] at h ⊢
      obtain ⟨y, hy, r⟩ := ih h
      exact ⟨y, List.mem_cons_of_mem _ hy, r⟩
theorem cT_at {T : Tm} (nd : (ksT T).Nodup) {x : Pr × Int} (h : x ∈ T) : cT T x.1 = x.2 := by
  induction T with
  | nil => cases h
  | cons y T ih =>
    obtain ⟨n1, n2⟩ := List.nodup_cons.mp nd
    rcases List.mem_cons.mp h with e | e
    · rw [e, cT, if_pos rfl]
    · rw [cT, if_neg (fun z : y.1 = x.1 => n1 (by show y.1 ∈ _; rw [z]; exact List.mem_map_of_mem e)), ih n2 e]
theorem cT_app {T S : Tm} {p : Pr} : cT (T ++ S) p = if p ∈ ksT T then cT T p else cT S p := by
  induction T with
  | nil => simp [ksT]
  | cons x T ih =>
    rw [List.cons_append, cT, cT]
    by_cases e : x.1 = p
    · rw [if_pos e, if_pos e, if_pos (by simp [ksT, e])]
    · rw [if_neg e, if_neg e, ih]
      by_cases h : p ∈ ksT T
      · rw [if_pos h, if_pos (by simp only [ksT, List.map_cons, List.mem_cons]; exact .inr h)]
      · rw [if_neg h, if_neg (by simp only [ksT, List.map_cons, List.mem_cons]; exact fun z => z.elim (fun q => e q.symm) h)]
theorem cT_snoc {T : Tm} {x : Pr × Int} (nd : (ksT (T ++ [x])).Nodup) (p : Pr) : cT (T ++ [x]) p = cT T p + if p = x.1 then x.2 else 0 := by
  have n1 : x.1 ∉ ksT T := by
    unfold ksT at nd
    rw [List.map_append, List.nodup_append] at nd
    exact fun h => nd.2.2 _ h _ (by simp) rfl
  rw [cT_app]
  by_cases h : p ∈ ksT T
  · rw [if_pos h, if_neg (fun e => n1 (by rw [← e]; exact h)), Int.add_zero]
  · rw [if_neg h, cT_none h, Int.zero_add]
    by_cases e : p = x.1
    · rw [if_pos e, cT, if_pos e.symm]
    · rw [if_neg e, cT, if_neg (fun z => e z.symm)]; rfl
theorem cT_put {T : Tm} (p : Pr) (z : Int) (q : Pr) : cT (putT T p z) q = if q = p then z else cT T q := by
  unfold putT
  by_cases a : (T.any fun x => decide (x.1 = p)) = true
  · rw [if_pos a]
    have key : ∀ T : Tm, cT (T.map (fun x => if x.1 = p then (x.1, z) else x)) q = if q = p ∧ q ∈ ksT T then z else cT T q := by
      intro T
      induction T with
      | nil => simp [ksT]
      | cons x T ih =>
        rw [List.map_cons]
        by_cases e : x.1 = p
        · rw [if_pos e, cT, cT]
          by_cases e2 : x.1 = q
          · rw [if_pos e2, if_pos (show q = p ∧ _ from ⟨e2.symm.trans e, by simp [ksT, e2]⟩)]
          · rw [if_neg e2, if_neg e2, ih, if_neg (fun h => e2 (e.trans h.1.symm)), if_neg (fun h => e2 (e.trans h.1.symm))]
        · rw [if_neg e, cT, cT]
          by_cases e2 : x.1 = q
          · rw [if_pos e2, if_pos e2, if_neg (fun h => e (e2.trans h.1))]
          · rw [if_neg e2, if_neg e2, ih]
            by_cases e3 : q = p ∧ q ∈ ksT T
            · rw [if_pos e3, if_pos ⟨e3.1, by simp only [ksT, List.map_cons, List.mem_cons]; exact .inr e3.2⟩]
            · rw [if_neg e3, if_neg (fun h => e3 ⟨h.1, by have h2 := h.2; simp only [ksT, List.map_cons, List.mem_cons] at h2; exact h2.resolve_left fun w => e2 w.symm⟩)]
    rw [key]
    obtain ⟨x, hx, ex⟩ := List.any_eq_true.mp a
    have hp : p ∈ ksT T := List.mem_map.mpr ⟨x, hx, of_decide_eq_true ex⟩
    by_cases e : q = p
    · rw [if_pos e, if_pos ⟨e, by rw [e]; exact hp⟩]
    · rw [if_neg e, if_neg (fun h => e h.1)]
  · rw [if_neg a]
    have hp : p ∉ ksT T := fun h => by
      obtain ⟨x, hx, ex⟩ := List.mem_map.mp h
      exact a (List.any_eq_true.mpr ⟨x, hx, decide_eq_true ex⟩)
    rw [cT_app]
    by_cases e : q = p
    · rw [if_pos e, if_neg (by rw [e]; exact hp), cT, if_pos e.symm]
    · rw [if_neg e]
      by_cases h : q ∈ ksT T
      · rw [if_pos h]
      · rw [if_neg h, cT_none h, cT, if_neg (fun z => e z.symm)]; rfl
theorem ks_put {T : Tm} {p : Pr} {z : Int} {q : Pr} (h : q ∈ ksT (putT T p z)) : q ∈ ksT T ∨ q = p := by
  unfold putT at h
  split at h
  · obtain ⟨x, hx, rfl⟩ := List.mem_map.mp h
    obtain ⟨y, hy, rfl⟩ := List.mem_map.mp hx
    refine .inl (List.mem_map.mpr ⟨y, hy, ?_⟩)
    split <;> rfl
  · unfold ksT at h
    rw [List.map_append] at h
    rcases List.mem_append.mp h with h | h
    · exact .inl h
    · exact .inr (by simpa using h)
theorem nd_put {T : Tm} {p : Pr} {z : Int} (nd : (ksT T).Nodup) : (ksT (putT T p z)).Nodup := by
  unfold putT
  split
  · have e : ksT (T.map (fun x => if x.1 = p then (x.1, z) else x)) = ksT T := by
      unfold ksT
      rw [List.map_map]
      refine List.map_congr_left fun x _ => ?_
      show (if x.1 = p then (x.1, z) else x).1 = x.1
      split <;> rfl
    rw [e]; exact nd
  · rename_i a
    unfold ksT
    rw [List.map_append, List.nodup_append]
    refine ⟨nd, by simp, fun x hx y hy e => ?_⟩
    obtain ⟨w, hw, rfl⟩ := List.mem_map.mp hx
    have : y = p := by simpa using hy
    exact a (List.any_eq_true.mpr ⟨w, hw, decide_eq_true (e.trans this)⟩)
theorem len_put {T : Tm} {p : Pr} {z : Int} : (putT T p z).length ≤ T.length + 1 := by
  unfold putT
  split
  · rw [List.length_map]; omega
  · rw [List.length_append]; exact Nat.le_refl _
theorem nd_take {T : Tm} (nd : (ksT T).Nodup) (n : Nat) : (ksT (T.take n)).Nodup := by
  unfold ksT
  rw [List.map_take]
  exact nd.sublist (List.take_sublist _ _)
theorem take_T {T : Tm} {i : Nat} (l : i < T.length) : T.take (i + 1) = T.take i ++ [T[i]] := by
  rw [List.take_add_one, List.getElem?_eq_getElem l]; rfl
theorem cT_take {T : Tm} (nd : (ksT T).Nodup) {i : Nat} (l : i < T.length) (p : Pr) : cT (T.take (i + 1)) p = cT (T.take i) p + if p = T[i].1 then T[i].2 else 0 := by
  have h := nd_take nd (i + 1)
  rw [take_T l] at h ⊢
  exact cT_snoc h p
theorem cT_take_0 {T : Tm} (nd : (ksT T).Nodup) {i : Nat} (l : i < T.length) : cT (T.take i) T[i].1 = 0 := by
  have h := nd_take nd (i + 1)
  rw [take_T l] at h
  refine cT_none fun hm => ?_
  unfold ksT at h
  rw [List.map_append, List.nodup_append] at h
  exact h.2.2 _ hm _ (by simp) rfl
theorem cT_filter {T : Tm} (nd : (ksT T).Nodup) (p : Pr) : cT (T.filter fun x => decide (x.2 ≠ 0)) p = cT T p := by
  induction T with
  | nil => rfl
  | cons x T ih =>
    obtain ⟨n1, n2⟩ := List.nodup_cons.mp nd
    rw [List.filter_cons]
    by_cases e : x.2 = 0
    · rw [if_neg (by simp [e]), ih n2, cT]
      by_cases e2 : x.1 = p
      · rw [if_pos e2, e, cT_none (by rw [← e2]; exact n1)]
      · rw [if_neg e2]
    · rw [if_pos (by simp [e]), cT, cT, ih n2]

/-! what keys there can be -/
def pairs9' : List Pr := (List.range 9).flatMap fun i => (List.range 9).map fun j => (i, j)
theorem mem_pairs9 {p : Pr} (h1 : p.1 ≤ 8) (h2 : p.2 ≤ 8) : p ∈ pairs9' :=
  List.mem_flatMap.mpr ⟨p.1, List.mem_range.mpr (by omega), List.mem_map.mpr ⟨p.2, List.mem_range.mpr (by omega), rfl⟩⟩
theorem len_sub {α : Type} [DecidableEq α] : ∀ (l m : List α), l.Nodup → (∀ x ∈ l, x ∈ m) → l.length ≤ m.length
  | [], m, _, _ => Nat.zero_le _
  | a :: l, m, h, s => by
    obtain ⟨n1, n2⟩ := List.nodup_cons.mp h
    have ha := s a List.mem_cons_self
    have := len_sub l (m.erase a) n2 fun x hx => (List.mem_erase_of_ne (fun e => n1 (by rw [← e]; exact hx))).mpr (s x (List.mem_cons_of_mem _ hx))
    rw [List.length_erase_of_mem ha] at this
    have := List.length_pos_of_mem ha
    rw [List.length_cons]; omega
structure Ks (T : Tm) : Prop where
  nd : (ksT T).Nodup
  lt : ∀ p ∈ ksT T, p.1 ≤ 8 ∧ p.2 ≤ 8
theorem Ks.len {T : Tm} (k : Ks T) : T.length ≤ 81 := by
  have h := len_sub (ksT T) pairs9' k.nd fun p hp => mem_pairs9 (k.lt p hp).1 (k.lt p hp).2
  rw [show pairs9'.length = 81 by decide] at h
  simpa [ksT] using h
theorem Ks.nil : Ks [] := ⟨List.nodup_nil, fun p h => (by cases h)⟩
theorem Ks.put {T : Tm} {p : Pr} {z : Int} (k : Ks T) (h1 : p.1 ≤ 8) (h2 : p.2 ≤ 8) : Ks (putT T p z) := ⟨nd_put k.nd, fun q hq => by
  rcases ks_put hq with h | h
  · exact k.lt q h
  · rw [h]; exact ⟨h1, h2⟩⟩
theorem Ks.filter {T : Tm} (k : Ks T) (f : Pr × Int → Bool) : Ks (T.filter f) := ⟨k.nd.sublist (List.Sublist.map _ List.filter_sublist), fun p hp => k.lt p ((List.Sublist.map _ List.filter_sublist).subset hp)⟩

/-- T tells the plane P -/
structure Tells (T : Tm) (P : Pn) : Prop where
  ks : Ks T
  nz : ∀ x ∈ T, x.2 ≠ 0
  cn : Cn2 P
  co : ∀ i j, cT T (i, j) = co2 P i j
theorem Tells.key {T : Tm} {P : Pn} (t : Tells T P) {x : Pr × Int} (h : x ∈ T) : co2 P x.1.1 x.1.2 = x.2 ∧ x.1.1 < P.length ∧ x.1.2 < (ro P x.1.1).length := by
  have e : co2 P x.1.1 x.1.2 = x.2 := by rw [← t.co]; exact cT_at t.ks.nd h
  have nz := t.nz x h
  refine ⟨e, ?_, ?_⟩
  · refine Nat.lt_of_not_le fun l => nz ?_
    rw [← e, co2_big l]
  · refine Nat.lt_of_not_le fun l => nz ?_
    rw [← e]; exact co_big l
theorem Tells.of {T : Tm} (k : Ks T) {P : Pn} (c : Cn2 P) (h : ∀ i j, cT T (i, j) = co2 P i j) : Tells (T.filter fun x => decide (x.2 ≠ 0)) P :=
  ⟨k.filter _, fun x hx => of_decide_eq_true (List.mem_filter.mp hx).2, c, fun i j => by rw [cT_filter k.nd, h]⟩
/-- the plane that is told -/
def plT (T : Tm) : Pn := trim2 ((List.range 9).map fun i => (List.range 9).map fun j => cT T (i, j))
theorem co2_plT {T : Tm} (k : Ks T) (i j : Nat) : co2 (plT T) i j = cT T (i, j) := by
  unfold plT
  rw [co2_trim2]
  unfold co2
  rw [ro_tab]
  by_cases hi : i < 9
  · rw [if_pos hi]
    by_cases hj : j < 9
    · rw [co_at (by simpa using hj)]; simp
    · rw [co_big (by simp; omega), cT_none fun h => hj (by have := (k.lt _ h).2; omega)]
  · rw [if_neg hi, co_nil, cT_none fun h => hi (by have := (k.lt _ h).1; omega)]
theorem tells_plT {T : Tm} (k : Ks T) : Tells (T.filter fun x => decide (x.2 ≠ 0)) (plT T) := Tells.of k (cn2_trim2 _) fun i j => (co2_plT k i j).symm

/-! degrees, sizes -/
structure Dg (n : Nat) (P : Pn) : Prop where
  x : P.length ≤ n + 1
  y : ∀ p ∈ P, p.length ≤ n + 1
theorem Dg.mono {n m : Nat} {P : Pn} (d : Dg n P) (h : n ≤ m) : Dg m P := ⟨by have := d.x; omega, fun p hp => by have := d.y p hp; omega⟩
theorem Dg.ro {n : Nat} {P : Pn} (d : Dg n P) (i : Nat) : (ro P i).length ≤ n + 1 := by
  by_cases l : i < P.length
  · rw [ro_at l]; exact d.y _ (List.getElem_mem l)
  · rw [ro_big (by omega)]; exact Nat.zero_le _
theorem Dg.of {n : Nat} {P : Pn} (c : Cn2 P) (h : ∀ i j, co2 P i j ≠ 0 → i ≤ n ∧ j ≤ n) : Dg n P := by
  have rows : ∀ i, (Kr.ro P i).length ≤ n + 1 := fun i => length_le_of (c.ro i) fun j hj => by
    by_cases z : co2 P i j = 0
    · exact z
    · have := (h i j z).2; omega
  refine ⟨Nat.le_of_not_lt fun l => ?_, fun p hp => ?_⟩
  · have hn : P ≠ [] := by intro e; rw [e] at l; exact absurd l (Nat.not_lt_zero _)
    have h1 := cn2_last c hn
    have h2 := cn_last (c.ro (P.length - 1)) h1
    have := (h _ _ h2).1
    omega
  · obtain ⟨i, li, rfl⟩ := List.mem_iff_getElem.mp hp
    rw [← ro_at li]; exact rows i
theorem Tells.dg {T : Tm} {P : Pn} (t : Tells T P) : Dg 8 P := Dg.of t.cn fun i j h => by
  rw [← t.co] at h
  obtain ⟨x, hx, e, _⟩ := cT_mem h
  have := t.ks.lt x.1 (List.mem_map_of_mem hx)
  rw [e] at this
  exact this
theorem Tells.lt {T : Tm} {P : Pn} (t : Tells T P) {n : Nat} (d : Dg n P) {x : Pr × Int} (h : x ∈ T) : x.1.1 ≤ n ∧ x.1.2 ≤ n := by
  obtain ⟨_, h1, h2⟩ := t.key h
  have := d.x
  have := d.ro x.1.1
  omega

/-! products -/
theorem cvP_mono (a b : Nat) (z : Int) (t : Nat) (g : Nat → Fn) (j : Nat) : cvP (fun n m => if (n, m) = (a, b) then z else 0) g t j = if a ≤ t ∧ b ≤ j then z * g (t - a) (j - b) else 0 := by
  have e : (fun n m => if (n, m) = (a, b) then z else 0) = fun n m => if n = a then (fun m => if m = b then z else 0) m else (0 : Int) := by
    funext n m
    by_cases h1 : n = a
    · by_cases h2 : m = b
      · rw [if_pos (by rw [h1, h2]), if_pos h1]; exact (if_pos h2).symm
      · rw [if_neg (fun q => h2 (by injection q)), if_pos h1]; exact (if_neg h2).symm
    · rw [if_neg (fun q => h1 (by injection q)), if_neg h1]
  rw [e, cvP_delta a (fun m => if m = b then z else 0) t g j]
  by_cases h : a ≤ t
  · rw [if_pos h, cv_delta]
    by_cases h2 : b ≤ j
    · rw [if_pos h2, if_pos ⟨h, h2⟩]
    · rw [if_neg h2, if_neg (fun q => h2 q.2)]
  · rw [if_neg h, if_neg (fun q => h q.1)]
def fT (T : Tm) : Nat → Fn := fun i j => cT T (i, j)
theorem fT_take {T : Tm} (nd : (ksT T).Nodup) {i : Nat} (l : i < T.length) : fT (T.take (i + 1)) = fun n m => fT (T.take i) n m + if (n, m) = (T[i].1.1, T[i].1.2) then T[i].2 else 0 := by
  funext n m
  exact cT_take nd l (n, m)
theorem cvP_take {T : Tm} (nd : (ksT T).Nodup) {i : Nat} (l : i < T.length) (g : Nat → Fn) (t j : Nat) : cvP (fT (T.take (i + 1))) g t j = cvP (fT (T.take i)) g t j + if T[i].1.1 ≤ t ∧ T[i].1.2 ≤ j then T[i].2 * g (t - T[i].1.1) (j - T[i].1.2) else 0 := by
  rw [fT_take nd l, cvP_add_l, cvP_mono]
theorem Tells.f {T : Tm} {P : Pn} (t : Tells T P) : fT T = cf P := by
  funext i j; exact t.co i j
theorem cvP_comm0 (f : Nat → Fn) : ∀ (t j : Nat), cvP f (fun _ _ => 0) t j = 0 := by
  intro t
  induction t generalizing f with
  | zero => intro j; rw [cvP, cv_comm, cv_zero]
  | succ t ih => intro j; rw [cvP_s, cv_comm, cv_zero, ih]; rfl
theorem cf_nil : cf [] = fun _ _ => 0 := by funext i j; unfold cf; rw [ro_big (Nat.zero_le _), co_nil]
theorem co2_mul (P Q : Pn) (i j : Nat) : co2 (mul2 P Q) i j = cvP (cf P) (cf Q) i j := by
  by_cases hp : P = []
  · rw [hp, cf_nil, cvP_zero]; rfl
  by_cases hq : Q = []
  · rw [hq, cf_nil, cvP_comm0]
    unfold mul2
    rw [if_pos (.inr rfl)]; rfl
  unfold mul2
  rw [if_neg (fun e => e.elim hp hq)]
  unfold co2
  rw [ro_tab]
  have lp : 0 < P.length := List.length_pos_iff.mpr hp
  have lq : 0 < Q.length := List.length_pos_iff.mpr hq
  by_cases h : i < P.length + Q.length - 1
  · rw [if_pos h, co_rowL]; rfl
  · rw [if_neg h, co_nil]
    exact ((cvP_vanish (P.length - 1) (Q.length - 1) (cf P) (cf Q) (fun k hk => by unfold cf; rw [ro_big (by omega), co_nil]) (fun k hk => by unfold cf; rw [ro_big (by omega), co_nil])).2 i (by omega) j).symm
theorem Dg.mul {n m : Nat} {P Q : Pn} (d : Dg n P) (e : Dg m Q) : Dg (n + m) (mul2 P Q) := by
  by_cases h0 : P = [] ∨ Q = []
  · unfold mul2; rw [if_pos h0]; exact ⟨Nat.zero_le _, fun p h => (by cases h)⟩
  have rows : ∀ (t : Nat) (f g : Nat → List Int), (∀ k, (f k).length ≤ n + 1) → (∀ k, (g k).length ≤ m + 1) → (rowL f g t).length ≤ n + m + 1 := by
    intro t
    induction t with
    | zero =>
      intro f g hf hg
      refine Nat.le_trans (trim_length _) (Nat.le_trans (mulF_le _ _) ?_)
      have := hf 0
      have := hg 0
      omega
    | succ t ih =>
      intro f g hf hg
      refine Nat.le_trans (trim_length _) ?_
      rw [addF_length]
      have h1 := ih (fun n => f (n + 1)) g (fun k => hf _) hg
      have h2 := mulF_le (f 0) (g (t + 1))
      have := hf 0
      have := hg (t + 1)
      omega
  refine ⟨?_, fun p hp => ?_⟩
  · unfold mul2
    rw [if_neg h0, List.length_map, List.length_range]
    have := d.x
    have := e.x
    omega
  · unfold mul2 at hp
    rw [if_neg h0] at hp
    obtain ⟨i, _, rfl⟩ := List.mem_map.mp hp
    exact rows i _ _ (fun k => d.ro k) fun k => e.ro k

/-! sums over tables -/
def sm : Nat → (Nat → Int) → Int
  | 0, _ => 0
  | n + 1, f => sm n f + f n
theorem sm_add (f g : Nat → Int) : ∀ n, sm n (fun i => f i + g i) = sm n f + sm n g
  | 0 => rfl
  | n + 1 => by rw [sm, sm, sm, sm_add f g n]; omega
theorem sm_scl (c : Int) (f : Nat → Int) : ∀ n, sm n (fun i => c * f i) = c * sm n f
  | 0 => by simp [sm]
  | n + 1 => by rw [sm, sm, sm_scl c f n, Int.mul_add]
theorem sm_congr {f g : Nat → Int} : ∀ {n : Nat}, (∀ i, i < n → f i = g i) → sm n f = sm n g
  | 0, _ => rfl
  | n + 1, h => by rw [sm, sm, sm_congr (n := n) fun i hi => h i (by omega), h n (by omega)]
theorem sm_zero : ∀ n, sm n (fun _ => 0) = 0
  | 0 => rfl
  | n + 1 => by rw [sm, sm_zero n]; rfl
theorem sm_delta (a : Nat) (z : Int) : ∀ n, sm n (fun i => if i = a then z else 0) = if a < n then z else 0
  | 0 => by simp [sm]
  | n + 1 => by
    rw [sm, sm_delta a z n]
    by_cases h : a < n
    · rw [if_pos h, if_neg (by omega), if_pos (by omega)]; omega
    · rw [if_neg h]
      by_cases e : n = a
      · rw [if_pos e, if_pos (by omega)]; omega
      · rw [if_neg e, if_neg (by omega)]; rfl
theorem sm_shift (f : Nat → Int) : ∀ n, sm (n + 1) f = f 0 + sm n (fun i => f (i + 1))
  | 0 => by simp [sm]
  | n + 1 => by rw [sm, sm_shift f n, sm]; omega
theorem ev_sm (x : Int) : ∀ (p : List Int) (n : Nat), p.length ≤ n → ev x p = sm n (fun i => co p i * x ^ i)
  | [], n, _ => by rw [sm_congr (g := fun _ => 0) fun i _ => by rw [co_nil]; exact Int.zero_mul _, sm_zero]; rfl
  | a :: p, 0, h => by simp at h
  | a :: p, n + 1, h => by
    rw [sm_shift, ev, ev_sm x p n (by simpa using h), co_0, ← sm_scl]
    simp only [co_s, Int.pow_zero, Int.mul_one]
    congr 1
    refine sm_congr fun i _ => ?_
    rw [Int.pow_succ]; grind
/-- a sum over the table, and over all pairs -/
def sT (g : Pr → Int) : Tm → Int
  | [] => 0
  | x :: T => x.2 * g x.1 + sT g T
theorem sT_snoc (g : Pr → Int) (x : Pr × Int) : ∀ T, sT g (T ++ [x]) = sT g T + x.2 * g x.1
  | [] => by simp [sT]
  | y :: T => by rw [List.cons_append, sT, sT, sT_snoc g x T]; omega
theorem sT_sm (g : Pr → Int) : ∀ {T : Tm}, Ks T → sT g T = sm 9 fun i => sm 9 fun j => cT T (i, j) * g (i, j)
  | [], _ => by
    have z : ∀ i, sm 9 (fun j => cT [] (i, j) * g (i, j)) = 0 := fun i => (sm_congr (g := fun _ => 0) fun j _ => Int.zero_mul _).trans (sm_zero 9)
    rw [sm_congr (g := fun _ => 0) fun i _ => z i, sm_zero]; rfl
  | x :: T, k => by
    obtain ⟨n1, n2⟩ := List.nodup_cons.mp (show (x.1 :: ksT T).Nodup from k.nd)
    have kT : Ks T := ⟨n2, fun p hp => k.lt p (List.mem_cons_of_mem _ hp)⟩
    have hx := k.lt x.1 List.mem_cons_self
    have e : ∀ i j, cT (x :: T) (i, j) * g (i, j) = cT T (i, j) * g (i, j) + if i = x.1.1 then (if j = x.1.2 then x.2 * g x.1 else 0) else 0 := by
      intro i j
      rw [cT]
      by_cases h : x.1 = (i, j)
      · have h1 : i = x.1.1 := by rw [h]
        have h2 : j = x.1.2 := by rw [h]
        rw [if_pos h, if_pos h1, if_pos h2, cT_none (by rw [← h]; exact n1), ← h]; omega
      · rw [if_neg h]
        by_cases h1 : i = x.1.1
        · rw [if_pos h1, if_neg (fun h2 : j = x.1.2 => h (by rw [h1, h2])), Int.add_zero]
        · rw [if_neg h1, Int.add_zero]
    have in1 : ∀ i, sm 9 (fun j => cT (x :: T) (i, j) * g (i, j)) = sm 9 (fun j => cT T (i, j) * g (i, j)) + if i = x.1.1 then x.2 * g x.1 else 0 := by
      intro i
      rw [sm_congr fun j _ => e i j, sm_add]
      congr 1
      by_cases h : i = x.1.1
      · rw [if_pos h, sm_congr (g := fun j => if j = x.1.2 then x.2 * g x.1 else 0) fun j _ => by rw [if_pos h], sm_delta, if_pos (by omega)]
      · rw [if_neg h, sm_congr (g := fun _ => 0) fun j _ => by rw [if_neg h], sm_zero]
    rw [sT, sT_sm g kT, sm_congr fun i _ => in1 i, sm_add, sm_delta, if_pos (by omega)]
    omega
theorem co_atX (v : Int) : ∀ (P : Pn) (n : Nat), co (atX v P) n = ev v (P.map fun p => co p n)
  | [], n => by simp [atX, ev, co]
  | p :: P, n => by
    rw [atX, co_trim, co_add, co_scl, co_atX v P n, List.map_cons, ev]; omega
theorem co_map (f : List Int → Int) (h0 : f [] = 0) (P : Pn) (i : Nat) : co (P.map f) i = f (ro P i) := by
  by_cases h : i < P.length
  · rw [co_at (by simpa using h), ro_at h, List.getElem_map]
  · rw [co_big (by simp; omega), ro_big (by omega), h0]
/-- with a number in the place of x, of y -/
def gX (v : Int) (n : Nat) : Pr → Int := fun p => if p.2 = n then v ^ p.1 else 0
def gY (v : Int) (n : Nat) : Pr → Int := fun p => if p.1 = n then v ^ p.2 else 0
theorem Tells.at_x {T : Tm} {P : Pn} (t : Tells T P) (v : Int) (n : Nat) : sT (gX v n) T = Kr.co (Kr.atX v P) n := by
  have d := t.dg
  rw [sT_sm _ t.ks, co_atX, ev_sm v _ 9 (by rw [List.length_map]; exact d.x)]
  refine sm_congr fun i _ => ?_
  rw [co_map (fun p => Kr.co p n) (by rw [co_nil]) P i]
  have e : ∀ j, cT T (i, j) * gX v n (i, j) = if j = n then co2 P i n * v ^ i else 0 := by
    intro j
    show cT T (i, j) * (if j = n then v ^ i else 0) = _
    by_cases h : j = n
    · rw [if_pos h, if_pos h, t.co, h]
    · rw [if_neg h, if_neg h, Int.mul_zero]
  rw [sm_congr fun j _ => e j, sm_delta]
  split
  · rfl
  · rename_i h
    have : Kr.co (Kr.ro P i) n = 0 := co_big (by have := d.ro i; omega)
    rw [this, Int.zero_mul]
theorem Tells.at_y {T : Tm} {P : Pn} (t : Tells T P) (v : Int) (n : Nat) : sT (gY v n) T = Kr.co (Kr.atY v P) n := by
  have d := t.dg
  rw [sT_sm _ t.ks]
  unfold Kr.atY
  rw [co_trim, co_map (ev v) rfl P n, ev_sm v _ 9 (d.ro n)]
  have e : ∀ i, sm 9 (fun j => cT T (i, j) * gY v n (i, j)) = if i = n then sm 9 (fun j => Kr.co (Kr.ro P n) j * v ^ j) else 0 := by
    intro i
    by_cases h : i = n
    · rw [if_pos h]
      refine sm_congr fun j _ => ?_
      show cT T (i, j) * (if i = n then v ^ j else 0) = _
      rw [if_pos h, t.co, h]; rfl
    · rw [if_neg h, sm_congr (g := fun _ => 0) fun j _ => by show cT T (i, j) * (if i = n then v ^ j else 0) = 0; rw [if_neg h, Int.mul_zero], sm_zero]
  rw [sm_congr fun i _ => e i, sm_delta]
  split
  · rfl
  · rename_i h
    rw [sm_congr (g := fun _ => 0) fun j _ => by rw [ro_big (by have := d.x; omega), co_nil]; exact Int.zero_mul _, sm_zero]
theorem ev_snoc (x a : Int) : ∀ p : List Int, ev x (p ++ [a]) = ev x p + a * x ^ p.length
  | [] => by simp [ev]
  | b :: p => by
    rw [List.cons_append, ev, ev, ev_snoc x a p, List.length_cons, Int.pow_succ]; grind

/-! slopes -/
theorem co2_slx (P : Pn) (i j : Nat) : co2 (slx P) i j = ((i : Int) + 1) * co2 P (i + 1) j := by
  unfold co2 slx
  rw [ro_tab]
  split
  · rw [co_trim, co_scl]; rfl
  · rw [co_nil, ro_big (P := P) (by omega), co_nil]; exact (Int.mul_zero _).symm
theorem co2_sly (P : Pn) (i j : Nat) : co2 (sly P) i j = ((j : Int) + 1) * co2 P i (j + 1) := by
  unfold sly
  rw [co2_trim2]
  unfold co2
  by_cases h : i < P.length
  · rw [ro_at (by simpa using h), List.getElem_map, co_sl, ro_at h]; rfl
  · rw [ro_big (by simp; omega), ro_big (by omega), co_nil]; exact (Int.mul_zero _).symm
theorem cn2_slx {P : Pn} (c : Cn2 P) : Cn2 (slx P) := by
  refine ⟨fun p hp => ?_, fun p hp => ?_⟩
  · obtain ⟨i, _, rfl⟩ := List.mem_map.mp hp
    exact cn_trim _
  · unfold slx at hp
    rw [List.getLast?_map, List.getLast?_range] at hp
    by_cases l : P.length - 1 = 0
    · rw [if_pos l] at hp; cases hp
    · rw [if_neg l] at hp
      have e : trim (sclF (((P.length - 1 - 1 + 1 : Nat) : Int)) (ro P (P.length - 1 - 1 + 1))) = p := by simpa using hp
      rw [show P.length - 1 - 1 + 1 = P.length - 1 by omega] at e
      have hn : P ≠ [] := by intro z; rw [z] at l; exact l rfl
      have h1 := cn2_last c hn
      have h2 := cn_last (c.ro (P.length - 1)) h1
      intro z
      rw [z] at e
      have := co_trim (sclF (((P.length - 1 : Nat) : Int)) (ro P (P.length - 1))) ((ro P (P.length - 1)).length - 1)
      rw [e, co_nil, co_scl] at this
      rcases Int.mul_eq_zero.mp this.symm with h | h
      · omega
      · exact h2 h
theorem Dg.slx {n : Nat} {P : Pn} (d : Dg n P) : Dg n (slx P) := ⟨by unfold Kr.slx; rw [List.length_map, List.length_range]; have := d.x; omega, fun p hp => by
  obtain ⟨i, _, rfl⟩ := List.mem_map.mp hp
  refine Nat.le_trans (trim_length _) ?_
  simp only [sclF, List.length_map]
  exact d.ro _⟩
theorem Dg.trim2 {n : Nat} {P : Pn} (d : Dg n P) : Dg n (trim2 P) := ⟨Nat.le_trans (trim2_length P) d.x, fun p hp => by
  obtain ⟨i, li, rfl⟩ := List.mem_iff_getElem.mp hp
  rw [← ro_at li, ro_trim2]
  exact Nat.le_trans (trim_length _) (d.ro i)⟩
theorem Dg.sly {n : Nat} {P : Pn} (d : Dg n P) : Dg n (sly P) := Dg.trim2 ⟨by rw [List.length_map]; exact d.x, fun p hp => by
  obtain ⟨q, hq, rfl⟩ := List.mem_map.mp hp
  rw [slF_length]
  have := d.y q hq
  omega⟩
theorem Dg.add {n : Nat} {P Q : Pn} (d : Dg n P) (e : Dg n Q) : Dg n (add2 P Q) := ⟨by rw [add2_length]; have := d.x; have := e.x; omega, fun p hp => by
  obtain ⟨i, li, rfl⟩ := List.mem_iff_getElem.mp hp
  rw [← ro_at li, ro_add2, addF_length]
  have := d.ro i
  have := e.ro i
  omega⟩
theorem Dg.scl {n : Nat} {P : Pn} (d : Dg n P) (c : Int) : Dg n (scl2 c P) := ⟨by unfold scl2; rw [List.length_map]; exact d.x, fun p hp => by
  obtain ⟨q, hq, rfl⟩ := List.mem_map.mp hp
  simpa [sclF] using d.y q hq⟩
end Kr
/-! Planes: values, slopes of products, plain forms of products. -/
namespace Kr
theorem nd1 {d : Nat} {z : Int} (h : (d : Int) ∣ z) : d ∣ z.natAbs := Int.natCast_dvd_natCast.mp (Int.dvd_natAbs.mpr h)
theorem nd2 {d : Nat} {z : Int} (h : d ∣ z.natAbs) : (d : Int) ∣ z := Int.dvd_natAbs.mp (Int.natCast_dvd_natCast.mpr h)
def plv (x y : Int) : Pn → Int
  | [] => 0
  | p :: P => ev y p + x * plv x y P
theorem plv_atX (x y : Int) : ∀ P : Pn, ev y (atX x P) = plv x y P
  | [] => rfl
  | p :: P => by rw [atX, ev_trim, ev_add, ev_scl, plv_atX x y P, plv]; omega
theorem plv_atY (x y : Int) (P : Pn) : ev x (atY y P) = plv x y P := by
  unfold atY
  rw [ev_trim]
  induction P with
  | nil => rfl
  | cons p P ih => rw [List.map_cons, ev, ih, plv]
theorem co2_0 (p : List Int) (P : Pn) (j : Nat) : co2 (p :: P) 0 j = co p j := by unfold co2; rw [ro_0]
theorem co2_s (p : List Int) (P : Pn) (i j : Nat) : co2 (p :: P) (i + 1) j = co2 P i j := by unfold co2; rw [ro_s]
theorem co2_nil (i j : Nat) : co2 [] i j = 0 := co2_big (Nat.zero_le _) j
theorem plv_zero (x y : Int) : ∀ P : Pn, (∀ i j, co2 P i j = 0) → plv x y P = 0
  | [], _ => rfl
  | p :: P, h => by
    rw [plv, ev_zero y p fun j => by rw [← co2_0 p P j]; exact h 0 j, plv_zero x y P fun i j => by rw [← co2_s p P i j]; exact h (i + 1) j]
    simp
theorem plv_ext (x y : Int) : ∀ P Q : Pn, (∀ i j, co2 P i j = co2 Q i j) → plv x y P = plv x y Q
  | [], Q, h => by rw [plv_zero x y Q fun i j => by rw [← h, co2_nil]]; rfl
  | p :: P, [], h => by rw [plv_zero x y (p :: P) fun i j => by rw [h, co2_nil]]; rfl
  | p :: P, q :: Q, h => by
    rw [plv, plv, ev_ext y p q fun j => by have := h 0 j; rwa [co2_0, co2_0] at this, plv_ext x y P Q fun i j => by have := h (i + 1) j; rwa [co2_s, co2_s] at this]
theorem plv_trim2 (x y : Int) (P : Pn) : plv x y (trim2 P) = plv x y P := plv_ext x y _ _ (co2_trim2 P)
theorem plv_add (x y : Int) : ∀ P Q : Pn, plv x y (add2 P Q) = plv x y P + plv x y Q
  | [], Q => by simp [add2, plv]
  | p :: P, [] => by simp [add2, plv]
  | p :: P, q :: Q => by simp only [add2, plv, ev_add, plv_add x y P Q]; grind
theorem plv_scl (x y c : Int) : ∀ P : Pn, plv x y (scl2 c P) = c * plv x y P
  | [] => by simp [scl2, plv]
  | p :: P => by
    have ih := plv_scl x y c P
    unfold scl2 at ih ⊢
    rw [List.map_cons, plv, plv, ih, ev_scl]; grind
theorem plv_rows (x y : Int) (p : List Int) : ∀ Q : Pn, plv x y (Q.map (mulF p)) = ev y p * plv x y Q
  | [] => by simp [plv]
  | q :: Q => by rw [List.map_cons, plv, plv, ev_mul, plv_rows x y p Q]; grind
theorem mulF_nil (p : List Int) : mulF p [] = [] := by unfold mulF; rw [if_pos (.inr rfl)]
theorem ro_rows (p : List Int) (Q : Pn) (i : Nat) : ro (Q.map (mulF p)) i = mulF p (ro Q i) := by
  by_cases h : i < Q.length
  · rw [ro_at (by simpa using h), ro_at h, List.getElem_map]
  · rw [ro_big (by simp; omega), ro_big (by omega), mulF_nil]
theorem plv_mul (x y : Int) : ∀ P Q : Pn, plv x y (mul2 P Q) = plv x y P * plv x y Q
  | [], Q => by unfold mul2; rw [if_pos (.inl rfl)]; simp [plv]
  | p :: P, Q => by
    have e : plv x y (mul2 (p :: P) Q) = plv x y (add2 (Q.map (mulF p)) ([] :: mul2 P Q)) := plv_ext x y _ _ fun i j => by
      rw [co2_mul, co2_add2]
      have h1 : co2 (Q.map (mulF p)) i j = cv (co p) (cf Q i) j := by unfold co2; rw [ro_rows, co_mul]; rfl
      have z : (fun n => cf (p :: P) (n + 1)) = cf P := by funext n m; exact co2_s p P n m
      have z0 : cf (p :: P) 0 = co p := by funext m; exact co2_0 p P m
      rw [h1]
      cases i with
      | zero => rw [cvP, z0, co2_0, co_nil]; exact (Int.add_zero _).symm
      | succ i => rw [cvP_s, z0, z, co2_s, co2_mul]
    rw [e, plv_add, plv_rows, plv, plv_mul x y P Q, plv, ev]; grind

/-! slopes of products -/
def dx (f : Nat → Fn) : Nat → Fn := fun n m => ((n : Int) + 1) * f (n + 1) m
theorem cvP_dx : ∀ (i : Nat) (f g : Nat → Fn) (j : Nat), ((i : Int) + 1) * cvP f g (i + 1) j = cvP (dx f) g i j + cvP f (dx g) i j
  | 0, f, g, j => by
    have e1 : cv (dx f 0) (g 0) j = cv (f 1) (g 0) j := by
      rw [show dx f 0 = fun m => 1 * f 1 m by funext m; simp [dx], cv_scl_l, Int.one_mul]
    have e2 : cv (f 0) (dx g 0) j = cv (f 0) (g 1) j := by
      rw [show dx g 0 = fun m => 1 * g 1 m by funext m; simp [dx], cv_scl_r, Int.one_mul]
    rw [cvP_s, cvP, cvP, cvP, e1, e2]
    simp only [Nat.zero_add]
    grind
  | i + 1, f, g, j => by
    have ih := cvP_dx i (fun n => f (n + 1)) g j
    have e : (fun n => dx f (n + 1)) = fun n m => dx (fun n => f (n + 1)) n m + f (n + 2) m := by
      funext n m
      show (((n + 1 : Nat) : Int) + 1) * f (n + 2) m = ((n : Int) + 1) * f (n + 2) m + f (n + 2) m
      grind
    have a1 : cvP (dx f) g (i + 1) j = cv (f 1) (g (i + 1)) j + (cvP (dx fun n => f (n + 1)) g i j + cvP (fun n => f (n + 2)) g i j) := by
      rw [cvP_s, e, cvP_add_l, show dx f 0 = fun m => 1 * f 1 m by funext m; simp [dx], cv_scl_l, Int.one_mul]
    have a2 : cvP f (dx g) (i + 1) j = (((i + 1 : Nat) : Int) + 1) * cv (f 0) (g (i + 2)) j + cvP (fun n => f (n + 1)) (dx g) i j := by
      rw [cvP_s, show dx g (i + 1) = fun m => (((i + 1 : Nat) : Int) + 1) * g (i + 2) m from rfl, cv_scl_r]
    have a3 : cvP (fun n => f (n + 1)) g (i + 1) j = cv (f 1) (g (i + 1)) j + cvP (fun n => f (n + 2)) g i j := rfl
    have a4 : cvP f g (i + 1 + 1) j = cv (f 0) (g (i + 2)) j + cvP (fun n => f (n + 1)) g (i + 1) j := rfl
    rw [a1, a2, a4, a3]
    rw [a3] at ih
    grind
theorem dv_add (f g : Fn) (j : Nat) : dv (fun n => f n + g n) j = dv f j + dv g j := by simp only [dv]; grind
theorem cvP_dy : ∀ (i : Nat) (f g : Nat → Fn) (j : Nat), dv (cvP f g i) j = cvP (fun n => dv (f n)) g i j + cvP f (fun n => dv (g n)) i j
  | 0, f, g, j => cv_slope j (f 0) (g 0)
  | i + 1, f, g, j => by
    have ih := cvP_dy i (fun n => f (n + 1)) g j
    have e : cvP f g (i + 1) = fun j => cv (f 0) (g (i + 1)) j + cvP (fun n => f (n + 1)) g i j := rfl
    rw [e, dv_add (cv (f 0) (g (i + 1))) (cvP (fun n => f (n + 1)) g i) j, cv_slope, ih, cvP_s, cvP_s]; grind
theorem cf_slx (P : Pn) : cf (slx P) = dx (cf P) := by funext i j; exact co2_slx P i j
theorem cf_sly (P : Pn) : cf (sly P) = fun n => dv (cf P n) := by funext i j; exact co2_sly P i j
theorem slx_mul {P Q : Pn} (cp : Cn2 P) (cq : Cn2 Q) : slx (mul2 P Q) = trim2 (add2 (mul2 (slx P) Q) (mul2 P (slx Q))) :=
  co2_ext (cn2_slx (cn2_mul cp cq)) (cn2_trim2 _) fun i j => by
    rw [co2_slx, co2_mul, co2_trim2, co2_add2, co2_mul, co2_mul, cf_slx, cf_slx, cvP_dx]
theorem sly_mul {P Q : Pn} (cp : Cn2 P) (cq : Cn2 Q) : sly (mul2 P Q) = trim2 (add2 (mul2 (sly P) Q) (mul2 P (sly Q))) :=
  co2_ext (cn2_trim2 _) (cn2_trim2 _) fun i j => by
    have h := cvP_dy i (cf P) (cf Q) j
    rw [co2_sly, co2_mul, co2_trim2, co2_add2, co2_mul, co2_mul, cf_sly, cf_sly, ← h]; rfl

/-! the greatest common divisor of all numbers -/
def cnt2 (P : Pn) : Nat := P.foldr (fun p g => Nat.gcd (cnt p) g) 0
theorem cnt_all {d : Nat} : ∀ {p : List Int}, (∀ j, (d : Int) ∣ co p j) → d ∣ cnt p
  | [], _ => Nat.dvd_zero d
  | a :: p, h => Nat.dvd_gcd (nd1 (by have := h 0; rwa [co_0] at this)) (cnt_all fun j => by have := h (j + 1); rwa [co_s] at this)
theorem cnt_co (p : List Int) (j : Nat) : (cnt p : Int) ∣ co p j := by
  by_cases h : j < p.length
  · rw [co_at h]; exact cnt_dvd (List.getElem_mem h)
  · rw [co_big (by omega)]; exact Int.dvd_zero _
theorem cnt2_co : ∀ (P : Pn) (i j : Nat), (cnt2 P : Int) ∣ co2 P i j
  | [], i, j => by rw [co2_nil]; exact Int.dvd_zero _
  | p :: P, 0, j => by
    rw [co2_0]
    exact Int.dvd_trans (Int.natCast_dvd_natCast.mpr (Nat.gcd_dvd_left _ _)) (cnt_co p j)
  | p :: P, i + 1, j => by
    rw [co2_s]
    exact Int.dvd_trans (Int.natCast_dvd_natCast.mpr (Nat.gcd_dvd_right _ _)) (cnt2_co P i j)
theorem cnt2_all {d : Nat} : ∀ {P : Pn}, (∀ i j, (d : Int) ∣ co2 P i j) → d ∣ cnt2 P
  | [], _ => Nat.dvd_zero d
  | p :: P, h => Nat.dvd_gcd (cnt_all fun j => by have := h 0 j; rwa [co2_0] at this) (cnt2_all fun i j => by have := h (i + 1) j; rwa [co2_s] at this)
theorem cnt2_of {P : Pn} {c : Nat} (h1 : ∀ i j, (c : Int) ∣ co2 P i j) (h2 : ∀ d : Nat, (∀ i j, (d : Int) ∣ co2 P i j) → d ∣ c) : cnt2 P = c :=
  Nat.dvd_antisymm (h2 _ (cnt2_co P)) (cnt2_all h1)
theorem cnt2_list (P : Pn) : cnt (P.map fun p => (cnt p : Int)) = cnt2 P := by
  unfold cnt2
  induction P with
  | nil => rfl
  | cons p P ih => rw [List.map_cons, List.foldr_cons, ← ih]; rfl

/-! primes, for this alone -/
def Pm (r : Nat) : Prop := 2 ≤ r ∧ ∀ d, d ∣ r → d = 1 ∨ d = r
theorem pm_ex : ∀ n : Nat, 2 ≤ n → ∃ r, Pm r ∧ r ∣ n := by
  intro n
  induction n using Nat.strongRecOn with
  | _ n ih =>
    intro h
    by_cases c : ∃ d, d ∣ n ∧ d ≠ 1 ∧ d ≠ n
    · obtain ⟨d, h1, h2, h3⟩ := c
      have dn : d ≤ n := Nat.le_of_dvd (by omega) h1
      have d0 : d ≠ 0 := fun e => by rw [e] at h1; have := Nat.eq_zero_of_zero_dvd h1; omega
      obtain ⟨r, hr, hd⟩ := ih d (by omega) (by omega)
      exact ⟨r, hr, Nat.dvd_trans hd h1⟩
    · refine ⟨n, ⟨h, fun d hd => ?_⟩, Nat.dvd_refl n⟩
      by_cases e : d = 1
      · exact .inl e
      · by_cases e2 : d = n
        · exact .inr e2
        · exact absurd ⟨d, hd, e, e2⟩ c
theorem pm_mul {r : Nat} (h : Pm r) {a b : Int} (d : (r : Int) ∣ a * b) : (r : Int) ∣ a ∨ (r : Int) ∣ b := by
  have d' : r ∣ a.natAbs * b.natAbs := by rw [← Int.natAbs_mul]; exact nd1 d
  rcases h.2 (Nat.gcd r a.natAbs) (Nat.gcd_dvd_left _ _) with e | e
  · exact .inr (nd2 (Nat.Coprime.dvd_of_dvd_mul_left (show Nat.Coprime r a.natAbs from e) d'))
  · exact .inl (nd2 (by rw [← e]; exact Nat.gcd_dvd_right _ _))
theorem least {p : Nat → Prop} (h : ∃ n, p n) : ∃ n, p n ∧ ∀ m, m < n → ¬ p m := by
  obtain ⟨n, hn⟩ := h
  induction n using Nat.strongRecOn with
  | _ n ih =>
    by_cases c : ∃ m, m < n ∧ p m
    · obtain ⟨m, h1, h2⟩ := c
      exact ih m h1 h2
    · exact ⟨n, hn, fun m h1 h2 => c ⟨m, h1, h2⟩⟩

/-! lowest terms -/
theorem cv_low : ∀ (t : Nat) (f g : Fn), (∀ k, k ≤ t → g k = 0) → cv f g t = 0
  | 0, f, g, h => by rw [cv, h 0 (Nat.le_refl _), Int.mul_zero]
  | t + 1, f, g, h => by rw [cv, h _ (Nat.le_refl _), Int.mul_zero, cv_low t _ g fun k hk => h k (by omega)]; rfl
theorem cv_first : ∀ (a b : Nat) (f g : Fn), (∀ k, k < a → f k = 0) → (∀ k, k < b → g k = 0) → cv f g (a + b) = f a * g b
  | 0, 0, f, g, _, _ => rfl
  | 0, b + 1, f, g, _, hg => by rw [Nat.zero_add, cv, cv_low b _ g fun k hk => hg k (by omega), Int.add_zero]
  | a + 1, b, f, g, hf, hg => by
    rw [show a + 1 + b = (a + b) + 1 by omega, cv, hf 0 (by omega), Int.zero_mul, Int.zero_add]
    exact cv_first a b (fun n => f (n + 1)) g (fun k hk => hf _ (by omega)) hg
theorem cvP_low : ∀ (t : Nat) (f g : Nat → Fn) (j : Nat), (∀ k, k ≤ t → g k = fun _ => 0) → cvP f g t j = 0
  | 0, f, g, j, h => by rw [cvP, h 0 (Nat.le_refl _), cv_comm, cv_zero]
  | t + 1, f, g, j, h => by rw [cvP_s, h _ (Nat.le_refl _), cv_comm, cv_zero, cvP_low t _ g j fun k hk => h k (by omega)]; rfl
theorem cvP_first : ∀ (a b : Nat) (f g : Nat → Fn) (j : Nat), (∀ k, k < a → f k = fun _ => 0) → (∀ k, k < b → g k = fun _ => 0) → cvP f g (a + b) j = cv (f a) (g b) j
  | 0, 0, f, g, j, _, _ => rfl
  | 0, b + 1, f, g, j, _, hg => by rw [Nat.zero_add, cvP_s, cvP_low b _ g j fun k hk => hg k (by omega), Int.add_zero]
  | a + 1, b, f, g, j, hf, hg => by
    rw [show a + 1 + b = (a + b) + 1 by omega, cvP_s, hf 0 (by omega), cv_zero, Int.zero_add]
    exact cvP_first a b (fun n => f (n + 1)) g j (fun k hk => hf _ (by omega)) hg
theorem cvP_scl_l (c : Int) : ∀ (i : Nat) (f g : Nat → Fn) (j : Nat), cvP (fun n m => c * f n m) g i j = c * cvP f g i j
  | 0, f, g, j => cv_scl_l c j (f 0) (g 0)
  | i + 1, f, g, j => by rw [cvP_s, cvP_s, cvP_scl_l c i (fun n => f (n + 1)) g j, cv_scl_l]; grind
theorem cvP_scl_r (c : Int) : ∀ (i : Nat) (f g : Nat → Fn) (j : Nat), cvP f (fun n m => c * g n m) i j = c * cvP f g i j
  | 0, f, g, j => cv_scl_r c j (f 0) (g 0)
  | i + 1, f, g, j => by rw [cvP_s, cvP_s, cvP_scl_r c i (fun n => f (n + 1)) g j, cv_scl_r]; grind
theorem cvP_add_r : ∀ (i : Nat) (f g g' : Nat → Fn) (j : Nat), cvP f (fun n m => g n m + g' n m) i j = cvP f g i j + cvP f g' i j
  | 0, f, g, g', j => cv_add_r j (f 0) (g 0) (g' 0)
  | i + 1, f, g, g', j => by rw [cvP_s, cvP_s, cvP_s, cvP_add_r i (fun n => f (n + 1)) g g' j, cv_add_r]; grind
/-- the parts that r doesn't divide, and the others -/
theorem parted (r : Nat) (f : Nat → Fn) (h : ¬ ∀ i j, (r : Int) ∣ f i j) : ∃ (u v : Nat → Fn) (a b : Nat), (f = fun n m => u n m + (r : Int) * v n m) ∧ (∀ k, k < a → u k = fun _ => 0) ∧ (∀ k, k < b → u a k = 0) ∧ ¬ (r : Int) ∣ u a b := by
  have h1 : ∃ i j, ¬ (r : Int) ∣ f i j := by
    refine Classical.byContradiction fun c => h fun i j => Classical.byContradiction fun d => c ⟨i, j, d⟩
  obtain ⟨a, ⟨b0, ha⟩, ma⟩ := least h1
  obtain ⟨b, hb, mb⟩ := least (p := fun b => ¬ (r : Int) ∣ f a b) ⟨b0, ha⟩
  refine ⟨fun n m => if (r : Int) ∣ f n m then 0 else f n m, fun n m => if (r : Int) ∣ f n m then f n m / r else 0, a, b, ?_, fun k hk => ?_, fun k hk => ?_, ?_⟩
  · funext n m
    dsimp only
    by_cases d : (r : Int) ∣ f n m
    · rw [if_pos d, if_pos d, Int.zero_add, Int.mul_ediv_cancel' d]
    · rw [if_neg d, if_neg d, Int.mul_zero, Int.add_zero]
  · funext m
    dsimp only
    rw [if_pos (Classical.byContradiction fun d => ma k hk ⟨m, d⟩)]
  · dsimp only
    rw [if_pos (Classical.byContradiction fun d => mb k hk d)]
  · dsimp only
    rw [if_neg hb]; exact hb
theorem prim_mul {r : Nat} (pr : Pm r) {f g : Nat → Fn} (hf : ¬ ∀ i j, (r : Int) ∣ f i j) (hg : ¬ ∀ i j, (r : Int) ∣ g i j) : ¬ ∀ i j, (r : Int) ∣ cvP f g i j := by
  intro h
  obtain ⟨u, v, a, b, e1, h1, h2, h3⟩ := parted r f hf
  obtain ⟨u', v', a', b', e1', h1', h2', h3'⟩ := parted r g hg
  have key := h (a + a') (b + b')
  have s1 : cvP f g (a + a') (b + b') = cvP u u' (a + a') (b + b') + (r : Int) * (cvP u v' (a + a') (b + b') + cvP v g (a + a') (b + b')) := by
    have z1 : cvP f g (a + a') (b + b') = cvP u g (a + a') (b + b') + (r : Int) * cvP v g (a + a') (b + b') := by
      conv => lhs; rw [e1]
      rw [cvP_add_l (a + a') u (fun n m => (r : Int) * v n m) g (b + b'), cvP_scl_l]
    have z2 : cvP u g (a + a') (b + b') = cvP u u' (a + a') (b + b') + (r : Int) * cvP u v' (a + a') (b + b') := by
      conv => lhs; rw [e1']
      rw [cvP_add_r (a + a') u u' (fun n m => (r : Int) * v' n m) (b + b'), cvP_scl_r]
    rw [z1, z2]; grind
  rw [s1, cvP_first a a' u u' _ h1 h1', cv_first b b' _ _ h2 h2'] at key
  have d := (Int.dvd_add_left (Int.dvd_mul_right (r : Int) _)).mp key
  rcases pm_mul pr d with d | d
  · exact h3 d
  · exact h3' d
theorem cf_zero {P : Pn} (h : cnt2 P = 0) : cf P = fun _ _ => 0 := by
  funext i j
  have := cnt2_co P i j
  rw [h] at this
  exact Int.zero_dvd.mp this
/-- .. of a product the product -/
theorem cnt2_mul (P Q : Pn) : cnt2 (mul2 P Q) = cnt2 P * cnt2 Q := by
  by_cases hP : cnt2 P = 0
  · refine cnt2_of (fun i j => ?_) fun d _ => by rw [hP, Nat.zero_mul]; exact Nat.dvd_zero d
    rw [co2_mul, cf_zero hP, cvP_zero]; exact Int.dvd_zero _
  by_cases hQ : cnt2 Q = 0
  · refine cnt2_of (fun i j => ?_) fun d _ => by rw [hQ, Nat.mul_zero]; exact Nat.dvd_zero d
    rw [co2_mul, cf_zero hQ, cvP_comm0]; exact Int.dvd_zero _
  have quo : ∀ {P : Pn}, cnt2 P ≠ 0 → ∃ f : Nat → Fn, (cf P = fun n m => (cnt2 P : Int) * f n m) ∧ ∀ d : Nat, (∀ i j, (d : Int) ∣ f i j) → d = 1 := by
    intro P h
    refine ⟨fun n m => co2 P n m / (cnt2 P : Int), by funext n m; exact (Int.mul_ediv_cancel' (cnt2_co P n m)).symm, fun d hd => ?_⟩
    have z : d * cnt2 P ∣ cnt2 P := cnt2_all fun i j => by
      obtain ⟨k, hk⟩ := hd i j
      refine ⟨k, ?_⟩
      have := Int.mul_ediv_cancel' (cnt2_co P i j)
      dsimp only at hk
      rw [hk] at this
      rw [← this, Int.natCast_mul]; grind
    obtain ⟨k, hk⟩ := z
    have : 1 * cnt2 P = d * k * cnt2 P := by rw [Nat.one_mul]; conv => lhs; rw [hk]
                                             grind
    have e := Nat.eq_of_mul_eq_mul_right (Nat.pos_of_ne_zero h) this
    exact Nat.eq_one_of_mul_eq_one_right e.symm
  obtain ⟨f, ef, pf⟩ := quo hP
  obtain ⟨g, eg, pg⟩ := quo hQ
  have all : ∀ i j, co2 (mul2 P Q) i j = ((cnt2 P * cnt2 Q : Nat) : Int) * cvP f g i j := fun i j => by
    rw [co2_mul, ef, eg, cvP_scl_l, cvP_scl_r, Int.natCast_mul]; grind
  have prim : ∀ d : Nat, (∀ i j, (d : Int) ∣ cvP f g i j) → d = 1 := by
    intro d hd
    have no : ∀ r, Pm r → ¬ ∀ i j, (r : Int) ∣ cvP f g i j := fun r hr => prim_mul hr (fun h => by have := pf r h; have := hr.1; omega) (fun h => by have := pg r h; have := hr.1; omega)
    by_cases h0 : d = 0
    · refine absurd (fun i j => ?_) (no 2 ⟨Nat.le_refl 2, fun d hd => ?_⟩)
      · have := hd i j
        rw [h0] at this
        rw [Int.zero_dvd.mp this]; exact Int.dvd_zero _
      · have := Nat.le_of_dvd (by decide) hd
        have : d ≠ 0 := fun e => by rw [e] at hd; exact absurd (Nat.eq_zero_of_zero_dvd hd) (by decide)
        omega
    · by_cases h1 : d = 1
      · exact h1
      · obtain ⟨r, hr, hrd⟩ := pm_ex d (by omega)
        exact absurd (fun i j => Int.dvd_trans (Int.natCast_dvd_natCast.mpr hrd) (hd i j)) (no r hr)
  refine cnt2_of (fun i j => by rw [all]; exact Int.dvd_mul_right _ _) fun d hd => ?_
  generalize hk : cnt2 P * cnt2 Q = k at all
  have k0 : 0 < k := by rw [← hk]; exact Nat.mul_pos (Nat.pos_of_ne_zero hP) (Nat.pos_of_ne_zero hQ)
  have gp : 0 < Nat.gcd d k := Nat.gcd_pos_of_pos_right _ k0
  have e := prim (d / Nat.gcd d k) fun i j => by
    have h := hd i j
    rw [all] at h
    have h2 : d ∣ k * (cvP f g i j).natAbs := by
      have := nd1 h
      rwa [Int.natAbs_mul, Int.natAbs_natCast] at this
    have h3 : d / Nat.gcd d k ∣ (k / Nat.gcd d k) * (cvP f g i j).natAbs := by
      obtain ⟨w, hw⟩ := h2
      refine ⟨w, ?_⟩
      have e1 := Nat.div_mul_cancel (Nat.gcd_dvd_left d k)
      have e2 := Nat.div_mul_cancel (Nat.gcd_dvd_right d k)
      refine Nat.eq_of_mul_eq_mul_right gp ?_
      calc k / Nat.gcd d k * (cvP f g i j).natAbs * Nat.gcd d k = (k / Nat.gcd d k * Nat.gcd d k) * (cvP f g i j).natAbs := by grind
        _ = d * w := by rw [e2, hw]
        _ = (d / Nat.gcd d k * Nat.gcd d k) * w := by rw [e1]
        _ = d / Nat.gcd d k * w * Nat.gcd d k := by grind
    exact nd2 (Nat.Coprime.dvd_of_dvd_mul_left (Nat.coprime_div_gcd_div_gcd gp) h3)
  have := Nat.div_mul_cancel (Nat.gcd_dvd_left d k)
  rw [e, Nat.one_mul] at this
  rw [← this]; exact Nat.gcd_dvd_right d k

/-! plain planes -/
def hd2 (P : Pn) : Int := co2 P (P.length - 1) ((ro P (P.length - 1)).length - 1)
def sg2 (P : Pn) : Int := if hd2 P < 0 then -(cnt2 P : Int) else cnt2 P
def pl2 (P : Pn) : Pn := P.map fun p => p.map fun z => z.fdiv (sg2 P)
theorem hd2_ne {P : Pn} (c : Cn2 P) (h : P ≠ []) : hd2 P ≠ 0 := cn_last (c.ro _) (cn2_last c h)
theorem mul2_length {P Q : Pn} (hp : P ≠ []) (hq : Q ≠ []) : (mul2 P Q).length = P.length + Q.length - 1 := by
  unfold mul2; rw [if_neg (fun e => e.elim hp hq), List.length_map, List.length_range]
theorem hd2_mul {P Q : Pn} (cp : Cn2 P) (cq : Cn2 Q) (hp : P ≠ []) (hq : Q ≠ []) : hd2 (mul2 P Q) = hd2 P * hd2 Q := by
  have lp : 0 < P.length := List.length_pos_iff.mpr hp
  have lq : 0 < Q.length := List.length_pos_iff.mpr hq
  have n1 := cn2_last cp hp
  have n2 := cn2_last cq hq
  have r1 : 0 < (ro P (P.length - 1)).length := List.length_pos_iff.mpr n1
  have r2 : 0 < (ro Q (Q.length - 1)).length := List.length_pos_iff.mpr n2
  have v := (cvP_vanish (P.length - 1) (Q.length - 1) (cf P) (cf Q) (fun k hk => by unfold cf; rw [ro_big (by omega), co_nil]) (fun k hk => by unfold cf; rw [ro_big (by omega), co_nil])).1
  have row : ro (mul2 P Q) (P.length - 1 + (Q.length - 1)) = mulF (ro P (P.length - 1)) (ro Q (Q.length - 1)) :=
    co_ext ((cn2_mul cp cq).ro _) (cn_mul (cp.ro _) (cq.ro _)) fun j => by
      rw [co_mul]
      exact (co2_mul P Q _ j).trans (v j)
  unfold hd2
  rw [mul2_length hp hq, show P.length + Q.length - 1 - 1 = P.length - 1 + (Q.length - 1) by omega]
  unfold co2
  rw [row, mulF_length n1 n2, show (ro P (P.length - 1)).length + (ro Q (Q.length - 1)).length - 1 - 1 = ((ro P (P.length - 1)).length - 1) + ((ro Q (Q.length - 1)).length - 1) by omega, co_mul]
  exact (cv_vanish _ _ _ _ (co_van _) (co_van _)).1
theorem cnt2_ne {P : Pn} (c : Cn2 P) (h : P ≠ []) : cnt2 P ≠ 0 := fun e => by
  have := cnt2_co P (P.length - 1) ((ro P (P.length - 1)).length - 1)
  rw [e] at this
  exact hd2_ne c h (Int.zero_dvd.mp this)
theorem sg2_abs (P : Pn) : (sg2 P).natAbs = cnt2 P := by unfold sg2; split <;> omega
theorem sg2_ne {P : Pn} (c : Cn2 P) (h : P ≠ []) : sg2 P ≠ 0 := fun e => by
  have := sg2_abs P
  rw [e] at this
  exact cnt2_ne c h this.symm
theorem sg2_dvd (P : Pn) (i j : Nat) : sg2 P ∣ co2 P i j := by
  unfold sg2
  split
  · exact Int.neg_dvd.mpr (cnt2_co P i j)
  · exact cnt2_co P i j
theorem co_mapI (f : Int → Int) (h0 : f 0 = 0) (p : List Int) (j : Nat) : co (p.map f) j = f (co p j) := by
  by_cases h : j < p.length
  · rw [co_at (by simpa using h), co_at h, List.getElem_map]
  · rw [co_big (by simp; omega), co_big (by omega), h0]
theorem ro_mapL (f : List Int → List Int) (h0 : f [] = []) (P : Pn) (i : Nat) : ro (P.map f) i = f (ro P i) := by
  by_cases h : i < P.length
  · rw [ro_at (by simpa using h), ro_at h, List.getElem_map]
  · rw [ro_big (by simp; omega), ro_big (by omega), h0]
theorem ro_pl2 (P : Pn) (i : Nat) : ro (pl2 P) i = (ro P i).map fun z => z.fdiv (sg2 P) := ro_mapL _ rfl P i
theorem co2_pl2 (P : Pn) (i j : Nat) : co2 (pl2 P) i j = (co2 P i j).fdiv (sg2 P) := by
  unfold co2
  rw [ro_pl2, co_mapI (fun z => z.fdiv (sg2 P)) (Int.zero_fdiv _)]
theorem sg_pl2 {P : Pn} (c : Cn2 P) (i j : Nat) : sg2 P * co2 (pl2 P) i j = co2 P i j := by
  by_cases h : P = []
  · subst h; rw [show pl2 [] = [] from rfl, co2_nil, Int.mul_zero]
  · rw [co2_pl2]
    obtain ⟨k, hk⟩ := sg2_dvd P i j
    rw [hk, Int.mul_fdiv_cancel_left k (sg2_ne c h)]
theorem pl2_length (P : Pn) : (pl2 P).length = P.length := by simp [pl2]
theorem cn2_pl {P : Pn} (c : Cn2 P) : Cn2 (pl2 P) := by
  refine ⟨fun p hp => ?_, fun p hp => ?_⟩
  · obtain ⟨q, hq, rfl⟩ := List.mem_map.mp hp
    obtain ⟨i, li, rfl⟩ := List.mem_iff_getElem.mp hq
    refine cn_of fun h0 e => ?_
    have hq0 : P[i] ≠ [] := fun z => h0 (by rw [z]; rfl)
    have hl := cn_last (c.row _ hq) hq0
    rw [List.length_map] at e
    have e2 := sg_pl2 c i (P[i].length - 1)
    unfold co2 at e2
    rw [ro_pl2, ro_at li, e, Int.mul_zero] at e2
    exact hl e2.symm
  · unfold pl2 at hp
    rw [List.getLast?_map] at hp
    obtain ⟨q, hq, rfl⟩ := Option.map_eq_some_iff.mp hp
    intro z
    exact c.last q hq (List.map_eq_nil_iff.mp z)
/-- the plain form of a product is the product of the plain forms -/
theorem pl2_mul {P Q : Pn} (cp : Cn2 P) (cq : Cn2 Q) : pl2 (mul2 P Q) = mul2 (pl2 P) (pl2 Q) := by
  by_cases hp : P = []
  · subst hp; unfold mul2; rw [if_pos (.inl rfl), if_pos (.inl rfl)]; rfl
  by_cases hq : Q = []
  · subst hq; unfold mul2; rw [if_pos (.inr rfl), if_pos (.inr rfl)]; rfl
  have cm := cn2_mul cp cq
  have hm : mul2 P Q ≠ [] := List.length_pos_iff.mp (by rw [mul2_length hp hq]; have := List.length_pos_iff.mpr hp; have := List.length_pos_iff.mpr hq; omega)
  have es : sg2 (mul2 P Q) = sg2 P * sg2 Q := by
    unfold sg2
    rw [hd2_mul cp cq hp hq, cnt2_mul]
    have h1 := hd2_ne cp hp
    have h2 := hd2_ne cq hq
    by_cases a : hd2 P < 0
    · by_cases b : hd2 Q < 0
      · rw [if_pos a, if_pos b, if_neg (Int.not_lt.mpr (Int.le_of_lt (Int.mul_pos_of_neg_of_neg a b)))]; rw [Int.neg_mul_neg, Int.natCast_mul]
      · rw [if_pos a, if_neg b, if_pos (Int.mul_neg_of_neg_of_pos a (by omega))]; simp [Int.neg_mul]
    · by_cases b : hd2 Q < 0
      · rw [if_neg a, if_pos b, if_pos (Int.mul_neg_of_pos_of_neg (by omega) b)]; simp [Int.mul_neg]
      · rw [if_neg a, if_neg b, if_neg (Int.not_lt.mpr (Int.mul_nonneg (by omega) (by omega)))]; simp
  refine co2_ext (cn2_pl cm) (cn2_mul (cn2_pl cp) (cn2_pl cq)) fun i j => ?_
  refine Int.eq_of_mul_eq_mul_left (sg2_ne cm hm) ?_
  rw [sg_pl2 cm, es, co2_mul, co2_mul]
  have e1 : cf P = fun n m => sg2 P * cf (pl2 P) n m := by funext n m; exact (sg_pl2 cp n m).symm
  have e2 : cf Q = fun n m => sg2 Q * cf (pl2 Q) n m := by funext n m; exact (sg_pl2 cq n m).symm
  conv => lhs; rw [e1, e2]
  rw [cvP_scl_l, cvP_scl_r]; grind
theorem bd2_pl {k : Nat} {P : Pn} (c : Cn2 P) (h : ∀ p ∈ P, Bd k p) : ∀ p ∈ pl2 P, Bd k p := fun p hp => by
  obtain ⟨q, hq, rfl⟩ := List.mem_map.mp hp
  intro z hz
  obtain ⟨w, hw, rfl⟩ := List.mem_map.mp hz
  have hP : P ≠ [] := by intro e; subst e; cases hq
  obtain ⟨i, li, rfl⟩ := List.mem_iff_getElem.mp hq
  obtain ⟨j, lj, rfl⟩ := List.mem_iff_getElem.mp hw
  have d := sg2_dvd P i j
  unfold co2 at d
  rw [ro_at li, co_at lj] at d
  obtain ⟨m, hm⟩ := d
  have b := h _ hq _ hw
  rw [hm] at b ⊢
  rw [Int.mul_fdiv_cancel_left m (sg2_ne c hP)]
  refine Nat.lt_of_le_of_lt ?_ b
  rw [Int.natAbs_mul]
  exact Nat.le_mul_of_pos_left _ (Nat.pos_of_ne_zero fun z => sg2_ne c hP (by omega))
theorem Dg.pl2 {n : Nat} {P : Pn} (d : Dg n P) : Dg n (pl2 P) := ⟨by rw [pl2_length]; exact d.x, fun p hp => by
  obtain ⟨q, hq, rfl⟩ := List.mem_map.mp hp
  rw [List.length_map]; exact d.y q hq⟩
theorem cnt2_le {P : Pn} (c : Cn2 P) (h : P ≠ []) {k : Nat} (b : ∀ p ∈ P, Bd k p) : cnt2 P < 2 ^ k := by
  have d := nd1 (cnt2_co P (P.length - 1) ((ro P (P.length - 1)).length - 1))
  have n := hd2_ne c h
  have l := Nat.le_of_dvd (by unfold hd2 at n; omega) d
  refine Nat.lt_of_le_of_lt l ?_
  have lp : 0 < P.length := List.length_pos_iff.mpr h
  unfold co2
  rw [ro_at (by omega)]
  exact (b _ (List.getElem_mem _)).co _
end Kr
/-! Tables at their places, and what is promised of them. -/
namespace Kr
open PySem PySem.Spec PyProof.Rows L2

theorem hu1 {A : Around} {k : Nat} (hr : Room k A) : A.units + 1 < cLine := by have := hr.units; omega
theorem hu2 {A : Around} {k : Nat} (hr : Room k A) : A.units + 2 < cLine := by have := hr.units; omega
theorem ix_tupK {X : Cx} {K : PySem.W.Frag} (h : X.K = K) : IxR X (rIxT K) := by subst h; exact ix_tup
theorem ix_sqK {X : Cx} {K : PySem.W.Frag} (h : X.K = K) : IxR X (rIxSq K) := by subst h; exact ix_sq
theorem take_mapG {α : Type} (f : List Int → α) {P : Pn} {i : Nat} (l : i < P.length) : (P.take (i + 1)).map f = (P.take i).map f ++ [f (ro P i)] := by rw [take_ro l, List.map_append]; rfl
def rLenS (K : PySem.W.Frag) : List V → Hp → VK → Prop := fun xs H Q => ∃ p ys, xs = [V.ref p] ∧ (SqL K H p ys ∨ SqT K H p ys) ∧ Q (V.int ↑ys.length) H
theorem call_lenK {X : Cx} {K : PySem.W.Frag} (h : X.K = K) : CallR X (.builtin "len") (rLenS K) := by subst h; exact call_len_seq
theorem pi_sqK {X : Cx} {K : PySem.W.Frag} {tg l : Expr} {tl : TE} (h : X.K = K) (hl : PE X l tl) : PI X tg l (iSq K tl) := by subst h; exact pi_sq hl
def encT (T : Tm) : List (List Key × V) := T.map fun x => (pairKey x.1, V.int x.2)
theorem pairKey_inj {p q : Pr} (h : pairKey p = pairKey q) : p = q := by
  obtain ⟨a, b⟩ := p
  obtain ⟨c, d⟩ := q
  unfold pairKey at h
  simp only [List.cons.injEq, Sum.inl.injEq, and_true] at h
  rw [show a = c by omega, show b = d by omega]
theorem enc_any (T : Tm) (p : Pr) : ((encT T).any fun kv => decide (kv.1 = pairKey p)) = T.any fun x => decide (x.1 = p) := by
  unfold encT
  rw [List.any_map]
  congr 1
  funext x
  show decide (pairKey x.1 = pairKey p) = decide (x.1 = p)
  by_cases e : x.1 = p
  · rw [decide_eq_true e, decide_eq_true (by rw [e])]
  · rw [decide_eq_false e, decide_eq_false (fun z => e (pairKey_inj z))]
theorem enc_put (T : Tm) (p : Pr) (z : Int) : putK (encT T) (pairKey p) (.int z) = encT (putT T p z) := by
  unfold putK putT
  rw [enc_any]
  split
  · unfold encT
    rw [List.map_map, List.map_map]
    refine List.map_congr_left fun x _ => ?_
    show (if pairKey x.1 = pairKey p then (pairKey x.1, V.int z) else (pairKey x.1, V.int x.2)) = (pairKey (if x.1 = p then (x.1, z) else x).1, V.int (if x.1 = p then (x.1, z) else x).2)
    by_cases e : x.1 = p
    · rw [if_pos e, if_pos (by rw [e])]
    · rw [if_neg e, if_neg (fun z => e (pairKey_inj z))]
  · unfold encT
    rw [List.map_append]; rfl
theorem enc_val : ∀ (T : Tm) (p : Pr), (valV (encT T) (pairKey p)).getD (.int 0) = .int (cT T p)
  | [], p => rfl
  | x :: T, p => by
    by_cases e : x.1 = p
    · rw [show encT (x :: T) = (pairKey x.1, V.int x.2) :: encT T from rfl, valV_pos (by rw [e]), cT, if_pos e]; rfl
    · rw [show encT (x :: T) = (pairKey x.1, V.int x.2) :: encT T from rfl, valV_neg (fun z => e (pairKey_inj z)), enc_val T p, cT, if_neg e]
theorem enc_get : ∀ {T : Tm} {x : Pr × Int}, (ksT T).Nodup → x ∈ T → valV (encT T) (pairKey x.1) = some (.int x.2)
  | y :: T, x, nd, h => by
    obtain ⟨n1, n2⟩ := List.nodup_cons.mp (show (y.1 :: ksT T).Nodup from nd)
    rw [show encT (y :: T) = (pairKey y.1, V.int y.2) :: encT T from rfl]
    rcases List.mem_cons.mp h with e | e
    · rw [e, valV_pos rfl]
    · rw [valV_neg (fun z => n1 (by rw [pairKey_inj z]; exact List.mem_map_of_mem e)), enc_get n2 e]
theorem nodup_inj {α β : Type} {f : α → β} : ∀ {l m : List α}, (m.map f).Nodup → (∀ x ∈ l, x ∈ m) → l.Nodup → (l.map f).Nodup
  | [], _, _, _, _ => List.nodup_nil
  | a :: l, m, hm, hs, hl => by
    obtain ⟨n1, n2⟩ := List.nodup_cons.mp hl
    refine List.nodup_cons.mpr ⟨fun z => ?_, nodup_inj hm (fun x hx => hs x (List.mem_cons_of_mem _ hx)) n2⟩
    obtain ⟨b, hb, e⟩ := List.mem_map.mp z
    have key : ∀ {m : List α}, (m.map f).Nodup → ∀ x ∈ m, ∀ y ∈ m, f x = f y → x = y := by
      intro m
      induction m with
      | nil => intro _ x hx; cases hx
      | cons c m ih =>
        intro h x hx y hy e
        obtain ⟨q1, q2⟩ := List.nodup_cons.mp (show (f c :: m.map f).Nodup from h)
        rcases List.mem_cons.mp hx with e1 | e1
        · rcases List.mem_cons.mp hy with e2 | e2
          · rw [e1, e2]
          · exact absurd (by rw [← e1, e]; exact List.mem_map_of_mem e2) q1
        · rcases List.mem_cons.mp hy with e2 | e2
          · exact absurd (by rw [← e2, ← e]; exact List.mem_map_of_mem e1) q1
          · exact ih q2 x e1 y e2 e
    have := key hm b (hs b (List.mem_cons_of_mem _ hb)) a (hs a List.mem_cons_self) e
    exact n1 (by rw [← this]; exact hb)
theorem enc_keys (T : Tm) : (encT T).map (·.1) = (ksT T).map pairKey := by unfold encT ksT; rw [List.map_map, List.map_map]; rfl
theorem enc_nd {T : Tm} (nd : (ksT T).Nodup) : ((encT T).map (·.1)).Nodup := by
  rw [enc_keys]
  have key : ∀ l : List Pr, l.Nodup → (l.map pairKey).Nodup := by
    intro l
    induction l with
    | nil => exact fun _ => List.nodup_nil
    | cons a l ih =>
      intro h
      obtain ⟨n1, n2⟩ := List.nodup_cons.mp h
      refine List.nodup_cons.mpr ⟨fun z => ?_, ih n2⟩
      obtain ⟨b, hb, e⟩ := List.mem_map.mp z
      exact n1 (by rw [← pairKey_inj e]; exact hb)
  exact key _ nd
theorem enc_merge {T : Tm} (nd : (ksT T).Nodup) : mergeT [] (encT T) = encT T := by
  rw [mergeT_new (encT T) [] (by rw [List.nil_append]; exact enc_nd nd)]; rfl
theorem enc_hash {P : Program} {w : World} {T : Tm} (k : Ks T) : ((encT T).map fun kv => (tupleKind (mixKind P w)).hash kv.1).Nodup := by
  have e : ((encT T).map fun kv => (tupleKind (mixKind P w)).hash kv.1) = (ksT T).map pairHash := by
    unfold encT ksT
    rw [List.map_map, List.map_map]
    rfl
  rw [e]
  exact nodup_inj hash9 (fun p hp => mem_pairs9 (k.lt p hp).1 (k.lt p hp).2) k.nd

/-! at their places -/
def TabF (H : Hp) (a : Addr) (T : Tm) : Prop := ∃ o, H a = some (.frz o (.dT (encT T)))
theorem TabF.same {H H' : Hp} {a : Addr} {T : Tm} (s : Same H H') : TabF H a T → TabF H' a T
  | ⟨o, e⟩ => ⟨o, s _ _ e⟩
theorem TabF.chg {c : Addr} {H H' : Hp} {a : Addr} {T : Tm} (s : Chg c H H') (n : a ≠ c) : TabF H a T → TabF H' a T
  | ⟨o, e⟩ => ⟨o, s _ _ n e⟩
theorem TabF.get {H : Hp} {a q : Addr} {T : Tm} {p : Pr} (h : TabF H a T) (hq : H q = some (.tup [.int (p.1 : Int), .int (p.2 : Int)])) : DGet H a (.ref q) (valV (encT T) (pairKey p)) := by
  obtain ⟨o, e⟩ := h
  exact .inr ⟨encT T, pairKey p, q, .inr ⟨o, e⟩, rfl, hq, rfl⟩
theorem TabF.ne {H : Hp} {a b : Addr} {T : Tm} (h : TabF H a T) (n : H b = none) : a ≠ b := by
  obtain ⟨o, e⟩ := h
  exact ne_of_none e n
def TabP (H : Hp) (a : Addr) (P : Pn) : Prop := ∃ T, TabF H a T ∧ Tells T P
theorem TabP.same {H H' : Hp} {a : Addr} {P : Pn} (s : Same H H') : TabP H a P → TabP H' a P
  | ⟨T, h, t⟩ => ⟨T, h.same s, t⟩
theorem TabP.chg {c : Addr} {H H' : Hp} {a : Addr} {P : Pn} (s : Chg c H H') (n : a ≠ c) : TabP H a P → TabP H' a P
  | ⟨T, h, t⟩ => ⟨T, h.chg s n, t⟩
theorem TabP.ne {H : Hp} {a b : Addr} {P : Pn} (h : TabP H a P) (n : H b = none) : a ≠ b := by
  obtain ⟨T, h, _⟩ := h
  exact h.ne n
abbrev NewT (H : Hp) (P : Pn) (Q : VK) : Prop := ∀ H' a, Same H H' → H a = none → TabP H' a P → Q (.ref a) H'
theorem NewT.go {H H1 : Hp} {P : Pn} {Q : VK} (q : NewT H P Q) (s : Same H H1) : NewT H1 P Q := fun H' a s1 n e => q H' a (Same.trans s s1) (s.free n) e
/-- one key after another -/
theorem for_keysT {d : Addr} {o : Obj} {T : Tm} {g : TG} {tb : TS} {D : Ends} {σ : L2.St} {H : Hp} (Pv : Nat → L2.St → Hp → Prop) (h0 : Pv 0 σ H)
    (hl : ∀ i σ H, i ≤ T.length → Pv i σ H → H d = some (.frz o (.dT (encT T))))
    (hs : ∀ i (l : i < T.length) (q : Addr) σ H, H q = some (.tup [.int (T[i].1.1 : Nat), .int (T[i].1.2 : Nat)]) → Pv i σ H → g (.ref q) σ H fun σ2 H2 => tb { D with nx := Pv (i + 1), ct := Pv (i + 1), bk := D.nx } σ2 H2)
    (hd : ∀ σ H, Pv T.length σ H → D.nx σ H) :
    ∃ W : Nat → Nat → L2.St → Hp → Prop, (∃ m, W 0 m σ H) ∧ ∀ i m σ H, W i m σ H →
      ((Itkt d o (encT T)).stop i H ∧ D.nx σ H) ∨ ((Itkt d o (encT T)).go i H ∧ ∃ N : L2.St → Hp → Prop, (∀ σ' H', N σ' H' → ∃ m', m' < m ∧ W (i + 1) m' σ' H') ∧
        ∀ x H', (Itkt d o (encT T)).yld i H x H' → g x σ H' fun σ2 H2 => tb { D with nx := N, ct := N, bk := D.nx } σ2 H2) := by
  have le : (encT T).length = T.length := by simp [encT]
  refine ⟨fun i m σ H => m = T.length - i ∧ i ≤ T.length ∧ Pv i σ H, ⟨T.length, by simp, Nat.zero_le _, h0⟩, ?_⟩
  rintro i m σ H ⟨rfl, hi, p⟩
  have q := hl i σ H hi p
  by_cases hlt : i < T.length
  · refine .inr ⟨⟨q, by omega⟩, Pv (i + 1), fun σ' H' p' => ⟨T.length - (i + 1), by omega, rfl, hlt, p'⟩, ?_⟩
    rintro x H' ⟨rfl, k, v, a, e1, rfl, e2⟩
    have e3 : (encT T)[i]? = some (pairKey T[i].1, V.int T[i].2) := by simp [encT, hlt]
    rw [e3] at e1
    cases e1
    exact hs i hlt a σ _ e2 p
  · obtain rfl : i = T.length := by omega
    exact .inl ⟨⟨q, by omega⟩, hd σ H p⟩
theorem lc_keysT {d : Addr} {o : Obj} {T : Tm} {g : TG} {tt : TT} {te : TE} {vs : List Nat} {σ : L2.St} {H1 : Hp} {D : Addr} {Qd : Hp → Prop} (Pv : Nat → Hp → Prop) (h0 : Pv 0 (upd H1 D (.lst [])))
    (hl : ∀ i H, i ≤ T.length → Pv i H → H d = some (.frz o (.dT (encT T))))
    (hs : ∀ i (l : i < T.length) (q : Addr) H, H q = some (.tup [.int (T[i].1.1 : Nat), .int (T[i].1.2 : Nat)]) → Pv i H → g (.ref q) (wipe σ vs) H fun σ2 H2 => wipe σ2 vs = wipe σ vs ∧ tt σ2 H2 fun b H3 =>
      if b = true then te σ2 H3 fun y H4 => ∃ acc, H4 D = some (.lst acc) ∧ acc.length < sizeLine ∧ Pv (i + 1) (upd H4 D (.lst (acc ++ [y]))) else Pv (i + 1) H3) (hd : ∀ H, Pv T.length H → Qd H) :
    ∃ W : Nat → Nat → Hp → Prop, (∃ m, W 0 m (upd H1 D (.lst []))) ∧ ∀ i m H, W i m H →
      ((Itkt d o (encT T)).stop i H ∧ Qd H) ∨ ((Itkt d o (encT T)).go i H ∧ ∃ Nx : Hp → Prop, (∀ H', Nx H' → ∃ m', m' < m ∧ W (i + 1) m' H') ∧ ∀ x H', (Itkt d o (encT T)).yld i H x H' → g x (wipe σ vs) H' fun σ2 H2 => wipe σ2 vs = wipe σ vs ∧ tt σ2 H2 fun b H3 =>
        if b = true then te σ2 H3 fun y H4 => ∃ acc, H4 D = some (.lst acc) ∧ acc.length < sizeLine ∧ Nx (upd H4 D (.lst (acc ++ [y]))) else Nx H3) := by
  have le : (encT T).length = T.length := by simp [encT]
  refine ⟨fun i m H => m = T.length - i ∧ i ≤ T.length ∧ Pv i H, ⟨T.length, by simp, Nat.zero_le _, h0⟩, ?_⟩
  rintro i m H ⟨rfl, hi, p⟩
  have q := hl i H hi p
  by_cases hlt : i < T.length
  · refine .inr ⟨⟨q, by omega⟩, Pv (i + 1), fun H' p' => ⟨T.length - (i + 1), by omega, rfl, hlt, p'⟩, ?_⟩
    rintro x H' ⟨rfl, k, v, a, e1, rfl, e2⟩
    have e3 : (encT T)[i]? = some (pairKey T[i].1, V.int T[i].2) := by simp [encT, hlt]
    rw [e3] at e1
    cases e1
    exact hs i hlt a _ e2 p
  · obtain rfl : i = T.length := by omega
    exact .inl ⟨⟨q, by omega⟩, hd H p⟩

/-! promises -/
def spBare : Sp := fun vs H Q _ => ∃ (a : Addr) (T : Tm) (P : Pn), vs = [.ref a] ∧ TabF H a T ∧ Ks T ∧ Cn2 P ∧ (∀ i j, cT T (i, j) = co2 P i j) ∧ NewT H P Q
def spPlus : Sp := fun vs H Q _ => ∃ (a b : Addr) (P R : Pn) (f : Int), vs = [.ref a, .ref b, .int f] ∧ TabP H a P ∧ TabP H b R ∧ Bd2 big R ∧ f.natAbs < 2 ^ big ∧ NewT H (trim2 (add2 P (scl2 f R))) Q
def spTimesT : Sp := fun vs H Q _ => ∃ (a b : Addr) (P R : Pn) (n m : Nat), vs = [.ref a, .ref b] ∧ TabP H a P ∧ TabP H b R ∧ Dg n P ∧ Dg m R ∧ n + m ≤ 8 ∧ Bd2 big P ∧ Bd2 big R ∧ NewT H (mul2 P R) Q
def spAt : Sp := fun vs H Q _ => ∃ (a : Addr) (s : Nat) (v : Int) (P : Pn), vs = [.ref a, .int (s : Nat), .int v] ∧ TabP H a P ∧ s < 2 ∧ Bd2 big P ∧ v.natAbs < 2 ^ 1000 ∧ NewL H (if s = 0 then atX v P else atY v P) Q
def spSlopeT : Sp := fun vs H Q _ => ∃ (a : Addr) (s : Nat) (P : Pn), vs = [.ref a, .int (s : Nat)] ∧ TabP H a P ∧ s < 2 ∧ Bd2 big P ∧ NewT H (if s = 0 then slx P else sly P) Q
def spListed : Sp := fun vs H Q _ => ∃ (a : Addr) (P : Pn), vs = [.ref a] ∧ TabP H a P ∧ NewP H P Q
def spValueT : Sp := fun vs H Q _ => ∃ (a : Addr) (x y : Int) (P : Pn), vs = [.ref a, .int x, .int y] ∧ TabP H a P ∧ Bd2 100000 P ∧ x.natAbs < 2 ^ 1000 ∧ y.natAbs < 2 ^ 1000 ∧ ∀ H', Same H H' → Q (.int (plv x y P)) H'
/-- a drawn piece -/
structure Pc (P : Pn) : Prop where
  cn : Cn2 P
  ne : P ≠ []
  dg : Dg 2 P
  bd : Bd2 3 P
def spPiece : Sp := fun vs H Q _ => ∃ a : Addr, vs = [.ref a] ∧ PotAt H a ∧ ∀ (H' : Hp) (r : Addr) (P : Pn), Chg a H H' → PotAt H' a → H r = none → r ≠ a → TabP H' r P → Pc P → Q (.ref r) H'
def prod2 (Ps : List Pn) : Pn := Ps.foldl mul2 [[1]]
/-- tables in a list -/
def Tabs' (H : Hp) (as : List Addr) (Ps : List Pn) : Prop := Paired (fun a P => TabP H a P) as Ps
def spProduct : Sp := fun vs H Q _ => ∃ (l : Addr) (as : List Addr) (Ps : List Pn), vs = [.ref l] ∧ H l = some (.lst (as.map V.ref)) ∧ Tabs' H as Ps ∧ (∀ P ∈ Ps, Pc P) ∧ Ps.length ≤ 2 ∧ NewT H (prod2 Ps) Q
/-- .. handed in -/
def spGiven : Sp := fun vs H Q _ => ∃ (a b : Addr) (rs : Rf) (P : Pn), vs = [.ref a, .ref b] ∧ PotAt H a ∧ b ≠ a ∧ At2 false H b rs P ∧ (∀ x ∈ rs, x.1 = false ∧ x.2 ≠ a) ∧ Dg 20 P ∧
  ∀ (H' : Hp) (r : Addr) (k : Bool) (ss : Rf), Chg a H H' → PotAt H' a → H r = none → r ≠ a → At2 k H' r ss P → (∀ x ∈ ss, H x.2 = none ∧ x.2 ≠ a) → Q (.ref r) H'

/-! planes that are handed to the program -/
structure Pl8 (k : Bool) (H : Hp) (a : Addr) (rs : Rf) (P : Pn) : Prop where
  at_ : At2 k H a rs P
  cn : Cn2 P
  dg : Dg 8 P
  bd : Bd2 100000 P
theorem Pl8.same {k : Bool} {H H' : Hp} {a : Addr} {rs : Rf} {P : Pn} (s : Same H H') (h : Pl8 k H a rs P) : Pl8 k H' a rs P := ⟨h.at_.same s, h.cn, h.dg, h.bd⟩
theorem Dg.small {n : Nat} {P : Pn} (d : Dg n P) (h : n ≤ 199) : small2 P := ⟨by have := d.x; omega, fun p hp => by have := d.y p hp; omega⟩
theorem Pl8.sm {k : Bool} {H : Hp} {a : Addr} {rs : Rf} {P : Pn} (h : Pl8 k H a rs P) : small2 P := h.dg.small (by decide)
theorem Bd2.mono {k j : Nat} {P : Pn} (h : Bd2 k P) (l : k ≤ j) : Bd2 j P := fun p hp => (h p hp).mono l
theorem Pl8.big {k : Bool} {H : Hp} {a : Addr} {rs : Rf} {P : Pn} (h : Pl8 k H a rs P) : Bd2 big P := fun p hp => bd_big (h.bd p hp) (by decide)
theorem At2.kd {k : Bool} {H : Hp} {a : Addr} {rs : Rf} {P : Pn} (h : At2 k H a rs P) : ∃ z, Kd H (.ref a) z ∧ isLT z = true := by
  cases k with
  | true => exact ⟨_, .tup h.top, by decide⟩
  | false => exact ⟨_, .lst h.top, by decide⟩
theorem Pl8.ln {k : Bool} {H : Hp} {a : Addr} {rs : Rf} {P : Pn} (h : Pl8 k H a rs P) {i : Nat} {k' : Bool} {b : Addr} (e : At k' H b (ro P i)) : Ln k' H b (ro P i) :=
  ⟨e, h.cn.ro i, by have := h.dg.ro i; omega, Bd2.ro h.bd i⟩
/-- the last row -/
theorem At2.last {k : Bool} {H : Hp} {a : Addr} {rs : Rf} {P : Pn} (h : At2 k H a rs P) (n : P ≠ []) : ∃ k' b, atI (rfs rs) (-1) = some (.ref b) ∧ At k' H b (ro P (P.length - 1)) := by
  have l : 0 < P.length := List.length_pos_iff.mpr n
  have lr := h.len
  obtain ⟨k', b, e, hb⟩ := h.rows.ats (i := P.length - 1) (by omega)
  refine ⟨k', b, ?_, hb⟩
  have hv : (rfs rs)[(rfs rs).length - 1]? = some (.ref b) := by rw [lr]; simp [rfs, e]
  exact atI_neg hv (List.length_pos_iff.mp (by omega))
def spTrue1 : Sp := fun vs H Q _ => ∃ (k : Bool) (a : Addr) (rs : Rf) (P : Pn), vs = [.ref a] ∧ Pl8 k H a rs P ∧ ∀ H', Same H H' → Q (.bl true) H'
def spChkP : Sp := fun vs H Q _ => ∃ (k : Bool) (a : Addr) (rs : Rf) (P : Pn), vs = [.ref a] ∧ Pl8 k H a rs P ∧ ∀ H', Same H H' → Q .non H'
def spChkPs : Sp := fun vs H Q _ => ∃ (k j : Bool) (a b : Addr) (rs ss : Rf) (P R : Pn), vs = [.ref a, .ref b] ∧ Pl8 k H a rs P ∧ Pl8 j H b ss R ∧ ∀ H', Same H H' → Q .non H'
def spChkD : Sp := fun vs H Q _ => ∃ (a : Addr) (x y m : Int), vs = [.ref a, .int m] ∧ H a = some (.tup [.int x, .int y]) ∧ x ≤ m ∧ y ≤ m ∧ Q .non H
/-- the greatest length of a row -/
def wid : Pn → Nat
  | [] => 0
  | p :: P => max p.length (wid P)
theorem wid_le : ∀ {P : Pn} {n : Nat}, (∀ p ∈ P, p.length ≤ n) → wid P ≤ n
  | [], n, _ => Nat.zero_le _
  | p :: P, n, h => by
    have h1 := h p List.mem_cons_self
    have h2 := wid_le (P := P) (n := n) fun q hq => h q (List.mem_cons_of_mem _ hq)
    unfold wid; omega
theorem le_wid : ∀ {P : Pn} {p : List Int}, p ∈ P → p.length ≤ wid P
  | q :: P, p, h => by
    unfold wid
    rcases List.mem_cons.mp h with e | e
    · rw [e]; omega
    · have := le_wid e; omega
theorem wid_max {P : Pn} {m : Int} (h : m ∈ P.map fun p => (p.length : Int)) (g : ∀ y ∈ P.map fun p => (p.length : Int), y ≤ m) : m = (wid P : Nat) := by
  obtain ⟨p, hp, rfl⟩ := List.mem_map.mp h
  have h1 := le_wid hp
  have h2 : wid P ≤ p.length := wid_le fun q hq => by have := g _ (List.mem_map_of_mem hq); omega
  omega
def spDegs : Sp := fun vs H Q _ => ∃ (k : Bool) (a : Addr) (rs : Rf) (P : Pn), vs = [.ref a] ∧ At2 k H a rs P ∧ small2 P ∧
  ∀ H' t, Same H H' → H t = none → H' t = some (.tup [.int ((P.length : Int) - 1), .int ((wid P : Int) - 1)]) → Q (.ref t) H'
def spGPlain : Sp := fun vs H Q _ => ∃ (k : Bool) (a : Addr) (rs : Rf) (P : Pn), vs = [.ref a] ∧ At2 k H a rs P ∧ small2 P ∧ Cn2 P ∧ Bd2 8000 P ∧ NewP H (pl2 P) Q
def spP1 (f : Pn → Pn) (c : Pn → Prop) : Sp := fun vs H Q _ => ∃ (k : Bool) (a : Addr) (rs : Rf) (P : Pn), vs = [.ref a] ∧ Pl8 k H a rs P ∧ c P ∧ NewP H (f P) Q
def spP2 (f : Pn → Pn → Pn) (c : Pn → Pn → Prop) : Sp := fun vs H Q _ => ∃ (k j : Bool) (a b : Addr) (rs ss : Rf) (P R : Pn), vs = [.ref a, .ref b] ∧ Pl8 k H a rs P ∧ Pl8 j H b ss R ∧ c P R ∧ NewP H (f P R) Q
def spPV : Sp := fun vs H Q _ => ∃ (k : Bool) (a : Addr) (rs : Rf) (P : Pn) (x y : Int), vs = [.ref a, .int x, .int y] ∧ Pl8 k H a rs P ∧ x.natAbs < 2 ^ 1000 ∧ y.natAbs < 2 ^ 1000 ∧ ∀ H', Same H H' → Q (.int (plv x y P)) H'
def spPAt (f : Int → Pn → List Int) : Sp := fun vs H Q _ => ∃ (k : Bool) (a : Addr) (rs : Rf) (P : Pn) (x : Int), vs = [.ref a, .int x] ∧ Pl8 k H a rs P ∧ x.natAbs < 2 ^ 1000 ∧ NewL H (f x P) Q

/-! pieces of walks over tables -/
theorem TabF.at {H : Hp} {a q : Addr} {T : Tm} (h : TabF H a T) (nd : (ksT T).Nodup) {i : Nat} (l : i < T.length) (hq : H q = some (.tup [.int (T[i].1.1 : Nat), .int (T[i].1.2 : Nat)])) : DGet H a (.ref q) (some (.int T[i].2)) := by
  have z := h.get (p := T[i].1) hq
  rwa [enc_get nd (List.getElem_mem l)] at z
theorem getF {H : Hp} {o q : Addr} {F : Tm} {p : Pr} (e : H o = some (.dT (encT F))) (hq : H q = some (.tup [.int (p.1 : Int), .int (p.2 : Int)])) : DGet H o (.ref q) (valV (encT F) (pairKey p)) := .inr ⟨encT F, pairKey p, q, .inl e, rfl, hq, rfl⟩
theorem isF {H : Hp} {o : Addr} {F : Tm} (e : H o = some (.dT (encT F))) : IsD H o := .inr ⟨_, .inl e⟩
theorem isFz {H : Hp} {o : Addr} {T : Tm} (e : TabF H o T) : IsD H o := by
  obtain ⟨z, e⟩ := e
  exact .inr ⟨_, .inr ⟨z, e⟩⟩
theorem putF {H : Hp} {o q : Addr} {F : Tm} {p : Pr} {z : Int} (e : H o = some (.dT (encT F))) (hq : H q = some (.tup [.int (p.1 : Int), .int (p.2 : Int)])) (k : Ks F) : DPut H o (.ref q) (.int z) (upd H o (.dT (encT (putT F p z)))) := by
  have l : (encT F).length < sizeLine := by
    have := k.len
    have h : (encT F).length = F.length := by simp [encT]
    rw [h]; exact small1000 (by omega)
  have z' := DPut.t (v := .int z) (k := pairKey p) e (show H q = some (.tup ((pairKey p).map kV)) from hq) l
  rwa [enc_put] at z'
/-- pairs (key, number) in a list that is being made at D -/
def PrsT (D : Addr) (H : Hp) (ps : List Addr) (L : Tm) : Prop := Paired (fun (p : Addr) (x : Pr × Int) => ∃ b, b ≠ D ∧ p ≠ D ∧ H b = some (.tup [.int (x.1.1 : Nat), .int (x.1.2 : Nat)]) ∧ H p = some (.tup [.ref b, .int x.2])) ps L
theorem PrsT.mono {D : Addr} {H H' : Hp} (k : ∀ b o, b ≠ D → H b = some o → H' b = some o) : ∀ {ps : List Addr} {L : Tm}, PrsT D H ps L → PrsT D H' ps L
  | _, _, .nil => .nil
  | _, _, .cons ⟨b, n1, n2, e1, e2⟩ r => .cons ⟨b, n1, n2, k _ _ n1 e1, k _ _ n2 e2⟩ (PrsT.mono k r)
theorem PrsT.snoc {D : Addr} {H : Hp} {p : Addr} {x : Pr × Int} (h : ∃ b, b ≠ D ∧ p ≠ D ∧ H b = some (.tup [.int (x.1.1 : Nat), .int (x.1.2 : Nat)]) ∧ H p = some (.tup [.ref b, .int x.2])) : ∀ {ps : List Addr} {L : Tm}, PrsT D H ps L → PrsT D H (ps ++ [p]) (L ++ [x])
  | _, _, .nil => .cons h .nil
  | _, _, .cons g r => .cons g (PrsT.snoc h r)
theorem PrsT.enc {K : PySem.W.Frag} {D : Addr} {H : Hp} : ∀ {ps : List Addr} {L : Tm}, PrsT D H ps L → Paired (fun p kv => ∃ b, H b = some (.tup (kv.1.map kV)) ∧ SqT K H p [.ref b, kv.2]) ps (encT L)
  | _, _, .nil => .nil
  | _, _, .cons ⟨b, _, _, e1, e2⟩ r => .cons ⟨b, e1, SqT.of e2⟩ (PrsT.enc r)
theorem PrsT.len {D : Addr} {H : Hp} : ∀ {ps : List Addr} {L : Tm}, PrsT D H ps L → ps.length = L.length
  | _, _, .nil => rfl
  | _, _, .cons _ r => by rw [List.length_cons, List.length_cons, PrsT.len r]
theorem filter_take {T : Tm} {i : Nat} (l : i < T.length) (f : Pr × Int → Bool) : (T.take (i + 1)).filter f = if f T[i] = true then (T.take i).filter f ++ [T[i]] else (T.take i).filter f := by
  rw [take_T l, List.filter_append]
  by_cases e : f T[i] = true
  · rw [if_pos e, List.filter_cons, if_pos e]; rfl
  · rw [if_neg e, List.filter_cons, if_neg e]; simp
theorem len_filter {T : Tm} (k : Ks T) (i : Nat) (f : Pr × Int → Bool) : ((T.take i).filter f).length ≤ 81 :=
  Nat.le_trans (List.length_filter_le _ _) (by rw [List.length_take]; have := k.len; omega)
/-- how many rows, how long a row -/
theorem Tells.top {T : Tm} {P : Pn} (t : Tells T P) {m : Int} (h : m ∈ (0 : Int) :: T.map fun x => (x.1.1 : Int) + 1) (g : ∀ y ∈ (0 : Int) :: T.map fun x => (x.1.1 : Int) + 1, y ≤ m) : m = (P.length : Nat) := by
  have up : m ≤ P.length := by
    rcases List.mem_cons.mp h with e | e
    · rw [e]; omega
    · obtain ⟨x, hx, rfl⟩ := List.mem_map.mp e
      have := (t.key hx).2.1
      omega
  have lo : (P.length : Int) ≤ m := by
    by_cases hn : P = []
    · rw [hn]; exact g 0 List.mem_cons_self
    · have h1 := cn2_last t.cn hn
      have h2 := cn_last (t.cn.ro _) h1
      have l := List.length_pos_iff.mpr hn
      have h3 : cT T (P.length - 1, (Kr.ro P (P.length - 1)).length - 1) ≠ 0 := by rw [t.co]; exact h2
      obtain ⟨x, hx, e, _⟩ := cT_mem h3
      have := g _ (List.mem_cons_of_mem _ (List.mem_map_of_mem hx))
      rw [e] at this
      try dsimp only at this
      omega
  omega
theorem Tells.row {T : Tm} {P : Pn} (t : Tells T P) (i : Nat) {m : Int} (h : m ∈ (0 : Int) :: (T.filter fun x => decide (V.int (x.1.1 : Nat) = V.int (i : Nat))).map fun x => (x.1.2 : Int) + 1)
    (g : ∀ y ∈ (0 : Int) :: (T.filter fun x => decide (V.int (x.1.1 : Nat) = V.int (i : Nat))).map fun x => (x.1.2 : Int) + 1, y ≤ m) : m = ((Kr.ro P i).length : Nat) := by
  have up : m ≤ (Kr.ro P i).length := by
    rcases List.mem_cons.mp h with e | e
    · rw [e]; omega
    · obtain ⟨x, hx, rfl⟩ := List.mem_map.mp e
      obtain ⟨hx, hi⟩ := List.mem_filter.mp hx
      have e2 : x.1.1 = i := by have := V.int.inj (of_decide_eq_true hi); omega
      have := (t.key hx).2.2
      rw [e2] at this
      omega
  have lo : ((Kr.ro P i).length : Int) ≤ m := by
    by_cases hn : Kr.ro P i = []
    · rw [hn]; exact g 0 List.mem_cons_self
    · have h2 := cn_last (t.cn.ro i) hn
      have l := List.length_pos_iff.mpr hn
      have h3 : cT T (i, (Kr.ro P i).length - 1) ≠ 0 := by rw [t.co]; exact h2
      obtain ⟨x, hx, e, _⟩ := cT_mem h3
      have e1 : x.1.1 = i := by rw [e]
      have e2 : x.1.2 = (Kr.ro P i).length - 1 := by rw [e]
      have := g _ (List.mem_cons_of_mem _ (List.mem_map_of_mem (List.mem_filter.mpr ⟨hx, by rw [e1]; exact decide_eq_true rfl⟩)))
      try dsimp only at this
      omega
  omega
/-- lists of pairs, written out -/
def tTups : List Pr → TA
  | [] => tNil
  | p :: ps => tCons (tTup (tCons (tC (.int (p.1 : Nat))) (tCons (tC (.int (p.2 : Nat))) tNil))) (tTups ps)
def tLists : List (List Pr) → TA
  | [] => tNil
  | ps :: r => tCons (tLst (tTups ps)) (tLists r)
abbrev AtTups (H : Hp) (ts : List Addr) (ps : List Pr) : Prop := Paired (fun (t : Addr) (p : Pr) => H t = some (.tup [.int (p.1 : Nat), .int (p.2 : Nat)])) ts ps
theorem AtTups.same {H H' : Hp} (s : Same H H') : ∀ {ts : List Addr} {ps : List Pr}, AtTups H ts ps → AtTups H' ts ps
  | _, _, .nil => .nil
  | _, _, .cons e r => .cons (s _ _ e) (AtTups.same s r)
theorem mkTups {σ : L2.St} : ∀ (ps : List Pr) {H : Hp} {Q : List V → Hp → Prop}, (∀ H' ts, Same H H' → AtTups H' ts ps → Q (ts.map V.ref) H') → tTups ps σ H Q
  | [], H, Q, q => q H [] (Same.refl H) .nil
  | p :: ps, H, Q, q => by
    refine ⟨by show 2 ≤ sizeLine; decide, fun t nt => mkTups ps fun H' ts s h => ?_⟩
    exact q H' (t :: ts) (Same.trans (Same.put nt) s) (.cons (s _ _ upd_same) h)
abbrev AtLists (H : Hp) (ls : List Addr) (pss : List (List Pr)) : Prop := Paired (fun (l : Addr) (ps : List Pr) => ∃ ts : List Addr, H l = some (.lst (ts.map V.ref)) ∧ AtTups H ts ps) ls pss
theorem mkLists {σ : L2.St} : ∀ (pss : List (List Pr)) {H : Hp} {Q : List V → Hp → Prop}, (∀ ps ∈ pss, ps.length ≤ 1000) → (∀ H' ls, Same H H' → AtLists H' ls pss → Q (ls.map V.ref) H') → tLists pss σ H Q
  | [], H, Q, _, q => q H [] (Same.refl H) .nil
  | ps :: r, H, Q, hl, q => by
    refine mkTups ps fun H1 ts s1 h1 => ?_
    have len : (ts.map V.ref).length ≤ 1000 := by rw [List.length_map, Paired.length h1]; exact hl ps List.mem_cons_self
    refine ⟨Nat.le_of_lt (small1000 len), fun l nl => mkLists r (fun p hp => hl p (List.mem_cons_of_mem _ hp)) fun H2 ls s2 h2 => ?_⟩
    exact q H2 (l :: ls) (Same.trans s1 (Same.trans (Same.put nl) s2)) (.cons ⟨ts, s2 _ _ upd_same, (h1.same (Same.put nl)).same s2⟩ h2)
def shapes : List (List Pr) := [[(1, 0), (0, 1), (0, 0)], [(1, 1), (0, 0), (1, 0)], [(2, 0), (0, 1), (0, 0)], [(1, 0), (0, 2), (0, 0)], [(2, 0), (0, 2), (0, 0)], [(1, 0), (0, 0)]]
theorem shapes_ok : ∀ ps ∈ shapes, ps ≠ [] ∧ ps.length ≤ 3 ∧ ∀ p ∈ ps, p.1 ≤ 2 ∧ p.2 ≤ 2 := by decide
theorem bd2_of {k : Nat} {P : Pn} (h : ∀ i j, (co2 P i j).natAbs < 2 ^ k) : Bd2 k P := fun p hp => bd_of fun j => by
  obtain ⟨i, li, rfl⟩ := List.mem_iff_getElem.mp hp
  have := h i j
  unfold co2 at this
  rwa [ro_at li] at this
theorem Bd2.co {k : Nat} {P : Pn} (h : Bd2 k P) (i j : Nat) : (co2 P i j).natAbs < 2 ^ k := (h.ro i).co j
theorem Tells.bd {T : Tm} {P : Pn} (t : Tells T P) {k : Nat} (h : Bd2 k P) {x : Pr × Int} (hx : x ∈ T) : x.2.natAbs < 2 ^ k := by
  have := h.co x.1.1 x.1.2
  rwa [(t.key hx).1] at this

theorem key_oth {p : Pr} {s : Nat} (h : s < 2) : atI [V.int (p.1 : Nat), V.int (p.2 : Nat)] (1 - (s : Int)) = some (.int ((if s = 0 then p.2 else p.1 : Nat) : Int)) := by
  rcases (show s = 0 ∨ s = 1 by omega) with e | e <;> subst e <;> rfl
theorem key_spt {p : Pr} {s : Nat} (h : s < 2) : atI [V.int (p.1 : Nat), V.int (p.2 : Nat)] (s : Int) = some (.int ((if s = 0 then p.1 else p.2 : Nat) : Int)) := by
  rcases (show s = 0 ∨ s = 1 by omega) with e | e <;> subst e <;> rfl
theorem natAbs_pow' (v : Int) : ∀ j : Nat, (v ^ j).natAbs = v.natAbs ^ j
  | 0 => by simp
  | j + 1 => by rw [Int.pow_succ, Nat.pow_succ, Int.natAbs_mul, natAbs_pow' v j]
theorem pow_bd {v : Int} {k j : Nat} (h : v.natAbs < 2 ^ k) (l : k * j + 1 ≤ 60000000) : (v ^ j).natAbs < 2 ^ big := by
  refine pow_big (k := k * j + 1) ?_ l
  rw [natAbs_pow']
  have h1 : v.natAbs ^ j ≤ (2 ^ k) ^ j := Nat.pow_le_pow_left (Nat.le_of_lt h) j
  rw [← Nat.pow_mul] at h1
  exact Nat.lt_of_le_of_lt h1 (Nat.pow_lt_pow_right (by decide) (by omega))
theorem cn_atX (v : Int) : ∀ P : Pn, Cn (atX v P)
  | [] => cn_nil
  | _ :: _ => cn_trim _
def gA (s : Nat) (v : Int) (n : Nat) : Pr → Int := if s = 0 then gX v n else gY v n
theorem gA_at (s : Nat) (v : Int) (n : Nat) (p : Pr) : gA s v n p = if n = (if s = 0 then p.2 else p.1) then v ^ (if s = 0 then p.1 else p.2) else 0 := by
  unfold gA gX gY
  by_cases h : s = 0
  · rw [if_pos h, if_pos h, if_pos h]
    by_cases e : p.2 = n
    · rw [if_pos e, if_pos e.symm]
    · rw [if_neg e, if_neg (fun z => e z.symm)]
  · rw [if_neg h, if_neg h, if_neg h]
    by_cases e : p.1 = n
    · rw [if_pos e, if_pos e.symm]
    · rw [if_neg e, if_neg (fun z => e z.symm)]
theorem at_end {U : Tm} {P : Pn} (t : Tells U P) {s : Nat} {v : Int} {L : List Int} (h : ∀ n, co L n = sT (gA s v n) U) : trim L = if s = 0 then atX v P else atY v P := by
  by_cases e : s = 0
  · rw [if_pos e]
    refine co_ext (cn_trim _) (cn_atX v P) fun n => ?_
    rw [co_trim, h, ← t.at_x]
    unfold gA
    rw [if_pos e]
  · rw [if_neg e]
    refine co_ext (cn_trim _) (cn_trim _) fun n => ?_
    rw [co_trim, h]
    unfold gA
    rw [if_neg e, t.at_y]
theorem sT_take (g : Pr → Int) {U : Tm} {i : Nat} (l : i < U.length) : sT g (U.take (i + 1)) = sT g (U.take i) + U[i].2 * g U[i].1 := by rw [take_T l, sT_snoc]
theorem Pc.of {F : Tm} (k : Ks F) (h : ∀ p ∈ ksT F, p.1 ≤ 2 ∧ p.2 ≤ 2) (b : ∀ p, (cT F p).natAbs ≤ 4) {p : Pr} (hp : cT F p ≠ 0) : Pc (plT F) where
  cn := cn2_trim2 _
  ne := fun e => hp (by have := co2_plT k p.1 p.2; rw [e, co2_nil] at this; exact this.symm)
  dg := Dg.of (cn2_trim2 _) fun i j hij => by
    rw [co2_plT k] at hij
    obtain ⟨x, hx, e, _⟩ := cT_mem hij
    have := h x.1 (List.mem_map_of_mem hx)
    rw [e] at this
    exact this
  bd := bd2_of fun i j => by rw [co2_plT k]; exact Nat.lt_of_le_of_lt (b _) (by decide)

theorem AtTups.chg {a : Addr} {H H' : Hp} (c : Chg a H H') (p : PotAt H a) : ∀ {ts : List Addr} {ps : List Pr}, AtTups H ts ps → AtTups H' ts ps
  | _, _, .nil => .nil
  | _, _, .cons e r => .cons (c _ _ (by obtain ⟨x, y, z, _⟩ := p; exact ne_of e z (fun w => nomatch w)) e) (AtTups.chg c p r)
theorem AtTups.ov {o : Addr} {H : Hp} {F : List (List Key × V)} {u : HO} (e : H o = some (.dT F)) : ∀ {ts : List Addr} {ps : List Pr}, AtTups H ts ps → AtTups (upd H o u) ts ps
  | _, _, .nil => .nil
  | _, _, .cons h r => .cons (by rw [upd_ne (ne_of h e (fun w => nomatch w))]; exact h) (AtTups.ov e r)
theorem PotAt.up {H : Hp} {a o : Addr} {u : HO} (p : PotAt H a) (n : a ≠ o) : PotAt (upd H o u) a := by
  obtain ⟨x, y, e, r⟩ := p
  exact ⟨x, y, by rw [upd_ne n]; exact e, r⟩
theorem tells_one : Tells [((0, 0), 1)] [[1]] := by
  refine ⟨⟨by simp [ksT], fun p hp => ?_⟩, fun x hx => ?_, ⟨fun p hp => ?_, fun p hp => ?_⟩, fun i j => ?_⟩
  · have : p = (0, 0) := by simpa [ksT] using hp
    rw [this]; decide
  · have : x = ((0, 0), 1) := by simpa using hx
    rw [this]; decide
  · have : p = [1] := by simpa using hp
    rw [this]
    intro z hz
    have : 1 = z := by simpa using hz
    rw [← this]; decide
  · have : [1] = p := by simpa using hp
    rw [← this]; simp
  · rw [cT]
    cases i with
    | zero =>
      rw [co2_0]
      cases j with
      | zero => rfl
      | succ j => rw [if_neg (by simp), co_s, co_nil]; rfl
    | succ i => rw [co2_s, co2_nil, if_neg (by simp)]; rfl
theorem cvP_bd {k l : Nat} : ∀ (i : Nat) (f g : Nat → Fn) (j : Nat), (∀ n m, (f n m).natAbs < 2 ^ k) → (∀ n m, (g n m).natAbs < 2 ^ l) → (cvP f g i j).natAbs ≤ (i + 1) * ((j + 1) * 2 ^ (k + l))
  | 0, f, g, j, hf, hg => by
    have := cv_bd j (f 0) (g 0) (hf 0) (hg 0)
    rw [cvP]; omega
  | i + 1, f, g, j, hf, hg => by
    have h1 := cv_bd j (f 0) (g (i + 1)) (hf 0) (hg _)
    have h2 := cvP_bd i (fun n => f (n + 1)) g j (fun n => hf _) hg
    rw [cvP_s]
    have h3 := Int.natAbs_add_le (cv (f 0) (g (i + 1)) j) (cvP (fun n => f (n + 1)) g i j)
    rw [show (i + 1 + 1) * ((j + 1) * 2 ^ (k + l)) = (i + 1) * ((j + 1) * 2 ^ (k + l)) + (j + 1) * 2 ^ (k + l) by rw [Nat.add_mul, Nat.one_mul]]
    omega
theorem bd2_mul {k l : Nat} {P R : Pn} (hP : Bd2 k P) (hR : Bd2 l R) (d : Dg 8 (mul2 P R)) : Bd2 (k + l + 7) (mul2 P R) := bd2_of fun i j => by
  by_cases hi : i < 9
  · by_cases hj : j < 9
    · rw [co2_mul]
      have h := cvP_bd i (cf P) (cf R) j (fun n m => hP.co n m) (fun n m => hR.co n m)
      refine Nat.lt_of_le_of_lt h ?_
      rw [Nat.pow_add 2 (k + l) 7, ← Nat.mul_assoc, Nat.mul_comm]
      refine Nat.mul_lt_mul_of_pos_left ?_ (Nat.two_pow_pos _)
      have := Nat.mul_le_mul (show i + 1 ≤ 9 by omega) (show j + 1 ≤ 9 by omega)
      omega
    · have : co2 (mul2 P R) i j = 0 := co_big (by have := d.ro i; omega)
      rw [this]; exact Nat.two_pow_pos _
  · rw [co2_big (by have := d.x; omega)]; exact Nat.two_pow_pos _
theorem mul2_ne {P Q : Pn} (hp : P ≠ []) (hq : Q ≠ []) : mul2 P Q ≠ [] := List.length_pos_iff.mp (by
  rw [mul2_length hp hq]
  have := List.length_pos_iff.mpr hp
  have := List.length_pos_iff.mpr hq
  omega)
structure Pd (n : Nat) (P : Pn) : Prop where
  cn : Cn2 P
  ne : P ≠ []
  dg : Dg n P
  bd : Bd2 (1 + 5 * n) P
theorem pd_one : Pd 0 [[1]] := ⟨tells_one.cn, by decide, ⟨by decide, fun p hp => by rw [show p = [1] by simpa using hp]; decide⟩, fun p hp => by
  rw [show p = [1] by simpa using hp]
  intro z hz
  rw [show z = 1 by simpa using hz]; decide⟩
theorem Pd.step {n : Nat} {P R : Pn} (h : Pd n P) (r : Pc R) (l : n + 2 ≤ 8) : Pd (n + 2) (mul2 P R) := by
  have d := h.dg.mul r.dg
  exact ⟨cn2_mul h.cn r.cn, mul2_ne h.ne r.ne, d, (bd2_mul h.bd r.bd (d.mono l)).mono (by omega)⟩
theorem prod_pd : ∀ (Ps : List Pn) (i : Nat), (∀ P ∈ Ps, Pc P) → i ≤ Ps.length → i ≤ 4 → Pd (2 * i) (prod2 (Ps.take i))
  | Ps, 0, _, _, _ => by rw [List.take_zero]; exact pd_one
  | Ps, i + 1, h, l, l4 => by
    have ih := prod_pd Ps i h (by omega) (by omega)
    have li : i < Ps.length := l
    have e : Ps.take (i + 1) = Ps.take i ++ [Ps[i]] := by rw [List.take_add_one, List.getElem?_eq_getElem li]; rfl
    unfold prod2 at ih ⊢
    rw [e, List.foldl_append]
    exact ih.step (h _ (List.getElem_mem li)) (by omega)

@[irreducible] def tL (pss : List (List Pr)) : TA := tLists pss
theorem tL_eq (pss : List (List Pr)) : tL pss = tLists pss := by unfold tL; rfl
theorem mkL {σ : L2.St} (pss : List (List Pr)) {H : Hp} {Q : List V → Hp → Prop} (hl : ∀ ps ∈ pss, ps.length ≤ 1000) (q : ∀ H' ls, Same H H' → AtLists H' ls pss → Q (ls.map V.ref) H') : tL pss σ H Q := by
  rw [tL_eq]; exact mkLists pss hl q
theorem shapes_eq : (tCons (tLst (tCons (tTup (tCons (tC (V.int 1)) (tCons (tC (V.int 0)) tNil))) (tCons (tTup (tCons (tC (V.int 0)) (tCons (tC (V.int 1)) tNil))) (tCons (tTup (tCons (tC (V.int 0)) (tCons (tC (V.int 0)) tNil))) tNil)))) (tCons (tLst (tCons (tTup (tCons (tC (V.int 1)) (tCons (tC (V.int 1)) tNil))) (tCons (tTup (tCons (tC (V.int 0)) (tCons (tC (V.int 0)) tNil))) (tCons (tTup (tCons (tC (V.int 1)) (tCons (tC (V.int 0)) tNil))) tNil)))) (tCons (tLst (tCons (tTup (tCons (tC (V.int 2)) (tCons (tC (V.int 0)) tNil))) (tCons (tTup (tCons (tC (V.int 0)) (tCons (tC (V.int 1)) tNil))) (tCons (tTup (tCons (tC (V.int 0)) (tCons (tC (V.int 0)) tNil))) tNil)))) (tCons (tLst (tCons (tTup (tCons (tC (V.int 1)) (tCons (tC (V.int 0)) tNil))) (tCons (tTup (tCons (tC (V.int 0)) (tCons (tC (V.int 2)) tNil))) (tCons (tTup (tCons (tC (V.int 0)) (tCons (tC (V.int 0)) tNil))) tNil)))) (tCons (tLst (tCons (tTup (tCons (tC (V.int 2)) (tCons (tC (V.int 0)) tNil))) (tCons (tTup (tCons (tC (V.int 0)) (tCons (tC (V.int 2)) tNil))) (tCons (tTup (tCons (tC (V.int 0)) (tCons (tC (V.int 0)) tNil))) tNil)))) (tCons (tLst (tCons (tTup (tCons (tC (V.int 1)) (tCons (tC (V.int 0)) tNil))) (tCons (tTup (tCons (tC (V.int 0)) (tCons (tC (V.int 0)) tNil))) tNil))) tNil)))))) = tL shapes := by rw [tL_eq]; rfl
end Kr
/-! Planes shown, planes held against each other. -/
namespace Kr
open PySem PySem.Spec PyProof.Rows L2

structure Okd (d : PyData) (n m : Nat) : Prop where
  sh : d.showable = true
  hd : d.hasDict = false
  dp : d.depth ≤ n
  ls : d.leavesShort 20 = true
  bk : d.bulk ≤ m
  ly : d.canLay0 = true
theorem okd_int {z : Int} (h : z.natAbs < 2 ^ 63) : Okd (.int z) 1 0 := by
  have h19 : z.natAbs < 10 ^ 19 := Nat.lt_of_lt_of_le h (by decide)
  refine ⟨?_, by simp [PyData.hasDict], by simp [PyData.depth], ?_, by simp [PyData.bulk], by simp [PyData.canLay0]⟩
  · have hl : z.natAbs.log2 < 1920 := by
      by_cases z0 : z.natAbs = 0
      · rw [z0]; decide
      · exact (Nat.log2_lt z0).mpr (Nat.lt_of_lt_of_le h (Nat.pow_le_pow_right (by decide) (by decide)))
    simpa [PyData.showable] using hl
  · have e := PySem.int_text_length_le10 (k := 19) (by decide) h19
    have e2 : (PyData.shown (.int z)).length ≤ 20 := by
      show (Str.ofString (toString z)).length ≤ 20
      rw [PySem.ofString_length]; exact e
    simpa only [PyData.leavesShort, decide_eq_true_eq] using e2
theorem okd_all {n m : Nat} : ∀ {ds : List PyData}, (∀ d ∈ ds, Okd d n m) → PyData.showableAll ds = true ∧ PyData.hasDictAll ds = false ∧ PyData.depthAll ds ≤ n ∧ PyData.leavesShortAll 20 ds = true ∧ PyData.bulkAll ds ≤ (m + 1) * ds.length ∧ PyData.canLayAll0 ds = true
  | [], _ => ⟨by simp [PyData.showableAll], by simp [PyData.hasDictAll], by simp [PyData.depthAll], by simp [PyData.leavesShortAll], by simp [PyData.bulkAll], by simp [PyData.canLayAll0]⟩
  | d :: ds, h => by
    obtain ⟨h1, h2, h3, h4, h5, h6⟩ := okd_all (ds := ds) fun x hx => h x (List.mem_cons_of_mem _ hx)
    have o := h d List.mem_cons_self
    have ob := o.bk
    have od := o.dp
    refine ⟨by simp [PyData.showableAll, o.sh, h1], by simp [PyData.hasDictAll, o.hd, h2], ?_, by simp [PyData.leavesShortAll, o.ls, h4], ?_, by simp [PyData.canLayAll0, o.ly, h6]⟩
    · simp only [PyData.depthAll]; omega
    · simp only [PyData.bulkAll, List.length_cons, Nat.mul_add, Nat.mul_one]; omega
def seqD (k : Bool) (ds : List PyData) : PyData :=
  match k with | true => .tuple ds | false => .list ds
theorem okd_seq {n m : Nat} {k : Bool} {ds : List PyData} (h : ∀ d ∈ ds, Okd d n m) : Okd (seqD k ds) (n + 1) ((m + 1) * ds.length) := by
  obtain ⟨h1, h2, h3, h4, h5, h6⟩ := okd_all h
  cases k with
  | true => exact ⟨by simpa [seqD, PyData.showable] using h1, by simpa [seqD, PyData.hasDict] using h2, by simp only [seqD, PyData.depth]; omega, by simpa [seqD, PyData.leavesShort] using h4, by simpa [seqD, PyData.bulk] using h5, by simpa [seqD, PyData.canLay0] using h6⟩
  | false => exact ⟨by simpa [seqD, PyData.showable] using h1, by simpa [seqD, PyData.hasDict] using h2, by simp only [seqD, PyData.depth]; omega, by simpa [seqD, PyData.leavesShort] using h4, by simpa [seqD, PyData.bulk] using h5, by simpa [seqD, PyData.canLay0] using h6⟩
theorem Okd.mono {d : PyData} {n m n' m' : Nat} (h : Okd d n m) (a : n ≤ n') (b : m ≤ m') : Okd d n' m' := ⟨h.sh, h.hd, Nat.le_trans h.dp a, h.ls, Nat.le_trans h.bk b, h.ly⟩
theorem Okd.shown {K : PySem.W.Frag} {H : Hp} {a : Addr} {d : PyData} {n m : Nat} (h : Okd d n m) (p : Dp K H (.ref a) d) (hn : n ≤ 60) (hm : m ≤ 100000) : Sh K H (.ref a) d.shown := by
  refine .dat p h.sh h.hd (Nat.le_trans h.dp hn) ?_
  have e := PyData.shown_le_bulk 20 (by decide) d h.ls
  have b := h.bk
  rw [sizeLine_eq]
  omega
theorem Okd.shaped {d : PyData} {n m : Nat} (h : Okd d n m) (hn : n ≤ 64) : SeqAt.shaped d = true := by
  unfold SeqAt.shaped
  rw [h.ly, Bool.true_and]
  exact decide_eq_true (Nat.le_trans h.dp hn)
theorem okd_line {k : Bool} {p : List Int} (h : Bd 63 p) : Okd (dOf k p) 2 p.length := by
  have := okd_seq (k := k) (n := 1) (m := 0) (ds := p.map PyData.int) fun d hd => by
    obtain ⟨z, hz, rfl⟩ := List.mem_map.mp hd
    exact okd_int (h z hz)
  have e : seqD k (p.map PyData.int) = dOf k p := by cases k <;> rfl
  rw [e, List.length_map, Nat.zero_add, Nat.one_mul] at this
  exact this
/-- a plane as data -/
def rowsD : Rf → Pn → List PyData
  | x :: rs, p :: P => dOf x.1 p :: rowsD rs P
  | _, _ => []
theorem rowsD_mem : ∀ {rs : Rf} {P : Pn} {d : PyData}, d ∈ rowsD rs P → ∃ k p, p ∈ P ∧ d = dOf k p
  | x :: rs, p :: P, d, h => by
    rcases List.mem_cons.mp h with e | e
    · exact ⟨x.1, p, List.mem_cons_self, e⟩
    · obtain ⟨k, q, hq, e⟩ := rowsD_mem e
      exact ⟨k, q, List.mem_cons_of_mem _ hq, e⟩
  | [], _, d, h => by cases h
  | _ :: _, [], d, h => by cases h
theorem rowsD_len : ∀ (rs : Rf) (P : Pn), (rowsD rs P).length ≤ P.length
  | x :: rs, p :: P => by rw [rowsD, List.length_cons, List.length_cons]; have := rowsD_len rs P; omega
  | [], _ => Nat.zero_le _
  | _ :: _, [] => Nat.zero_le _
theorem Rows.dp {K : PySem.W.Frag} {H : Hp} : ∀ {rs : Rf} {P : Pn}, Rows H rs P → DpAll K H (rfs rs) (rowsD rs P)
  | _, _, .nil => .nil
  | _, _, .cons a r => .cons a.d r.dp
theorem At2.dp {K : PySem.W.Frag} {k : Bool} {H : Hp} {a : Addr} {rs : Rf} {P : Pn} (h : At2 k H a rs P) : Dp K H (.ref a) (seqD k (rowsD rs P)) := by
  cases k with
  | true => exact .tup (SqT.of h.top) h.rows.dp
  | false => exact .lst (SqL.of h.top) h.rows.dp
theorem okd_plane {k : Bool} {rs : Rf} {P : Pn} (d : Dg 8 P) (b : Bd2 63 P) : Okd (seqD k (rowsD rs P)) 3 100 := by
  have := okd_seq (k := k) (n := 2) (m := 9) (ds := rowsD rs P) fun x hx => by
    obtain ⟨k, p, hp, rfl⟩ := rowsD_mem hx
    exact (okd_line (b p hp)).mono (Nat.le_refl _) (d.y p hp)
  refine this.mono (Nat.le_refl _) ?_
  have l := rowsD_len rs P
  have := d.x
  have := Nat.mul_le_mul_left (9 + 1) (show (rowsD rs P).length ≤ 9 by omega)
  omega
/-- .. all rows lists -/
theorem rowsD_new {rs : Rf} {P : Pn} {H : Hp} (r : Rows H rs P) (n : ∀ x ∈ rs, x.1 = false) : rowsD rs P = P.map (dOf false) := by
  induction r with
  | nil => rfl
  | @cons x p rs P a r ih =>
    rw [rowsD, List.map_cons, n x List.mem_cons_self, ih fun y hy => n y (List.mem_cons_of_mem _ hy)]
def dP (P : Pn) : PyData := .list (P.map (dOf false))
theorem At2.dpn {K : PySem.W.Frag} {H : Hp} {a : Addr} {rs : Rf} {P : Pn} (h : At2 false H a rs P) (n : ∀ x ∈ rs, x.1 = false) : Dp K H (.ref a) (dP P) := by
  have z := h.dp (K := K)
  rw [show seqD false (rowsD rs P) = dP P by unfold seqD dP; rw [rowsD_new h.rows n]] at z
  exact z
theorem okd_dP {P : Pn} (d : Dg 8 P) (b : Bd2 63 P) : Okd (dP P) 3 100 := by
  have := okd_seq (k := false) (n := 2) (m := 9) (ds := P.map (dOf false)) fun x hx => by
    obtain ⟨p, hp, rfl⟩ := List.mem_map.mp hx
    exact (okd_line (b p hp)).mono (Nat.le_refl _) (d.y p hp)
  refine this.mono (Nat.le_refl _) ?_
  have := d.x
  rw [List.length_map]
  have := Nat.mul_le_mul_left (9 + 1) (show P.length ≤ 9 by omega)
  omega
/-- a plane in a slot, told as new -/
structure Nw (H : Hp) (a : Addr) (P : Pn) : Prop where
  ex : ∃ rs, At2 false H a rs P ∧ (∀ x ∈ rs, x.1 = false) ∧ (rs.map (·.2)).Nodup
theorem Nw.of {H : Hp} {a : Addr} {rs : Rf} {P : Pn} (h : At2 false H a rs P) {H0 : Hp} {o : Addr} (n : ∀ x ∈ rs, x.1 = false ∧ H0 x.2 = none ∧ x.2 ≠ o) (nd : (rs.map (·.2)).Nodup) : Nw H a P := ⟨rs, h, fun x hx => (n x hx).1, nd⟩
theorem Nw.same {H H' : Hp} {a : Addr} {P : Pn} (s : Same H H') : Nw H a P → Nw H' a P
  | ⟨rs, h, n, d⟩ => ⟨rs, h.same s, n, d⟩
theorem Nw.dp {K : PySem.W.Frag} {H : Hp} {a : Addr} {P : Pn} : Nw H a P → Dp K H (.ref a) (dP P)
  | ⟨rs, h, n, _⟩ => h.dpn n
theorem eqv_dP {P : Pn} (d : Dg 8 P) (b : Bd2 63 P) : PyData.eqv (dP P) (dP P) = true := PySem.SeqAt.eqv_refl _ (okd_dP d b).ly
theorem neP {K : PySem.W.Frag} {H : Hp} {a b : Addr} {P R : Pn} {Q : VK} (h : Nw H a P) (g : Nw H b R) (d : Dg 8 P) (z : Bd2 63 P) (e : P = R) (q : Q (.bl false) H) : rNeD K (.ref a) (.ref b) H Q := by
  subst e
  have o := okd_dP d z
  exact ⟨_, _, h.dp, g.dp, o.shaped (by decide), o.shaped (by decide), by rw [eqv_dP d z]; exact q⟩
theorem eqP {K : PySem.W.Frag} {H : Hp} {a b : Addr} {P R : Pn} {Q : VK} (h : Nw H a P) (g : Nw H b R) (d : Dg 8 P) (z : Bd2 63 P) (e : P = R) (q : Q (.bl true) H) : rEqD K (.ref a) (.ref b) H Q := by
  subst e
  have o := okd_dP d z
  exact ⟨_, _, h.dp, g.dp, o.shaped (by decide), o.shaped (by decide), by rw [eqv_dP d z]; exact q⟩
theorem Pl8.new {H : Hp} {a : Addr} {P : Pn} (h : Nw H a P) (c : Cn2 P) (d : Dg 8 P) (b : Bd2 100000 P) : ∃ rs, Pl8 false H a rs P := by
  obtain ⟨rs, h, _⟩ := h
  exact ⟨rs, h, c, d, b⟩
/-- three planes in a list -/
theorem okd_three {A B C : Pn} (a : Okd (dP A) 3 100) (b : Okd (dP B) 3 100) (c : Okd (dP C) 3 100) : Okd (.list [dP A, dP B, dP C]) 4 303 :=
  okd_seq (k := false) (n := 3) (m := 100) (ds := [dP A, dP B, dP C]) fun d hd => by
    have : d = dP A ∨ d = dP B ∨ d = dP C := by simpa using hd
    rcases this with e | e | e <;> rw [e] <;> assumption
theorem okd_two {A B : PyData} (a : Okd A 3 100) (b : Okd B 3 100) : Okd (.list [A, B]) 4 202 :=
  okd_seq (k := false) (n := 3) (m := 100) (ds := [A, B]) fun d hd => by
    have : d = A ∨ d = B := by simpa using hd
    rcases this with e | e <;> rw [e] <;> assumption
theorem okd_line3 {k : Bool} {p : List Int} (h : Bd 63 p) (l : p.length ≤ 100) : Okd (dOf k p) 3 100 := (okd_line h).mono (by decide) l
theorem okd_int3 {z : Int} (h : z.natAbs < 2 ^ 63) : Okd (.int z) 3 100 := (okd_int h).mono (by decide) (by decide)

/-! tables that a law draws -/
structure Sd (P : Pn) : Prop where
  cn : Cn2 P
  dg : Dg 4 P
  bd : Bd2 21 P
theorem tells_nil : Tells [] [] := ⟨Ks.nil, fun x h => (by cases h), cn2_nil, fun i j => by rw [co2_nil]; rfl⟩
theorem sd_nil : Sd [] := ⟨cn2_nil, ⟨by decide, fun p h => (by cases h)⟩, fun p h => (by cases h)⟩
theorem tells_num {v : Int} (h : v ≠ 0) : Tells [((0, 0), v)] [[v]] := by
  refine ⟨⟨by simp [ksT], fun p hp => ?_⟩, fun x hx => ?_, ⟨fun p hp => ?_, fun p hp => ?_⟩, fun i j => ?_⟩
  · have : p = (0, 0) := by simpa [ksT] using hp
    rw [this]; decide
  · have : x = ((0, 0), v) := by simpa using hx
    rw [this]; exact h
  · have : p = [v] := by simpa using hp
    rw [this]
    intro z hz
    have : v = z := by simpa using hz
    rw [← this]; exact h
  · have : [v] = p := by simpa using hp
    rw [← this]; simp
  · rw [cT]
    cases i with
    | zero =>
      rw [co2_0]
      cases j with
      | zero => rfl
      | succ j => rw [if_neg (by simp), co_s, co_nil]; rfl
    | succ i => rw [co2_s, co2_nil, if_neg (by simp)]; rfl
theorem sd_num {v : Int} (h : v ≠ 0) (l : v.natAbs ≤ 7) : Sd [[v]] := ⟨(tells_num h).cn, ⟨Nat.le_add_left 1 4, fun p hp => by rw [show p = [v] by simpa using hp]; exact Nat.le_add_left 1 4⟩, fun p hp => by
  rw [show p = [v] by simpa using hp]
  intro z hz
  rw [show z = v by simpa using hz]
  exact Nat.lt_of_le_of_lt l (by decide)⟩
theorem Pd.sd {n : Nat} {P : Pn} (h : Pd n P) (l : n ≤ 4) : Sd P := ⟨h.cn, h.dg.mono l, h.bd.mono (by omega)⟩
theorem TabP.pot {a c : Addr} {H H' : Hp} {P : Pn} (s : Chg a H H') (p : PotAt H a) (h : TabP H c P) : TabP H' c P := by
  obtain ⟨T, ⟨o, e⟩, t⟩ := h
  obtain ⟨x, y, z, _⟩ := p
  exact ⟨T, ⟨o, s _ _ (ne_of e z (fun w => nomatch w)) e⟩, t⟩
theorem TabP.ovl {c o : Addr} {H : Hp} {P : Pn} {xs : List V} {u : HO} (h : TabP H c P) (e : H o = some (.lst xs)) : TabP (upd H o u) c P := by
  obtain ⟨T, ⟨z, g⟩, t⟩ := h
  exact ⟨T, ⟨z, by rw [upd_ne (ne_of g e (fun w => nomatch w))]; exact g⟩, t⟩
/-- tables in a list, all drawn -/
def SdAt (H : Hp) (c : Addr) : Prop := ∃ P, TabP H c P ∧ Sd P
def PcAt (H : Hp) (as : List Addr) (Ps : List Pn) : Prop := Tabs' H as Ps ∧ ∀ P ∈ Ps, Pc P
theorem Tabs'.map {H H' : Hp} (k : ∀ c P, TabP H c P → TabP H' c P) : ∀ {as : List Addr} {Ps : List Pn}, Tabs' H as Ps → Tabs' H' as Ps
  | _, _, .nil => .nil
  | _, _, .cons h r => .cons (k _ _ h) (Tabs'.map k r)
theorem Tabs'.snoc {H : Hp} {c : Addr} {P : Pn} (h : TabP H c P) : ∀ {as : List Addr} {Ps : List Pn}, Tabs' H as Ps → Tabs' H (as ++ [c]) (Ps ++ [P])
  | _, _, .nil => .cons h .nil
  | _, _, .cons g r => .cons g (Tabs'.snoc h r)
theorem At2.chgn {k : Bool} {a r : Addr} {H H' : Hp} {ss : Rf} {P : Pn} (c : Chg a H H') (n : r ≠ a) (m : ∀ x ∈ ss, x.2 ≠ a) (h : At2 k H r ss P) : At2 k H' r ss P := by
  refine ⟨?_, h.rows.chg c m⟩
  cases k with
  | true => exact c _ _ n h.top
  | false => exact c _ _ n h.top
theorem plv_bd {x y : Int} {P : Pn} {k : Nat} (hx : x.natAbs < 2 ^ 3) (hy : y.natAbs < 2 ^ 3) (d : Dg 4 P) (b : Bd2 k P) : (plv x y P).natAbs < 2 ^ (k + 40) := by
  rw [← plv_atX]
  have b1 := atX_bd hx P b
  have l := d.x
  have b2 : Bd (k + 20) (atX x P) := b1.mono (by have := Nat.mul_le_mul_right (3 + 1) l; omega)
  have lx := atX_length x P 5 d.y
  have := ev_bd y hy _ b2
  refine Nat.lt_of_lt_of_le this (Nat.pow_le_pow_right (by decide) ?_)
  have := Nat.mul_le_mul_right (3 + 1) lx
  omega
theorem bd2_add {k : Nat} {P R : Pn} (hP : Bd2 k P) (hR : Bd2 k R) : Bd2 (k + 1) (trim2 (add2 P R)) := bd2_of fun i j => by
  rw [co2_trim2, co2_add2]
  have h1 := hP.co i j
  have h2 := hR.co i j
  rw [Nat.pow_succ]
  omega
theorem bd2_scl1 {k : Nat} {P : Pn} (f : Int) (hf : f = 1 ∨ f = -1) (h : Bd2 k P) : Bd2 k (scl2 f P) := bd2_of fun i j => by
  rw [co2_scl2]
  have h1 := h.co i j
  rcases hf with e | e <;> subst e <;> omega
theorem scl2_1 (P : Pn) : scl2 1 P = P := by
  unfold scl2
  exact (List.map_congr_left fun p _ => scl_1 p).trans (List.map_id P)
theorem bd2_slx {k : Nat} {P : Pn} (d : Dg 8 P) (h : Bd2 k P) : Bd2 (k + 4) (slx P) := bd2_of fun i j => by
  rw [co2_slx]
  by_cases hi : i + 1 < P.length
  · have h1 := h.co (i + 1) j
    have := d.x
    rw [Int.natAbs_mul, Nat.pow_add, Nat.mul_comm (2 ^ k)]
    exact Nat.mul_lt_mul_of_lt_of_le (by omega) (Nat.le_of_lt h1) (Nat.two_pow_pos k)
  · rw [co2_big (by omega), Int.mul_zero]; exact Nat.two_pow_pos _
theorem bd2_sly {k : Nat} {P : Pn} (d : Dg 8 P) (h : Bd2 k P) : Bd2 (k + 4) (sly P) := bd2_of fun i j => by
  rw [co2_sly]
  by_cases hj : j + 1 < (ro P i).length
  · have h1 := h.co i (j + 1)
    have := d.ro i
    rw [Int.natAbs_mul, Nat.pow_add, Nat.mul_comm (2 ^ k)]
    exact Nat.mul_lt_mul_of_lt_of_le (by omega) (Nat.le_of_lt h1) (Nat.two_pow_pos k)
  · have : co2 P i (j + 1) = 0 := co_big (by omega)
    rw [this, Int.mul_zero]; exact Nat.two_pow_pos _

theorem or_num {K : PySem.W.Frag} {i j : Int} {H : Hp} {σ : L2.St} {X : VK} (hj : j ≠ 0) (h : ∀ v : Int, v ≠ 0 → (v = i ∨ v = j) → X (.int v) H) :
    ∃ k, TruV K (.int i) H k ∧ if k = true then X (.int i) H else tC (.int j) σ H X := by
  refine ⟨_, rfl, ?_⟩
  by_cases e : i = 0
  · rw [if_neg (by simp [e])]
    exact h j hj (.inr rfl)
  · rw [if_pos (by simpa using e)]
    exact h i e (.inl rfl)

theorem Rows.ne {H : Hp} {b : Addr} (n : H b = none) : ∀ {rs : Rf} {P : Pn}, Rows H rs P → ∀ x ∈ rs, x.2 ≠ b
  | _, _, .nil, x, h => by cases h
  | _, _, .cons a r, x, h => by
    rcases List.mem_cons.mp h with e | e
    · rw [e]; exact a.ne n
    · exact Rows.ne n r x e
theorem Nw.chg {H H' : Hp} {a o : Addr} {P : Pn} (c : Chg o H H') (h : Nw H a P) (n : a ≠ o) (m : ∀ rs, At2 false H a rs P → ∀ x ∈ rs, x.2 ≠ o) : Nw H' a P := by
  obtain ⟨rs, h1, h2, h3⟩ := h
  exact ⟨rs, h1.chgn c n (m rs h1), h2, h3⟩
/-- .. that stood ahead of o -/
theorem Nw.keep {H0 H H' : Hp} {a o : Addr} {P : Pn} (h0 : Nw H0 a P) (n : H0 o = none) (s : Same H0 H) (c : Chg o H H') : Nw H' a P := by
  obtain ⟨rs, h1, h2, h3⟩ := h0
  exact ⟨rs, (h1.same s).chgn c (h1.ne n) (h1.rows.ne n), h2, h3⟩
theorem Pl8.keep {k : Bool} {H0 H H' : Hp} {a o : Addr} {rs : Rf} {P : Pn} (h0 : Pl8 k H0 a rs P) (n : H0 o = none) (s : Same H0 H) (c : Chg o H H') : Pl8 k H' a rs P :=
  ⟨(h0.at_.same s).chgn c (h0.at_.ne n) (h0.at_.rows.ne n), h0.cn, h0.dg, h0.bd⟩
theorem neL3 {K : PySem.W.Frag} {H : Hp} {a b : Addr} {x1 x2 x3 y1 y2 y3 : Addr} {A B C : Pn} {Q : VK} (ea : H a = some (.lst [.ref x1, .ref x2, .ref x3])) (eb : H b = some (.lst [.ref y1, .ref y2, .ref y3]))
    (h1 : Nw H x1 A) (h2 : Nw H x2 B) (h3 : Nw H x3 C) (g1 : Nw H y1 A) (g2 : Nw H y2 B) (g3 : Nw H y3 C) (o : Okd (.list [dP A, dP B, dP C]) 4 303) (q : Q (.bl false) H) : rNeD K (.ref a) (.ref b) H Q :=
  ⟨_, _, .lst (SqL.of ea) (.cons h1.dp (.cons h2.dp (.cons h3.dp .nil))), .lst (SqL.of eb) (.cons g1.dp (.cons g2.dp (.cons g3.dp .nil))), o.shaped (by decide), o.shaped (by decide), by rw [PySem.SeqAt.eqv_refl _ o.ly]; exact q⟩
theorem dpL3 {K : PySem.W.Frag} {H : Hp} {a x1 x2 x3 : Addr} {A B C : Pn} (ea : H a = some (.lst [.ref x1, .ref x2, .ref x3])) (h1 : Nw H x1 A) (h2 : Nw H x2 B) (h3 : Nw H x3 C) : Dp K H (.ref a) (.list [dP A, dP B, dP C]) :=
  .lst (SqL.of ea) (.cons h1.dp (.cons h2.dp (.cons h3.dp .nil)))
theorem dpL2 {K : PySem.W.Frag} {H : Hp} {a : Addr} {x y : V} {A B : PyData} (ea : H a = some (.lst [x, y])) (h1 : Dp K H x A) (h2 : Dp K H y B) : Dp K H (.ref a) (.list [A, B]) :=
  .lst (SqL.of ea) (.cons h1 (.cons h2 .nil))
theorem nwAt {H : Hp} {a : Addr} {P : Pn} (h : Nw H a P) : ∃ rs, At2 false H a rs P := let ⟨rs, h, _⟩ := h; ⟨rs, h⟩
theorem str_ne (s : Str) : (!decide (V.str s = V.str s)) = false := by simp
theorem int_ne {i j : Int} (h : i = j) : (!decide (V.int i = V.int j)) = false := by rw [h]; simp
/-- what both slopes are like -/
structure Slp (g : Pn → Pn) : Prop where
  cn : ∀ {P : Pn}, Cn2 P → Cn2 (g P)
  dg : ∀ {P : Pn} {n : Nat}, Dg n P → Dg n (g P)
  bd : ∀ {P : Pn} {k : Nat}, Dg 8 P → Bd2 k P → Bd2 (k + 4) (g P)
  mul : ∀ {P R : Pn}, Cn2 P → Cn2 R → g (mul2 P R) = trim2 (add2 (mul2 (g P) R) (mul2 P (g R)))
theorem slp_x : Slp slx := ⟨cn2_slx, Dg.slx, bd2_slx, slx_mul⟩
theorem slp_y : Slp sly := ⟨fun _ => cn2_trim2 _, Dg.sly, bd2_sly, sly_mul⟩
theorem bd_atY {x : Int} {P : Pn} {k : Nat} (hx : x.natAbs < 2 ^ 3) (d : Dg 4 P) (b : Bd2 k P) : Bd (k + 20) (atY x P) := by
  refine bd_trim fun z hz => ?_
  obtain ⟨p, hp, rfl⟩ := List.mem_map.mp hz
  refine Nat.lt_of_lt_of_le (ev_bd x hx p (b p hp)) (Nat.pow_le_pow_right (by decide) ?_)
  have := Nat.mul_le_mul_right (3 + 1) (d.y p hp)
  omega
theorem len_atY {x : Int} {P : Pn} (d : Dg 4 P) : (atY x P).length ≤ 5 := Nat.le_trans (trim_length _) (by rw [List.length_map]; exact d.x)
theorem bd_atX {x : Int} {P : Pn} {k : Nat} (hx : x.natAbs < 2 ^ 3) (d : Dg 4 P) (b : Bd2 k P) : Bd (k + 20) (atX x P) := by
  refine (atX_bd hx P b).mono ?_
  have := Nat.mul_le_mul_right (3 + 1) d.x
  omega
end Kr
/-! Planes with other letters put in: told by their values; slopes by the chain rule; the greatest sum of both powers. -/
namespace Kr
/-! a polynomial that is 0 everywhere -/
theorem dvd_0 {m a : Int} (d : m ∣ a) (h : (a.natAbs : Int) < m) : a = 0 := by
  obtain ⟨s, e⟩ := d
  have h2 : a.natAbs = m.natAbs * s.natAbs := by rw [e, Int.natAbs_mul]
  rcases Nat.eq_zero_or_pos s.natAbs with z | z
  · rw [z, Nat.mul_zero] at h2; omega
  · have := Nat.le_mul_of_pos_right m.natAbs z
    omega
theorem ev_inj : ∀ (p : List Int), (∀ x : Int, 1 ≤ x → ev x p = 0) → ∀ j, co p j = 0
  | [], _, j => by rw [co_nil]
  | a :: p, h, j => by
    have a0 : a = 0 := by
      have h1 := h (a.natAbs + 1) (by omega)
      rw [ev] at h1
      have d : ((a.natAbs : Int) + 1) ∣ a := ⟨-(ev (a.natAbs + 1) p), by grind⟩
      exact dvd_0 d (by omega)
    have h2 : ∀ x : Int, 1 ≤ x → ev x p = 0 := fun x hx => by
      have h1 := h x hx
      rw [ev, a0] at h1
      have : x * ev x p = 0 := by omega
      rcases Int.mul_eq_zero.mp this with e | e
      · omega
      · exact e
    cases j with
    | zero => rw [co_0]; exact a0
    | succ j => rw [co_s]; exact ev_inj p h2 j
theorem plv_inj0 {P : Pn} (h : ∀ x y : Int, 1 ≤ x → 1 ≤ y → plv x y P = 0) (i j : Nat) : co2 P i j = 0 := by
  have h1 : ∀ x : Int, 1 ≤ x → ∀ n, co (atX x P) n = 0 := fun x hx => ev_inj _ fun y hy => by rw [plv_atX]; exact h x y hx hy
  have h2 := ev_inj (P.map fun p => co p j) fun x hx => by rw [← co_atX]; exact h1 x hx j
  have h3 := h2 i
  rw [co_map (fun p => co p j) (by rw [co_nil])] at h3
  exact h3
theorem plv_inj {P Q : Pn} (cp : Cn2 P) (cq : Cn2 Q) (h : ∀ x y : Int, plv x y P = plv x y Q) : P = Q := by
  refine co2_ext cp cq fun i j => ?_
  have := plv_inj0 (P := add2 P (scl2 (-1) Q)) (fun x y _ _ => by rw [plv_add, plv_scl, h]; omega) i j
  rw [co2_add2, co2_scl2] at this
  omega
/-! a little on -/
theorem ev_sl_cons (y c : Int) (p : List Int) : ev y (slF (c :: p)) = ev y p + y * ev y (slF p) := by
  rw [ev_ext y (slF (c :: p)) (addF p (0 :: slF p)) fun i => ?_, ev_add, ev]
  · omega
  · rw [co_add, co_sl, dv]
    cases i with
    | zero => rw [co_0, co_s]; simp
    | succ i => rw [co_s, co_s, co_sl, dv]; grind
theorem ev_taylor (y k : Int) : ∀ p : List Int, ∃ s, ev (y + k) p = ev y p + k * ev y (slF p) + k * k * s
  | [] => ⟨0, by simp [ev, slF]⟩
  | c :: p => by
    obtain ⟨s, e⟩ := ev_taylor y k p
    refine ⟨ev y (slF p) + y * s + k * s, ?_⟩
    rw [ev, e, ev_sl_cons, ev]; grind
theorem plv_slx_cons (x y : Int) (p : List Int) (P : Pn) : plv x y (slx (p :: P)) = plv x y P + x * plv x y (slx P) := by
  rw [plv_ext x y (slx (p :: P)) (add2 P ([] :: slx P)) fun i j => ?_, plv_add, plv, ev]
  · omega
  · rw [co2_add2, co2_slx]
    cases i with
    | zero => rw [co2_0, co2_s, co_nil]; simp
    | succ i => rw [co2_s, co2_s, co2_slx]; grind
theorem plv_sly_cons (x y : Int) (p : List Int) (P : Pn) : plv x y (sly (p :: P)) = ev y (slF p) + x * plv x y (sly P) := by
  unfold sly
  rw [plv_trim2, plv_trim2, List.map_cons, plv]
theorem plv_taylor (x y a d h : Int) : ∀ P : Pn, ∃ s, plv (x + a * h) (y + d * h) P = plv x y P + h * (a * plv x y (slx P) + d * plv x y (sly P)) + h * h * s
  | [] => ⟨0, by simp [plv, slx, sly, trim2]⟩
  | p :: P => by
    obtain ⟨s, e⟩ := plv_taylor x y a d h P
    obtain ⟨t, f⟩ := ev_taylor y (d * h) p
    refine ⟨d * d * t + a * (a * plv x y (slx P) + d * plv x y (sly P)) + x * s + a * h * s, ?_⟩
    rw [plv, e, f, plv_slx_cons, plv_sly_cons, plv]; grind
/-- a number that all divide -/
theorem dvd_all {z : Int} (h : ∀ k : Int, 1 ≤ k → ∃ s, k * z = k * k * s) : z = 0 := by
  obtain ⟨s, e⟩ := h (z.natAbs + 1) (by omega)
  have e2 : z = ((z.natAbs : Int) + 1) * s := by
    have : ((z.natAbs : Int) + 1) * z = ((z.natAbs : Int) + 1) * (((z.natAbs : Int) + 1) * s) := by rw [e, Int.mul_assoc]
    exact Int.eq_of_mul_eq_mul_left (by omega) this
  exact dvd_0 (m := (z.natAbs : Int) + 1) ⟨s, e2⟩ (by omega)
/-! other letters put in -/
/-- a u + b v + c -/
def ln3 (a b c : Int) : Pn := trim2 [[c, b], [a]]
theorem cn2_ln3 (a b c : Int) : Cn2 (ln3 a b c) := cn2_trim2 _
theorem plv_ln3 (a b c u v : Int) : plv u v (ln3 a b c) = a * u + b * v + c := by
  unfold ln3
  rw [plv_trim2]
  simp only [plv, ev]
  grind
def sbr (Y : Pn) : List Int → Pn
  | [] => []
  | c :: p => trim2 (add2 (mul2 (sbr Y p) Y) [[c]])
def sb (X Y : Pn) : Pn → Pn
  | [] => []
  | p :: P => trim2 (add2 (mul2 (sb X Y P) X) (sbr Y p))
theorem cn2_sbr (Y : Pn) : ∀ p, Cn2 (sbr Y p)
  | [] => cn2_nil
  | _ :: _ => cn2_trim2 _
theorem cn2_sb (X Y : Pn) : ∀ P, Cn2 (sb X Y P)
  | [] => cn2_nil
  | _ :: _ => cn2_trim2 _
theorem plv_sbr (Y : Pn) (u v : Int) : ∀ p, plv u v (sbr Y p) = ev (plv u v Y) p
  | [] => rfl
  | c :: p => by rw [sbr, plv_trim2, plv_add, plv_mul, plv_sbr Y u v p, ev]; simp only [plv, ev]; grind
theorem plv_sb (X Y : Pn) (u v : Int) : ∀ P, plv u v (sb X Y P) = plv (plv u v X) (plv u v Y) P
  | [] => rfl
  | p :: P => by rw [sb, plv_trim2, plv_add, plv_mul, plv_sb X Y u v P, plv_sbr, plv]; grind
/-- what a list of six numbers makes of a plane -/
structure Ch6 where
  a : Int
  b : Int
  c : Int
  d : Int
  e : Int
  k : Int
def Ch6.list (m : Ch6) : List Int := [m.a, m.b, m.c, m.d, m.e, m.k]
def Ch6.X (m : Ch6) : Pn := ln3 m.a m.b m.c
def Ch6.Y (m : Ch6) : Pn := ln3 m.d m.e m.k
def Ch6.det (m : Ch6) : Int := m.a * m.e - m.b * m.d
def chg (m : Ch6) (P : Pn) : Pn := sb m.X m.Y P
theorem cn2_chg (m : Ch6) (P : Pn) : Cn2 (chg m P) := cn2_sb _ _ P
theorem plv_chg (m : Ch6) (P : Pn) (u v : Int) : plv u v (chg m P) = plv (m.a * u + m.b * v + m.c) (m.d * u + m.e * v + m.k) P := by
  unfold chg Ch6.X Ch6.Y
  rw [plv_sb, plv_ln3, plv_ln3]
theorem chg_sum (m : Ch6) (P Q : Pn) : chg m (trim2 (add2 P Q)) = trim2 (add2 (chg m P) (chg m Q)) :=
  plv_inj (cn2_chg _ _) (cn2_trim2 _) fun u v => by simp only [plv_chg, plv_trim2, plv_add]
theorem chg_mul (m : Ch6) (P Q : Pn) : chg m (mul2 P Q) = mul2 (chg m P) (chg m Q) :=
  plv_inj (cn2_chg _ _) (cn2_mul (cn2_chg _ _) (cn2_chg _ _)) fun u v => by simp only [plv_chg, plv_mul]
/-- first m, then n in what came -/
def Ch6.behind (m n : Ch6) : Ch6 := ⟨m.a * n.a + m.b * n.d, m.a * n.b + m.b * n.e, m.a * n.c + m.b * n.k + m.c, m.d * n.a + m.e * n.d, m.d * n.b + m.e * n.e, m.d * n.c + m.e * n.k + m.k⟩
theorem det_behind (m n : Ch6) : (m.behind n).det = m.det * n.det := by unfold Ch6.behind Ch6.det; grind
theorem chg_behind (m n : Ch6) (P : Pn) : chg n (chg m P) = chg (m.behind n) P :=
  plv_inj (cn2_chg _ _) (cn2_chg _ _) fun u v => by
    simp only [plv_chg, Ch6.behind]
    congr 1 <;> grind
theorem chg_one {P : Pn} (c : Cn2 P) : chg ⟨1, 0, 0, 0, 1, 0⟩ P = P := plv_inj (cn2_chg _ _) c fun u v => by
  rw [plv_chg]; congr 1 <;> grind
/-- the letters exchanged -/
def exF (P : Pn) : Pn := trim2 ((List.range (P.foldr (fun p n => max p.length n) 0)).map fun j => P.map fun p => co p j)
theorem exF_row : ∀ (P : Pn) (i : Nat), (ro P i).length ≤ P.foldr (fun p n => max p.length n) 0
  | [], i => by rw [ro_big (Nat.zero_le _)]; exact Nat.zero_le _
  | p :: P, 0 => by rw [ro_0, List.foldr_cons]; omega
  | p :: P, i + 1 => by rw [ro_s, List.foldr_cons]; have := exF_row P i; omega
theorem co2_exF (P : Pn) (i j : Nat) : co2 (exF P) i j = co2 P j i := by
  unfold exF
  rw [co2_trim2]
  unfold co2
  rw [ro_tab]
  by_cases h : i < P.foldr (fun p n => max p.length n) 0
  · rw [if_pos h, co_map (fun p => co p i) (by rw [co_nil])]
  · rw [if_neg h, co_nil, co_big]
    have := exF_row P j
    omega
theorem cn2_exF (P : Pn) : Cn2 (exF P) := cn2_trim2 _
theorem exF_exF {P : Pn} (c : Cn2 P) : exF (exF P) = P := co2_ext (cn2_exF _) c fun i j => by rw [co2_exF, co2_exF]
theorem plv_exF (x y : Int) (P : Pn) : plv x y (exF P) = plv y x P := by
  unfold exF
  rw [plv_trim2]
  generalize hn : P.foldr (fun p n => max p.length n) 0 = n
  have hb : ∀ i, (ro P i).length ≤ n := fun i => by rw [← hn]; exact exF_row P i
  clear hn
  induction P with
  | nil =>
    rw [plv]
    refine plv_zero x y _ fun i j => ?_
    unfold co2
    rw [ro_tab]
    split
    · exact co_nil ▸ rfl
    · rw [co_nil]
  | cons p P ih =>
    have hp : p.length ≤ n := by have := hb 0; rwa [ro_0] at this
    have hP := ih fun i => by have := hb (i + 1); rwa [ro_s] at this
    have key : ∀ (l : List Nat), plv x y (l.map fun j => (p :: P).map fun p => co p j) = ev x (l.map fun j => co p j) + y * plv x y (l.map fun j => P.map fun p => co p j) := by
      intro l
      induction l with
      | nil => simp [plv, ev]
      | cons a l ih2 => simp only [List.map_cons, plv, ev] at ih2 ⊢; rw [ih2]; grind
    rw [key, hP, plv]
    congr 1
    refine ev_ext x _ _ fun i => ?_
    rw [co_tab (co p) n fun k hk => co_big (by omega)]
theorem chg_ex (P : Pn) : chg ⟨0, 1, 0, 1, 0, 0⟩ P = exF P := plv_inj (cn2_chg _ _) (cn2_exF _) fun u v => by
  rw [plv_chg, plv_exF]; congr 1 <;> grind
/-- the chain rule -/
theorem chg_slx (m : Ch6) (P : Pn) : slx (chg m P) = trim2 (add2 (scl2 m.a (chg m (slx P))) (scl2 m.d (chg m (sly P)))) :=
  plv_inj (cn2_slx (cn2_chg _ _)) (cn2_trim2 _) fun u v => by
    rw [plv_trim2, plv_add, plv_scl, plv_scl, plv_chg, plv_chg]
    have := dvd_all (z := plv u v (slx (chg m P)) - (m.a * plv (m.a * u + m.b * v + m.c) (m.d * u + m.e * v + m.k) (slx P) + m.d * plv (m.a * u + m.b * v + m.c) (m.d * u + m.e * v + m.k) (sly P))) fun k hk => by
      obtain ⟨s, e⟩ := plv_taylor u v 1 0 k (chg m P)
      obtain ⟨t, f⟩ := plv_taylor (m.a * u + m.b * v + m.c) (m.d * u + m.e * v + m.k) m.a m.d k P
      refine ⟨t - s, ?_⟩
      rw [plv_chg, plv_chg, show m.a * (u + 1 * k) + m.b * (v + 0 * k) + m.c = (m.a * u + m.b * v + m.c) + m.a * k by grind, show m.d * (u + 1 * k) + m.e * (v + 0 * k) + m.k = (m.d * u + m.e * v + m.k) + m.d * k by grind, f] at e
      grind
    omega
theorem chg_sly (m : Ch6) (P : Pn) : sly (chg m P) = trim2 (add2 (scl2 m.b (chg m (slx P))) (scl2 m.e (chg m (sly P)))) :=
  plv_inj (cn2_trim2 _) (cn2_trim2 _) fun u v => by
    rw [plv_trim2, plv_add, plv_scl, plv_scl, plv_chg, plv_chg]
    have := dvd_all (z := plv u v (sly (chg m P)) - (m.b * plv (m.a * u + m.b * v + m.c) (m.d * u + m.e * v + m.k) (slx P) + m.e * plv (m.a * u + m.b * v + m.c) (m.d * u + m.e * v + m.k) (sly P))) fun k hk => by
      obtain ⟨s, e⟩ := plv_taylor u v 0 1 k (chg m P)
      obtain ⟨t, f⟩ := plv_taylor (m.a * u + m.b * v + m.c) (m.d * u + m.e * v + m.k) m.b m.e k P
      refine ⟨t - s, ?_⟩
      rw [plv_chg, plv_chg, show m.a * (u + 0 * k) + m.b * (v + 1 * k) + m.c = (m.a * u + m.b * v + m.c) + m.b * k by grind, show m.d * (u + 0 * k) + m.e * (v + 1 * k) + m.k = (m.d * u + m.e * v + m.k) + m.e * k by grind, f] at e
      grind
    omega
/-! the greatest sum of both powers -/
def Td (n : Nat) (P : Pn) : Prop := ∀ i j, n < i + j → co2 P i j = 0
theorem Td.mono {n m : Nat} {P : Pn} (h : Td n P) (l : n ≤ m) : Td m P := fun i j hij => h i j (by omega)
theorem cv_td {n m : Nat} : ∀ (j : Nat) (f g : Fn) (t s : Nat), (∀ b, n < b + t → f b = 0) → (∀ b, m < b + s → g b = 0) → n + m < j + t + s → cv f g j = 0
  | 0, f, g, t, s, hf, hg, h => by
    show f 0 * g 0 = 0
    by_cases e : n < t
    · rw [hf 0 (by omega), Int.zero_mul]
    · rw [hg 0 (by omega), Int.mul_zero]
  | j + 1, f, g, t, s, hf, hg, h => by
    show f 0 * g (j + 1) + cv (fun n => f (n + 1)) g j = 0
    rw [cv_td (n := n) (m := m) j (fun n => f (n + 1)) g (t + 1) s (fun b hb => hf (b + 1) (by omega)) hg (by omega)]
    by_cases e : n < t
    · rw [hf 0 (by omega)]; simp
    · rw [hg (j + 1) (by omega)]; simp
theorem cvP_td {n m : Nat} : ∀ (i : Nat) (f g : Nat → Fn) (j t s : Nat), (∀ a b, n < a + b + t → f a b = 0) → (∀ a b, m < a + b + s → g a b = 0) → n + m < i + j + t + s → cvP f g i j = 0
  | 0, f, g, j, t, s, hf, hg, h => by
    show cv (f 0) (g 0) j = 0
    exact cv_td (n := n) (m := m) j _ _ t s (fun b hb => hf 0 b (by omega)) (fun b hb => hg 0 b (by omega)) (by omega)
  | i + 1, f, g, j, t, s, hf, hg, h => by
    rw [cvP_s, cvP_td (n := n) (m := m) i (fun n => f (n + 1)) g j (t + 1) s (fun a b hb => hf (a + 1) b (by omega)) hg (by omega), cv_td (n := n) (m := m) j (f 0) (g (i + 1)) t (s + i + 1) (fun b hb => hf 0 b (by omega)) (fun b hb => hg (i + 1) b (by omega)) (by omega)]
    rfl
theorem Td.mul {n m : Nat} {P Q : Pn} (h : Td n P) (g : Td m Q) : Td (n + m) (mul2 P Q) := fun i j hij => by
  rw [co2_mul]
  exact cvP_td (n := n) (m := m) i _ _ j 0 0 (fun a b hb => h a b (by omega)) (fun a b hb => g a b (by omega)) (by omega)
theorem Td.sum {n : Nat} {P Q : Pn} (h : Td n P) (g : Td n Q) : Td n (trim2 (add2 P Q)) := fun i j hij => by
  rw [co2_trim2, co2_add2, h i j hij, g i j hij]; rfl
theorem Td.scl {n : Nat} {P : Pn} (h : Td n P) (c : Int) : Td n (trim2 (scl2 c P)) := fun i j hij => by
  rw [co2_trim2, co2_scl2, h i j hij, Int.mul_zero]
theorem Td.dg {n : Nat} {P : Pn} (c : Cn2 P) (h : Td n P) : Dg n P := Dg.of c fun i j hij => by
  by_cases l : n < i + j
  · exact absurd (h i j l) hij
  · omega
theorem Td.of {n m : Nat} {P : Pn} (d : Dg n P) (h : n + n ≤ m) : Td m P := fun i j hij => by
  by_cases l : n < i
  · exact co2_big (by have := d.x; omega) j
  · unfold co2; exact co_big (by have := d.ro i; omega)
theorem Td.nil (n : Nat) : Td n [] := fun i j _ => co2_nil i j
theorem co2_num (c : Int) (i j : Nat) : co2 [[c]] i j = if i + j = 0 then c else 0 := by
  cases i with
  | zero =>
    rw [co2_0]
    cases j with
    | zero => rw [co_0]; rfl
    | succ j => rw [co_s, co_nil]; rfl
  | succ i => rw [co2_s, co2_nil, if_neg (by omega)]
theorem td_num (c : Int) (n : Nat) : Td n [[c]] := fun i j h => by rw [co2_num, if_neg (by omega)]
theorem co2_ln3 (a b c : Int) (i j : Nat) : co2 (ln3 a b c) i j = if i = 0 then (if j = 0 then c else if j = 1 then b else 0) else if i = 1 then (if j = 0 then a else 0) else 0 := by
  unfold ln3
  rw [co2_trim2]
  match i, j with
  | 0, 0 => rfl
  | 0, 1 => rfl
  | 0, j + 2 => rw [co2_0, co_s, co_s, co_nil]; rfl
  | 1, 0 => rfl
  | 1, j + 1 => rw [co2_s, co2_0, co_s, co_nil]; rfl
  | i + 2, j => rw [co2_s, co2_s, co2_nil]; simp
theorem td_ln3 (a b c : Int) : Td 1 (ln3 a b c) := fun i j h => by
  rw [co2_ln3]
  split
  · split
    · omega
    · split
      · omega
      · rfl
  · split
    · split
      · omega
      · rfl
    · rfl
theorem plv_ins (x y : Int) : ∀ P : Pn, plv x y (P.map fun p => (0 : Int) :: p) = y * plv x y P
  | [] => by simp [plv]
  | p :: P => by rw [List.map_cons, plv, plv_ins x y P, plv, ev]; grind
theorem mul_ln3 {P : Pn} (cp : Cn2 P) (a b c : Int) : mul2 P (ln3 a b c) = trim2 (add2 (scl2 a ([] :: P)) (add2 (scl2 b (P.map fun p => (0 : Int) :: p)) (scl2 c P))) :=
  plv_inj (cn2_mul cp (cn2_ln3 a b c)) (cn2_trim2 _) fun x y => by
    rw [plv_mul, plv_ln3, plv_trim2, plv_add, plv_add, plv_scl, plv_scl, plv_scl, plv_ins, plv, ev]; grind
theorem co2_ins (P : Pn) (i j : Nat) : co2 (P.map fun p => (0 : Int) :: p) i j = if j = 0 then 0 else co2 P i (j - 1) := by
  by_cases h : i < P.length
  · unfold co2
    rw [ro_at (by simpa using h), ro_at h, List.getElem_map]
    cases j with
    | zero => rw [co_0]; rfl
    | succ j => rw [co_s]; simp
  · rw [co2_big (by simp; omega), co2_big (by omega)]; simp
/-- the part of the sum n -/
def hn (n : Nat) (P : Pn) (u v : Int) : Int := sm (n + 1) fun i => co2 P i (n - i) * (u ^ i * v ^ (n - i))
theorem hn_ext {n : Nat} {P Q : Pn} (h : ∀ i j, co2 P i j = co2 Q i j) (u v : Int) : hn n P u v = hn n Q u v := sm_congr fun i _ => by rw [h]
theorem hn_sum (n : Nat) (P Q : Pn) (u v : Int) : hn n (trim2 (add2 P Q)) u v = hn n P u v + hn n Q u v := by
  unfold hn
  rw [← sm_add]
  exact sm_congr fun i _ => by rw [co2_trim2, co2_add2, Int.add_mul]
theorem hn_nil (n : Nat) (u v : Int) : hn n [] u v = 0 := by
  unfold hn
  rw [sm_congr (g := fun _ => 0) fun i _ => by rw [co2_nil, Int.zero_mul], sm_zero]
theorem hn_num (n : Nat) (c u v : Int) : hn n [[c]] u v = if n = 0 then c else 0 := by
  cases n with
  | zero => simp [hn, sm, co2_num]
  | succ n =>
    unfold hn
    rw [sm_congr (g := fun _ => 0) fun i hi => by rw [co2_num, if_neg (by omega), Int.zero_mul], sm_zero]; rfl
theorem hn_lin {n : Nat} {P : Pn} (cp : Cn2 P) (h : Td n P) (a b c u v : Int) : hn (n + 1) (mul2 P (ln3 a b c)) u v = hn n P u v * (a * u + b * v) := by
  rw [mul_ln3 cp, hn_sum]
  have e1 : hn (n + 1) (scl2 a ([] :: P)) u v = a * u * hn n P u v := by
    unfold hn
    rw [sm_shift, ← sm_scl]
    have z : co2 (scl2 a ([] :: P)) 0 (n + 1 - 0) * (u ^ 0 * v ^ (n + 1 - 0)) = 0 := by rw [co2_scl2, co2_0, co_nil]; simp
    rw [z, Int.zero_add]
    refine sm_congr fun i _ => ?_
    rw [co2_scl2, co2_s, show n + 1 - (i + 1) = n - i by omega, Int.pow_succ]; grind
  have e2 : hn (n + 1) (add2 (scl2 b (P.map fun p => (0 : Int) :: p)) (scl2 c P)) u v = b * v * hn n P u v := by
    unfold hn
    rw [sm, ← sm_scl]
    have z : co2 (add2 (scl2 b (P.map fun p => (0 : Int) :: p)) (scl2 c P)) (n + 1) (n + 1 - (n + 1)) = 0 := by
      rw [co2_add2, co2_scl2, co2_scl2, co2_ins, if_pos (by omega), h (n + 1) _ (by omega)]; simp
    rw [z, Int.zero_mul, Int.add_zero]
    refine sm_congr fun i hi => ?_
    rw [co2_add2, co2_scl2, co2_scl2, co2_ins, if_neg (by omega), h i (n + 1 - i) (by omega), show n + 1 - i - 1 = n - i by omega, show n + 1 - i = (n - i) + 1 by omega, Int.pow_succ]; grind
  rw [e1, e2]; grind
theorem sbr_zero (Y : Pn) {p : List Int} (h : ∀ j, co p j = 0) : sbr Y p = [] := plv_inj (cn2_sbr Y p) cn2_nil fun u v => by rw [plv_sbr, ev_zero _ p h]; rfl
theorem sb_zero (X Y : Pn) {P : Pn} (h : ∀ i j, co2 P i j = 0) : sb X Y P = [] := plv_inj (cn2_sb X Y P) cn2_nil fun u v => by rw [plv_sb, plv_zero _ _ P h]; rfl
theorem mul2_nil (Y : Pn) : mul2 [] Y = [] := by unfold mul2; rw [if_pos (.inl rfl)]
theorem td_sbr (d e k : Int) : ∀ (p : List Int) (m : Nat), (∀ j, m < j → co p j = 0) → Td m (sbr (ln3 d e k) p) ∧ ∀ u v, hn m (sbr (ln3 d e k) p) u v = co p m * (d * u + e * v) ^ m
  | [], m, _ => ⟨Td.nil m, fun u v => by rw [sbr, hn_nil, co_nil]; simp⟩
  | c :: p, 0, h => by
    have z : sbr (ln3 d e k) p = [] := sbr_zero _ fun j => by rw [← co_s c p j]; exact h (j + 1) (by omega)
    rw [sbr, z, mul2_nil]
    exact ⟨(Td.nil 0).sum (td_num c 0), fun u v => by rw [hn_sum, hn_nil, hn_num, co_0]; simp⟩
  | c :: p, m + 1, h => by
    obtain ⟨t, f⟩ := td_sbr d e k p m fun j hj => by rw [← co_s c p j]; exact h (j + 1) (by omega)
    refine ⟨(t.mul (td_ln3 d e k)).sum (td_num c _), fun u v => ?_⟩
    rw [sbr, hn_sum, hn_lin (cn2_sbr _ _) t, f, hn_num, if_neg (by omega), co_s, Int.pow_succ]; grind
theorem hn_cons (n : Nat) (p : List Int) (P : Pn) (u v : Int) : hn (n + 1) (p :: P) u v = co p (n + 1) * v ^ (n + 1) + u * hn n P u v := by
  unfold hn
  rw [sm_shift, ← sm_scl]
  congr 1
  · rw [co2_0]; simp
  · exact sm_congr fun i _ => by rw [co2_s, show n + 1 - (i + 1) = n - i by omega, Int.pow_succ]; grind
theorem td_sb (a b c d e k : Int) : ∀ (P : Pn) (n : Nat), Td n P → Td n (sb (ln3 a b c) (ln3 d e k) P) ∧ ∀ u v, hn n (sb (ln3 a b c) (ln3 d e k) P) u v = hn n P (a * u + b * v) (d * u + e * v)
  | [], n, _ => ⟨Td.nil n, fun u v => by rw [sb, hn_nil, hn_nil]⟩
  | p :: P, 0, h => by
    have z : sb (ln3 a b c) (ln3 d e k) P = [] := sb_zero _ _ fun i j => by rw [← co2_s p P i j]; exact h (i + 1) j (by omega)
    obtain ⟨t, f⟩ := td_sbr d e k p 0 fun j hj => by rw [← co2_0 p P j]; exact h 0 j (by omega)
    rw [sb, z, mul2_nil]
    refine ⟨(Td.nil 0).sum t, fun u v => ?_⟩
    rw [hn_sum, hn_nil, f]
    simp [hn, sm, co2_0]
  | p :: P, n + 1, h => by
    obtain ⟨t, f⟩ := td_sb a b c d e k P n fun i j hij => by rw [← co2_s p P i j]; exact h (i + 1) j (by omega)
    obtain ⟨t2, f2⟩ := td_sbr d e k p (n + 1) fun j hj => by rw [← co2_0 p P j]; exact h 0 j (by omega)
    refine ⟨(t.mul (td_ln3 a b c)).sum t2, fun u v => ?_⟩
    rw [sb, hn_sum, hn_lin (cn2_sb _ _ _) t, f, f2, hn_cons]; grind
theorem hn_scale (n : Nat) (P : Pn) (D u v : Int) : hn n P (D * u) (D * v) = D ^ n * hn n P u v := by
  unfold hn
  rw [← sm_scl]
  refine sm_congr fun i hi => ?_
  obtain ⟨k, e⟩ : ∃ k, n = i + k := ⟨n - i, by omega⟩
  rw [e, show i + k - i = k by omega, Int.mul_pow, Int.mul_pow, Int.pow_add]; grind
theorem hn_zero {n : Nat} {P : Pn} (h : ∀ u v, hn n P u v = 0) (i j : Nat) (e : i + j = n) : co2 P i j = 0 := by
  have z := ev_inj ((List.range (n + 1)).map fun i => co2 P i (n - i)) (fun x _ => by
    rw [ev_sm x _ (n + 1) (by simp), ← h x 1]
    unfold hn
    refine sm_congr fun i hi => ?_
    rw [co_at (by simpa using hi), Int.one_pow]
    simp) i
  rw [co_at (by simp; omega)] at z
  simpa [show n - i = j by omega] using z
theorem chg_td {m : Ch6} {n : Nat} {P : Pn} (h : Td n P) : Td n (chg m P) := (td_sb _ _ _ _ _ _ P n h).1
/-- the greatest sum stays -/
theorem chg_top {m : Ch6} (dt : m.det ≠ 0) {n : Nat} {P : Pn} (h : Td n P) {i j : Nat} (hij : i + j = n) (ne : co2 P i j ≠ 0) : ∃ i j, i + j = n ∧ co2 (chg m P) i j ≠ 0 := by
  refine Classical.byContradiction fun no => ne ?_
  have z : ∀ u v, hn n (chg m P) u v = 0 := fun u v => by
    unfold hn
    rw [sm_congr (g := fun _ => 0) fun t ht => by
      rw [Classical.byContradiction fun q => no ⟨t, n - t, by omega, q⟩, Int.zero_mul], sm_zero]
  refine hn_zero (fun u v => ?_) i j hij
  have e := (td_sb m.a m.b m.c m.d m.e m.k P n h).2 (m.e * u - m.b * v) (m.a * v - m.d * u)
  rw [show sb (ln3 m.a m.b m.c) (ln3 m.d m.e m.k) P = chg m P from rfl, z, show m.a * (m.e * u - m.b * v) + m.b * (m.a * v - m.d * u) = m.det * u by unfold Ch6.det; grind, show m.d * (m.e * u - m.b * v) + m.e * (m.a * v - m.d * u) = m.det * v by unfold Ch6.det; grind, hn_scale] at e
  rcases Int.mul_eq_zero.mp e.symm with q | q
  · exact absurd q (Int.pow_ne_zero dt)
  · exact q
end Kr
namespace Kr
/-! how great the numbers become -/
def Bn (b : Nat) (P : Pn) : Prop := ∀ i j, (co2 P i j).natAbs ≤ b
def rB (M : Nat) : Nat → Nat
  | 0 => 1
  | n + 1 => rB M n * M + 1
def sB (M : Nat) : Nat → Nat
  | 0 => 1
  | n + 1 => sB M n * M + rB M (n + 1)
theorem Bn.mono {b c : Nat} {P : Pn} (h : Bn b P) (l : b ≤ c) : Bn c P := fun i j => Nat.le_trans (h i j) l
theorem Bn.mul {b M : Nat} {P : Pn} (cp : Cn2 P) (h : Bn b P) {x y z : Int} (hM : x.natAbs + y.natAbs + z.natAbs ≤ M) : Bn (b * M) (mul2 P (ln3 x y z)) := fun i j => by
  rw [mul_ln3 cp, co2_trim2, co2_add2, co2_add2, co2_scl2, co2_scl2, co2_scl2, co2_ins]
  have h1 : (co2 ([] :: P) i j).natAbs ≤ b := by
    cases i with
    | zero => rw [co2_0, co_nil]; exact Nat.zero_le _
    | succ i => rw [co2_s]; exact h i j
  have h2 : (if j = 0 then 0 else co2 P i (j - 1)).natAbs ≤ b := by
    split
    · exact Nat.zero_le _
    · exact h _ _
  have h3 := h i j
  have m1 : (x * co2 ([] :: P) i j).natAbs ≤ x.natAbs * b := by rw [Int.natAbs_mul]; exact Nat.mul_le_mul_left _ h1
  have m2 : (y * (if j = 0 then 0 else co2 P i (j - 1))).natAbs ≤ y.natAbs * b := by rw [Int.natAbs_mul]; exact Nat.mul_le_mul_left _ h2
  have m3 : (z * co2 P i j).natAbs ≤ z.natAbs * b := by rw [Int.natAbs_mul]; exact Nat.mul_le_mul_left _ h3
  have e : x.natAbs * b + y.natAbs * b + z.natAbs * b ≤ b * M := by
    rw [← Nat.add_mul, ← Nat.add_mul, Nat.mul_comm b M]
    exact Nat.mul_le_mul_right b hM
  omega
theorem Bn.sum {b c : Nat} {P Q : Pn} (h : Bn b P) (g : Bn c Q) : Bn (b + c) (trim2 (add2 P Q)) := fun i j => by
  rw [co2_trim2, co2_add2]
  have := h i j
  have := g i j
  omega
theorem bn_num {b : Nat} {c : Int} (h : c.natAbs ≤ b) : Bn b [[c]] := fun i j => by
  rw [co2_num]
  split
  · exact h
  · exact Nat.zero_le _
theorem bn_sbr {M b : Nat} {d e k : Int} (hM : d.natAbs + e.natAbs + k.natAbs ≤ M) : ∀ (p : List Int) (m : Nat), (∀ j, m < j → co p j = 0) → (∀ j, (co p j).natAbs ≤ b) → Bn (b * rB M m) (sbr (ln3 d e k) p)
  | [], m, _, _ => fun i j => by rw [sbr, co2_nil]; exact Nat.zero_le _
  | c :: p, 0, h, hb => by
    have z : sbr (ln3 d e k) p = [] := sbr_zero _ fun j => by rw [← co_s c p j]; exact h (j + 1) (by omega)
    have h0 := hb 0
    rw [co_0] at h0
    rw [sbr, z, mul2_nil]
    refine (Bn.sum (b := 0) (c := b) (fun i j => by rw [co2_nil]; exact Nat.le_refl _) (bn_num h0)).mono ?_
    rw [rB]; omega
  | c :: p, m + 1, h, hb => by
    have ih := bn_sbr (b := b) hM p m (fun j hj => by rw [← co_s c p j]; exact h (j + 1) (by omega)) fun j => by rw [← co_s c p j]; exact hb (j + 1)
    have h0 := hb 0
    rw [co_0] at h0
    rw [sbr]
    refine ((ih.mul (cn2_sbr _ _) hM).sum (bn_num h0)).mono ?_
    rw [rB, Nat.mul_add, Nat.mul_assoc]; omega
theorem bn_sb {M b : Nat} {x y z d e k : Int} (h1 : x.natAbs + y.natAbs + z.natAbs ≤ M) (h2 : d.natAbs + e.natAbs + k.natAbs ≤ M) : ∀ (P : Pn) (n : Nat), Td n P → Bn b P → Bn (b * sB M n) (sb (ln3 x y z) (ln3 d e k) P)
  | [], n, _, _ => fun i j => by rw [sb, co2_nil]; exact Nat.zero_le _
  | p :: P, 0, h, hb => by
    have z0 : sb (ln3 x y z) (ln3 d e k) P = [] := sb_zero _ _ fun i j => by rw [← co2_s p P i j]; exact h (i + 1) j (by omega)
    have r := bn_sbr (b := b) h2 p 0 (fun j hj => by rw [← co2_0 p P j]; exact h 0 j (by omega)) fun j => by rw [← co2_0 p P j]; exact hb 0 j
    rw [sb, z0, mul2_nil]
    refine (Bn.sum (b := 0) (fun i j => by rw [co2_nil]; exact Nat.le_refl _) r).mono ?_
    rw [rB, sB]; omega
  | p :: P, n + 1, h, hb => by
    have ih := bn_sb (b := b) h1 h2 P n (fun i j hij => by rw [← co2_s p P i j]; exact h (i + 1) j (by omega)) fun i j => by rw [← co2_s p P i j]; exact hb (i + 1) j
    have r := bn_sbr (b := b) h2 p (n + 1) (fun j hj => by rw [← co2_0 p P j]; exact h 0 j (by omega)) fun j => by rw [← co2_0 p P j]; exact hb 0 j
    rw [sb]
    refine ((ih.mul (cn2_sb _ _ _) h1).sum r).mono ?_
    rw [sB, Nat.mul_add, Nat.mul_assoc]; exact Nat.le_refl _
theorem Td.drop {n : Nat} {P : Pn} (h : Td n P) (k : Nat) : Td n (P.drop k) := fun i j hij => by unfold co2; rw [ro_drop]; exact h (k + i) j (by omega)
theorem Bn.drop {b : Nat} {P : Pn} (h : Bn b P) (k : Nat) : Bn b (P.drop k) := fun i j => by unfold co2; rw [ro_drop]; exact h (k + i) j
theorem co_drop (p : List Int) (k j : Nat) : co (p.drop k) j = co p (k + j) := by
  unfold co
  rw [List.getD_eq_getElem?_getD, List.getD_eq_getElem?_getD, List.getElem?_drop]
def Ch6.sz (m : Ch6) (M : Nat) : Prop := m.a.natAbs + m.b.natAbs + m.c.natAbs ≤ M ∧ m.d.natAbs + m.e.natAbs + m.k.natAbs ≤ M
theorem chg_bn {m : Ch6} {M n b : Nat} {P : Pn} (h : m.sz M) (t : Td n P) (g : Bn b P) : Bn (b * sB M n) (chg m P) := bn_sb h.1 h.2 P n t g
end Kr
/-! Other letters: what the program and the law promise. -/
namespace Kr
open PySem PySem.Spec PyProof.Rows PyProof.V L2

/-! sums of tuples; lists or tuples taken apart -/
def rSumT (K : PySem.W.Frag) : List V → Hp → VK → Prop := fun vs H Q => ∃ (a : Addr) (ns : List Int), vs = [.ref a] ∧ SqT K H a (ns.map V.int) ∧ Q (.int ns.sum) H
theorem cr_sumT {X : Cx} {K : PySem.W.Frag} (hk : X.K = K) (hc : X.calm = true) : CallR X (.builtin "sum") (rSumT K) := by
  subst hk
  intro pins s σ H vs us Q I r h
  obtain ⟨a, ns, rfl, hs, q⟩ := h
  obtain ⟨its, rv, ht, _⟩ := I.tuple hs
  rw [Vals.ref1 r]
  have hi := rv.ints
  have hl : s.heap.IsTuple a its.toArray := ht
  obtain ⟨xs, hx⟩ := hi.allInts.items
  have hn : numsOf its.toArray.toList = ns := by rw [show its.toArray.toList = its from rfl, hi.numsOf]
  rw [hx] at hl hn
  rw [nums_intItems] at hn
  refine PySem.W.ktm_sumG (I.ok.hd hc) hl fun h' tk t' hk => ?_
  rw [preSum_eq, List.take_of_length_le (by simp), hn]
  exact ⟨.int _, H, I.kept hk, ⟨_, rfl⟩, q⟩
def gSq (K : PySem.W.Frag) (n : Nat) (t : TGs) : TG := fun v σ H Q => ∃ (k : Bool) (a : Addr) (xs : List V), v = .ref a ∧ Sq K k H a xs ∧ xs.length = n ∧ t xs σ H Q
theorem pg_sq {X : Cx} {pos : Pos} {es : List Expr} {k : Nat} {t : TGs} {n : Nat} (hc : X.calm = true) (h : PGs X es t)
    (hn : (assignEach es X.env).length = n := by rfl) (hst : (assignEach es X.env).findIdx? (·.1) = none := by rfl) : PG X (.Tuple es k pos) (gSq X.K n t) := by
  refine ⟨fun pins s σ H v u Q I r hw => ?_⟩
  obtain ⟨b, a, xs, e1, hq, hl, hw⟩ := hw
  cases b with
  | true => exact (pg_tup hc h hn hst).run pins s σ H v u Q I r ⟨a, xs, e1, hq, hl, hw⟩
  | false => exact (pg_lst hc h hn hst).run pins s σ H v u Q I r ⟨a, xs, e1, hq, hl, hw⟩

/-! the six numbers -/
theorem Ch6.len (m : Ch6) : m.list.length = 6 := rfl
theorem Ch6.mem {m : Ch6} {M : Nat} (h : m.sz M) {z : Int} (hz : z ∈ m.list) : z.natAbs ≤ M := by
  have : z = m.a ∨ z = m.b ∨ z = m.c ∨ z = m.d ∨ z = m.e ∨ z = m.k := by simpa [Ch6.list] using hz
  have h1 := h.1
  have h2 := h.2
  rcases this with e | e | e | e | e | e <;> rw [e] <;> omega
theorem Ch6.mono {m : Ch6} {M N : Nat} (h : m.sz M) (l : M ≤ N) : m.sz N := ⟨Nat.le_trans h.1 l, Nat.le_trans h.2 l⟩
theorem bn_bd {b k : Nat} {P : Pn} (h : Bn b P) (l : b < 2 ^ k) : Bd2 k P := bd2_of fun i j => Nat.lt_of_le_of_lt (h i j) l
theorem bd_bn {k : Nat} {P : Pn} (h : Bd2 k P) : Bn (2 ^ k) P := fun i j => Nat.le_of_lt (h.co i j)
theorem s4096 : sB 4096 8 < 2 ^ 200 := by decide +kernel
theorem r4096 : rB 4096 8 < 2 ^ 200 := by decide +kernel
/-- a change of the letters, a list or a tuple -/
theorem kdAt {k : Bool} {H : Hp} {a : Addr} {p : List Int} (h : At k H a p) : ∃ z, Kd H (.ref a) z ∧ isLT z = true := by
  cases k with
  | true => exact ⟨_, .tup h, by decide⟩
  | false => exact ⟨_, .lst h, by decide⟩
structure ChAt (k : Bool) (H : Hp) (a : Addr) (m : Ch6) : Prop where
  at_ : At k H a m.list
  sz : m.sz 4096
  det : m.det ≠ 0
theorem ChAt.same {k : Bool} {H H' : Hp} {a : Addr} {m : Ch6} (s : Same H H') (h : ChAt k H a m) : ChAt k H' a m := ⟨h.at_.same s, h.sz, h.det⟩
def spIsCh : Sp := fun vs H Q _ => ∃ (k : Bool) (a : Addr) (m : Ch6), vs = [.ref a] ∧ ChAt k H a m ∧ ∀ H', Same H H' → Q (.bl true) H'
def spChkC : Sp := fun vs H Q _ => ∃ (k : Bool) (a : Addr) (m : Ch6), vs = [.ref a] ∧ ChAt k H a m ∧ ∀ H', Same H H' → Q .non H'
def spChanged : Sp := fun vs H Q _ => ∃ (k j : Bool) (a b : Addr) (rs : Rf) (P : Pn) (m : Ch6), vs = [.ref a, .ref b] ∧ Pl8 k H a rs P ∧ Td 8 P ∧ Bd2 1000 P ∧ ChAt j H b m ∧ NewP H (chg m P) Q
def spGEx : Sp := fun vs H Q _ => ∃ (k : Bool) (a : Addr) (rs : Rf) (P : Pn), vs = [.ref a] ∧ At2 k H a rs P ∧ small2 P ∧ NewP H (exF P) Q
theorem wid_fold : ∀ P : Pn, P.foldr (fun p n => max p.length n) 0 = wid P
  | [] => rfl
  | p :: P => by rw [List.foldr_cons, wid_fold P, wid]

/-! the law's own -/
def spDict : Sp := fun vs H Q _ => ∃ (a : Addr) (rs : Rf) (P : Pn), vs = [.ref a] ∧ At2 false H a rs P ∧ Cn2 P ∧ Dg 8 P ∧ NewT H P Q
def spChange : Sp := fun vs H Q _ => ∃ a : Addr, vs = [.ref a] ∧ PotAt H a ∧ ∀ (H' : Hp) (r : Addr) (m : Ch6), Chg a H H' → PotAt H' a → H r = none → r ≠ a → At false H' r m.list → m.det ≠ 0 → (∀ z ∈ m.list, z.natAbs ≤ 2) → Q (.ref r) H'
def spPut : Sp := fun vs H Q _ => ∃ (a b : Addr) (P : Pn) (m : Ch6), vs = [.ref a, .ref b] ∧ TabP H a P ∧ Td 4 P ∧ Bd2 20 P ∧ At false H b m.list ∧ (∀ z ∈ m.list, z.natAbs ≤ 2) ∧ NewT H (chg m P) Q
def spScaledL : Sp := fun vs H Q _ => ∃ (a : Addr) (rs : Rf) (P : Pn) (z : Int), vs = [.ref a, .int z] ∧ At2 false H a rs P ∧ Cn2 P ∧ Dg 8 P ∧ Bd2 big P ∧ z.natAbs < 2 ^ big ∧ NewP H (trim2 (scl2 z P)) Q
def spBehind : Sp := fun vs H Q _ => ∃ (a b : Addr) (m n : Ch6), vs = [.ref a, .ref b] ∧ At false H a m.list ∧ At false H b n.list ∧ (∀ z ∈ m.list, z.natAbs ≤ 2) ∧ (∀ z ∈ n.list, z.natAbs ≤ 2) ∧ NewL H (m.behind n).list Q
/-- a drawn piece, its powers' sums -/
def spPiece2 : Sp := fun vs H Q _ => ∃ a : Addr, vs = [.ref a] ∧ PotAt H a ∧ ∀ (H' : Hp) (r : Addr) (P : Pn), Chg a H H' → PotAt H' a → H r = none → r ≠ a → TabP H' r P → Pc P → Td 2 P → Bn 4 P → Q (.ref r) H'
theorem shapes_td : ∀ ps ∈ shapes, ∀ p ∈ ps, p.1 + p.2 ≤ 2 := by decide
theorem td_plT {F : Tm} (k : Ks F) {n : Nat} (h : ∀ p ∈ ksT F, p.1 + p.2 ≤ n) : Td n (plT F) := fun i j hij => by
  rw [co2_plT k]
  refine Classical.byContradiction fun ne => ?_
  obtain ⟨x, hx, e, _⟩ := cT_mem ne
  have := h x.1 (List.mem_map_of_mem hx)
  rw [e] at this
  have : i + j ≤ n := this
  omega
theorem bn_plT {F : Tm} (k : Ks F) {b : Nat} (h : ∀ p, (cT F p).natAbs ≤ b) : Bn b (plT F) := fun i j => by rw [co2_plT k]; exact h _

/-! held against each other: no bound on the numbers -/
theorem ly_all : ∀ {ds : List PyData}, (∀ d ∈ ds, d.canLay0 = true) → PyData.canLayAll0 ds = true
  | [], _ => by simp [PyData.canLayAll0]
  | d :: ds, h => by simp [PyData.canLayAll0, h d List.mem_cons_self, ly_all fun x hx => h x (List.mem_cons_of_mem _ hx)]
theorem dep_all {n : Nat} : ∀ {ds : List PyData}, (∀ d ∈ ds, d.depth ≤ n) → PyData.depthAll ds ≤ n
  | [], _ => by simp [PyData.depthAll]
  | d :: ds, h => by
    have := h d List.mem_cons_self
    have := dep_all (n := n) (ds := ds) fun x hx => h x (List.mem_cons_of_mem _ hx)
    simp only [PyData.depthAll]; omega
theorem seq_ly {k : Bool} {ds : List PyData} (h : ∀ d ∈ ds, d.canLay0 = true) : (seqD k ds).canLay0 = true := by
  have := ly_all h
  cases k <;> simpa [seqD, PyData.canLay0] using this
theorem seq_dep {k : Bool} {n : Nat} {ds : List PyData} (h : ∀ d ∈ ds, d.depth ≤ n) : (seqD k ds).depth ≤ n + 1 := by
  have := dep_all h
  cases k <;> (simp only [seqD, PyData.depth]; omega)
theorem dOf_ly (k : Bool) (p : List Int) : (dOf k p).canLay0 = true := by
  have e : seqD k (p.map PyData.int) = dOf k p := by cases k <;> rfl
  rw [← e]
  refine seq_ly fun d hd => ?_
  obtain ⟨z, _, rfl⟩ := List.mem_map.mp hd
  simp [PyData.canLay0]
theorem dOf_dep (k : Bool) (p : List Int) : (dOf k p).depth ≤ 2 := by
  have e : seqD k (p.map PyData.int) = dOf k p := by cases k <;> rfl
  rw [← e]
  refine seq_dep fun d hd => ?_
  obtain ⟨z, _, rfl⟩ := List.mem_map.mp hd
  simp [PyData.depth]
/-- a plane in a slot, its rows of whatever kind -/
theorem pl_ly (k : Bool) (rs : Rf) (P : Pn) : (seqD k (rowsD rs P)).canLay0 = true := seq_ly fun d hd => by
  obtain ⟨k, p, _, rfl⟩ := rowsD_mem hd
  exact dOf_ly k p
theorem pl_dep (k : Bool) (rs : Rf) (P : Pn) : (seqD k (rowsD rs P)).depth ≤ 3 := seq_dep fun d hd => by
  obtain ⟨k, p, _, rfl⟩ := rowsD_mem hd
  exact dOf_dep k p
theorem dP_ly (P : Pn) : (dP P).canLay0 = true := seq_ly (k := false) fun d hd => by
  obtain ⟨p, _, rfl⟩ := List.mem_map.mp hd
  exact dOf_ly false p
theorem dP_dep (P : Pn) : (dP P).depth ≤ 3 := seq_dep (k := false) fun d hd => by
  obtain ⟨p, _, rfl⟩ := List.mem_map.mp hd
  exact dOf_dep false p
theorem shp {d : PyData} (h : d.canLay0 = true) {n : Nat} (g : d.depth ≤ n) (l : n ≤ 64) : SeqAt.shaped d = true := by
  unfold SeqAt.shaped
  rw [h, Bool.true_and]
  exact decide_eq_true (Nat.le_trans g l)
theorem neQ {K : PySem.W.Frag} {H : Hp} {a b : Addr} {P R : Pn} {Q : VK} (h : Nw H a P) (g : Nw H b R) (e : P = R) (q : Q (.bl false) H) : rNeD K (.ref a) (.ref b) H Q := by
  subst e
  exact ⟨_, _, h.dp, g.dp, shp (dP_ly P) (dP_dep P) (by decide), shp (dP_ly P) (dP_dep P) (by decide), by rw [PySem.SeqAt.eqv_refl _ (dP_ly P)]; exact q⟩
theorem eqQ {K : PySem.W.Frag} {H : Hp} {a b : Addr} {P R : Pn} {Q : VK} (h : Nw H a P) (g : Nw H b R) (e : P = R) (q : Q (.bl true) H) : rEqD K (.ref a) (.ref b) H Q := by
  subst e
  exact ⟨_, _, h.dp, g.dp, shp (dP_ly P) (dP_dep P) (by decide), shp (dP_ly P) (dP_dep P) (by decide), by rw [PySem.SeqAt.eqv_refl _ (dP_ly P)]; exact q⟩

/-! a plane made anew, one after another -/
structure Own (H H' : Hp) (u : Addr) (us : Rf) (R : Pn) : Prop where
  same : Same H H'
  fr : H u = none
  at_ : At2 false H' u us R
  new : ∀ x ∈ us, x.1 = false ∧ H x.2 = none ∧ x.2 ≠ u
  nd : (us.map (·.2)).Nodup
theorem Own.nil {H : Hp} {u : Addr} (n : H u = none) : Own H (upd H u (.lst [])) u [] [] := ⟨Same.put n, n, ⟨upd_same, .nil⟩, fun x h => (by cases h), List.nodup_nil⟩
theorem Own.nils {H H6 : Hp} {u : Addr} (s : Same H H6) (n : H6 u = none) : Own H (upd H6 u (.lst [])) u [] [] := ⟨Same.trans s (Same.put n), s.free n, ⟨upd_same, .nil⟩, fun x h => (by cases h), List.nodup_nil⟩
theorem Own.next {H H1 H2 : Hp} {a : Addr} {rs : Rf} {R : Pn} (s0 : Same H H1) (s : Same H1 H2) (n : H1 a = none) (h : At2 false H2 a rs R) (f : ∀ x ∈ rs, x.1 = false ∧ H1 x.2 = none ∧ x.2 ≠ a) (d : (rs.map (·.2)).Nodup) : Own H H2 a rs R :=
  ⟨Same.trans s0 s, s0.free n, h, fun x hx => ⟨(f x hx).1, s0.free (f x hx).2.1, (f x hx).2.2⟩, d⟩
theorem Own.go {H H' H2 : Hp} {u : Addr} {us : Rf} {R : Pn} (o : Own H H' u us R) (s : Same H' H2) : Own H H2 u us R := ⟨Same.trans o.same s, o.fr, o.at_.same s, o.new, o.nd⟩
theorem Own.newP {H H' : Hp} {u : Addr} {us : Rf} {R : Pn} {Q : VK} (o : Own H H' u us R) (q : NewP H R Q) : Q (.ref u) H' := q H' u us o.same o.fr o.at_ o.new o.nd
/-- what stands in between -/
structure Im (P : Pn) : Prop where
  cn : Cn2 P
  td : Td 8 P
  bd : Bd2 2000 P
theorem Im.dg {P : Pn} (h : Im P) : Dg 8 P := h.td.dg h.cn
theorem Im.sm {P : Pn} (h : Im P) : small2 P := h.dg.small (by decide)
theorem Im.big {P : Pn} (h : Im P) : Bd2 big P := fun p hp => bd_big (h.bd p hp) (by decide)
theorem Im.mul {P : Pn} (h : Im P) (a b c : Int) : small2 (mul2 P (ln3 a b c)) := ((h.td.mul (td_ln3 a b c)).dg (cn2_mul h.cn (cn2_ln3 a b c))).small (by decide)
theorem b2000 {k : Nat} (h : k < 2 ^ 200) : 2 ^ 1000 * k < 2 ^ 2000 := by
  have h1 : 2 ^ 1000 * k < 2 ^ 1000 * 2 ^ 200 := Nat.mul_lt_mul_of_pos_left h (Nat.two_pow_pos 1000)
  rw [← Nat.pow_add] at h1
  exact Nat.lt_of_lt_of_le h1 (Nat.pow_le_pow_right (by decide) (by decide))
theorem im_sbr {d e k : Int} (h : d.natAbs + e.natAbs + k.natAbs ≤ 4096) {p : List Int} (l : p.length ≤ 9) (b : Bd 1000 p) : Im (sbr (ln3 d e k) p) := by
  have z : ∀ j, 8 < j → co p j = 0 := fun j hj => co_big (by omega)
  exact ⟨cn2_sbr _ p, (td_sbr d e k p 8 z).1, bn_bd (bn_sbr h p 8 z fun j => Nat.le_of_lt (b.co j)) (b2000 r4096)⟩
theorem im_sb {m : Ch6} (h : m.sz 4096) {P : Pn} (t : Td 8 P) (b : Bd2 1000 P) : Im (sb m.X m.Y P) :=
  ⟨cn2_sb _ _ P, (td_sb _ _ _ _ _ _ P 8 t).1, bn_bd (bn_sb h.1 h.2 P 8 t (bd_bn b)) (b2000 s4096)⟩
theorem rev_take {α : Type} (l : List α) {i : Nat} (h : i < l.reverse.length) : (l.reverse.take (i + 1)).reverse = l.reverse[i] :: (l.reverse.take i).reverse := by
  rw [List.take_add_one, List.getElem?_eq_getElem h]; simp
theorem rev_take_drop {α : Type} (l : List α) (i : Nat) : (l.reverse.take i).reverse = l.drop (l.length - i) := by rw [List.take_reverse, List.reverse_reverse]
theorem bd_drop {k : Nat} {p : List Int} (h : Bd k p) (n : Nat) : Bd k (p.drop n) := fun z hz => h z (List.mem_of_mem_drop hz)
theorem bd2_drop {k : Nat} {P : Pn} (h : Bd2 k P) (n : Nat) : Bd2 k (P.drop n) := fun p hp => h p (List.mem_of_mem_drop hp)
/-- [[c, b], [a]] at its place -/
theorem ln3_at {H : Hp} {l1 l2 l3 : Addr} {a b c : Int} (n1 : H l1 = none) (n2 : upd H l1 (.lst [.int c, .int b]) l2 = none) (n3 : upd (upd H l1 (.lst [.int c, .int b])) l2 (.lst [.int a]) l3 = none) :
    Same H (upd (upd (upd H l1 (.lst [.int c, .int b])) l2 (.lst [.int a])) l3 (.lst [.ref l1, .ref l2])) ∧ At2 false (upd (upd (upd H l1 (.lst [.int c, .int b])) l2 (.lst [.int a])) l3 (.lst [.ref l1, .ref l2])) l3 [(false, l1), (false, l2)] [[c, b], [a]] := by
  have s2 : Same (upd H l1 (.lst [.int c, .int b])) (upd (upd H l1 (.lst [.int c, .int b])) l2 (.lst [.int a])) := Same.put n2
  have s3 : Same (upd (upd H l1 (.lst [.int c, .int b])) l2 (.lst [.int a])) (upd (upd (upd H l1 (.lst [.int c, .int b])) l2 (.lst [.int a])) l3 (.lst [.ref l1, .ref l2])) := Same.put n3
  refine ⟨Same.trans (Same.put n1) (Same.trans s2 s3), upd_same, .cons (x := (false, l1)) ?_ (.cons (x := (false, l2)) ?_ .nil)⟩
  · exact s3 _ _ (s2 _ _ (show upd H l1 _ l1 = some (.lst ([c, b].map V.int)) from upd_same))
  · exact s3 _ _ (show upd _ l2 _ l2 = some (.lst ([a].map V.int)) from upd_same)
/-- [[c]] at its place -/
theorem num_at {H : Hp} {l1 l2 : Addr} {c : Int} (n1 : H l1 = none) (n2 : upd H l1 (.lst [.int c]) l2 = none) :
    Same H (upd (upd H l1 (.lst [.int c])) l2 (.lst [.ref l1])) ∧ At2 false (upd (upd H l1 (.lst [.int c])) l2 (.lst [.ref l1])) l2 [(false, l1)] [[c]] := by
  have s2 : Same (upd H l1 (.lst [.int c])) (upd (upd H l1 (.lst [.int c])) l2 (.lst [.ref l1])) := Same.put n2
  exact ⟨Same.trans (Same.put n1) s2, upd_same, .cons (x := (false, l1)) (s2 _ _ (show upd H l1 _ l1 = some (.lst ([c].map V.int)) from upd_same)) .nil⟩
theorem small_num (c : Int) : small2 [[c]] := ⟨by simp, fun p hp => by rw [show p = [c] by simpa using hp]; simp⟩
theorem small_ln (a b c : Int) : small2 [[c, b], [a]] := ⟨by simp, fun p hp => by
  have : p = [c, b] ∨ p = [a] := by simpa using hp
  rcases this with e | e <;> rw [e] <;> simp⟩
theorem dg_ln3 (a b c : Int) : Dg 1 (ln3 a b c) := (td_ln3 a b c).dg (cn2_ln3 a b c)
theorem bd_ln3 {a b c : Int} (h : a.natAbs + b.natAbs + c.natAbs ≤ 4096) : Bd2 big (ln3 a b c) := fun p hp => bd_big (bd2_of (k := 100) (fun i j => by
  rw [co2_ln3]
  have : (4096 : Nat) < 2 ^ 100 := by decide
  split
  · split
    · omega
    · split <;> omega
  · split
    · split <;> omega
    · omega) p hp) (by decide)
theorem six {ns : List Int} (h : ns.length = 6) : ∃ m : Ch6, ns = m.list := by
  match ns, h with
  | [a, b, c, d, e, k], _ => exact ⟨⟨a, b, c, d, e, k⟩, rfl⟩

theorem cn2_scl2 {f : Int} {P : Pn} (hf : f ≠ 0) (c : Cn2 P) : Cn2 (scl2 f P) := by
  refine ⟨fun p hp => ?_, fun p hp => ?_⟩
  · obtain ⟨q, hq, rfl⟩ := List.mem_map.mp hp
    exact cn_scl hf (c.1 q hq)
  · unfold scl2 at hp
    rw [List.getLast?_map] at hp
    obtain ⟨q, hq, rfl⟩ := Option.map_eq_some_iff.mp hp
    have := c.2 q hq
    unfold sclF
    simpa using this
theorem scl2_0 (P : Pn) : trim2 (scl2 0 P) = [] := co2_ext (cn2_trim2 _) cn2_nil fun i j => by rw [co2_trim2, co2_scl2, co2_nil, Int.zero_mul]
/-! a table's value -/
theorem plv_sm (x y : Int) : ∀ (P : Pn) (n : Nat), P.length ≤ n → plv x y P = sm n (fun i => ev y (ro P i) * x ^ i)
  | [], n, _ => by rw [sm_congr (g := fun _ => 0) fun i _ => by rw [ro_big (Nat.zero_le _)]; simp [ev], sm_zero]; rfl
  | p :: P, 0, h => by simp at h
  | p :: P, n + 1, h => by
    rw [sm_shift, plv, plv_sm x y P n (by simpa using h), ro_0, ← sm_scl]
    simp only [ro_s, Int.pow_zero, Int.mul_one]
    congr 1
    refine sm_congr fun i _ => ?_
    rw [Int.pow_succ]; grind
def gP (x y : Int) : Pr → Int := fun p => x ^ p.1 * y ^ p.2
theorem Tells.plv {T : Tm} {P : Pn} (t : Tells T P) (x y : Int) : sT (gP x y) T = Kr.plv x y P := by
  have d := t.dg
  rw [sT_sm _ t.ks, plv_sm x y P 9 d.x]
  refine sm_congr fun i _ => ?_
  rw [ev_sm y (Kr.ro P i) 9 (d.ro i), Int.mul_comm, ← sm_scl]
  refine sm_congr fun j _ => ?_
  rw [t.co]
  unfold gP co2
  grind
/-- the three powers of a letter's new face -/
def tm3 (a b c : Int) : Tm := [((1, 0), a), ((0, 1), b), ((0, 0), c)]
theorem ks_tm3 (a b c : Int) : Ks (tm3 a b c) := ⟨(show [((1, 0) : Pr), (0, 1), (0, 0)].Nodup by decide), fun p hp => by
  have : p = (1, 0) ∨ p = (0, 1) ∨ p = (0, 0) := by simpa [ksT, tm3] using hp
  rcases this with e | e | e <;> rw [e] <;> decide⟩
theorem cT_tm3 (a b c : Int) (i j : Nat) : cT (tm3 a b c) (i, j) = co2 (ln3 a b c) i j := by
  rw [co2_ln3]
  simp only [tm3, cT, Prod.mk.injEq]
  split <;> split <;> (try split) <;> (try split) <;> omega
/-- a part of the sum: z times the one letter s times, the other one t times -/
structure Pt (z : Int) (m : Ch6) (s t : Nat) (R : Pn) : Prop where
  cn : Cn2 R
  td : Td (s + t) R
  bn : Bn (2 ^ 20 * 6 ^ (s + t)) R
  val : ∀ u v, plv u v R = z * gP (m.a * u + m.b * v + m.c) (m.d * u + m.e * v + m.k) (s, t)
theorem Pt.zero {z : Int} (m : Ch6) (h : z ≠ 0) (b : z.natAbs < 2 ^ 20) : Pt z m 0 0 [[z]] :=
  ⟨(tells_num h).cn, td_num z 0, (bn_num (Nat.le_of_lt b)).mono (by omega), fun u v => by simp [plv, ev, gP]⟩
theorem Pt.x {z : Int} {m : Ch6} {s t : Nat} {R : Pn} (h : Pt z m s t R) (hm : m.sz 6) : Pt z m (s + 1) t (mul2 R m.X) :=
  ⟨cn2_mul h.cn (cn2_ln3 _ _ _), (h.td.mul (td_ln3 _ _ _)).mono (by omega), (h.bn.mul h.cn hm.1).mono (by rw [show s + 1 + t = (s + t) + 1 by omega, Nat.pow_succ, Nat.mul_assoc]; exact Nat.le_refl _), fun u v => by
    rw [plv_mul, h.val]
    unfold Ch6.X gP
    rw [plv_ln3, Int.pow_succ]; grind⟩
theorem Pt.y {z : Int} {m : Ch6} {s t : Nat} {R : Pn} (h : Pt z m s t R) (hm : m.sz 6) : Pt z m s (t + 1) (mul2 R m.Y) :=
  ⟨cn2_mul h.cn (cn2_ln3 _ _ _), (h.td.mul (td_ln3 _ _ _)).mono (by omega), (h.bn.mul h.cn hm.2).mono (by rw [show s + (t + 1) = (s + t) + 1 by omega, Nat.pow_succ, Nat.mul_assoc]; exact Nat.le_refl _), fun u v => by
    rw [plv_mul, h.val]
    unfold Ch6.Y gP
    rw [plv_ln3, Int.pow_succ]; grind⟩
theorem Pt.dg {z : Int} {m : Ch6} {s t : Nat} {R : Pn} (h : Pt z m s t R) : Dg (s + t) R := h.td.dg h.cn
theorem Pt.big {z : Int} {m : Ch6} {s t : Nat} {R : Pn} (h : Pt z m s t R) (l : s + t ≤ 8) : Bd2 big R := fun p hp => bd_big (bn_bd h.bn (k := 100) (by
  have h1 : 6 ^ (s + t) ≤ 6 ^ 8 := Nat.pow_le_pow_right (by decide) l
  have h2 := Nat.mul_le_mul_left (2 ^ 20) h1
  exact Nat.lt_of_le_of_lt h2 (by decide)) p hp) (by decide)
theorem sz6 {m : Ch6} (h : ∀ z ∈ m.list, z.natAbs ≤ 2) : m.sz 6 := by
  have in6 : m.a ∈ m.list ∧ m.b ∈ m.list ∧ m.c ∈ m.list ∧ m.d ∈ m.list ∧ m.e ∈ m.list ∧ m.k ∈ m.list := by simp [Ch6.list]
  have h1 := h _ in6.1
  have h2 := h _ in6.2.1
  have h3 := h _ in6.2.2.1
  have h4 := h _ in6.2.2.2.1
  have h5 := h _ in6.2.2.2.2.1
  have h6 := h _ in6.2.2.2.2.2
  exact ⟨by omega, by omega⟩
/-- a sum over the table, over its first keys -/
def putV (m : Ch6) (U : Tm) (u v : Int) : Int := sT (gP (m.a * u + m.b * v + m.c) (m.d * u + m.e * v + m.k)) U
theorem put_end {m : Ch6} {U : Tm} {P R : Pn} (t : Tells U P) (c : Cn2 R) (h : ∀ u v, plv u v R = putV m U u v) : R = chg m P :=
  plv_inj c (cn2_chg m P) fun u v => by rw [h, plv_chg, ← t.plv]; rfl
theorem put_step {m : Ch6} {U : Tm} {R S : Pn} {i : Nat} (l : i < U.length) (h : ∀ u v, plv u v R = putV m (U.take i) u v) (g : Pt U[i].2 m U[i].1.1 U[i].1.2 S) (u v : Int) : plv u v (trim2 (add2 R (scl2 1 S))) = putV m (U.take (i + 1)) u v := by
  rw [plv_trim2, plv_add, plv_scl, h, g.val]
  unfold putV
  rw [sT_take _ l, show ((U[i].1.1, U[i].1.2) : Pr) = U[i].1 from rfl]
  omega

theorem disp3 {H : Hp} {p t1 t2 t3 : Addr} (np : H p = none) (n1 : upd H p (.dT []) t1 = none) (n2 : upd (upd H p (.dT [])) t1 (.tup [.int 1, .int 0]) t2 = none)
    (n3 : upd (upd (upd H p (.dT [])) t1 (.tup [.int 1, .int 0])) t2 (.tup [.int 0, .int 1]) t3 = none) {H3 : Hp} (e : upd (upd (upd (upd H p (.dT [])) t1 (.tup [.int 1, .int 0])) t2 (.tup [.int 0, .int 1])) t3 (.tup [.int 0, .int 0]) = H3) :
    Same H H3 ∧ H3 p = some (.dT []) ∧ H3 t1 = some (.tup [.int 1, .int 0]) ∧ H3 t2 = some (.tup [.int 0, .int 1]) ∧ H3 t3 = some (.tup [.int 0, .int 0]) := by
  subst e
  have s1 : Same (upd H p (.dT [])) _ := Same.put (o := .tup [.int 1, .int 0]) n1
  have s2 := Same.put (o := .tup [.int 0, .int 1]) n2
  have s3 := Same.put (o := .tup [.int 0, .int 0]) n3
  exact ⟨Same.trans (Same.put np) (Same.trans s1 (Same.trans s2 s3)), s3 _ _ (s2 _ _ (s1 _ _ upd_same)), s3 _ _ (s2 _ _ upd_same), s3 _ _ upd_same, upd_same⟩
theorem pairs3 {H : Hp} {t1 t2 t3 : Addr} {a b c : Int} (e1 : H t1 = some (.tup [.int 1, .int 0])) (e2 : H t2 = some (.tup [.int 0, .int 1])) (e3 : H t3 = some (.tup [.int 0, .int 0])) :
    Paired (fun (x : V × V) (kv : List Key × V) => ∃ b, x.1 = .ref b ∧ x.2 = kv.2 ∧ H b = some (.tup (kv.1.map kV))) [(.ref t1, .int a), (.ref t2, .int b), (.ref t3, .int c)] (encT (tm3 a b c)) :=
  .cons ⟨t1, rfl, rfl, e1⟩ (.cons ⟨t2, rfl, rfl, e2⟩ (.cons ⟨t3, rfl, rfl, e3⟩ .nil))
end Kr
/-! Other letters: pieces of the law's own walk. -/
namespace Kr
open PySem PySem.Spec PyProof.Rows PyProof.V L2

/-- a plane whose powers' sums and numbers are small -/
structure Gd (n k : Nat) (P : Pn) : Prop where
  cn : Cn2 P
  td : Td n P
  bd : Bd2 k P
theorem Gd.dg {n k : Nat} {P : Pn} (h : Gd n k P) : Dg n P := h.td.dg h.cn
theorem Gd.sum {n k : Nat} {P R : Pn} (h : Gd n k P) (g : Gd n k R) : Gd n (k + 1) (trim2 (add2 P R)) := ⟨cn2_trim2 _, h.td.sum g.td, bd2_add h.bd g.bd⟩
theorem Gd.mono {n m k l : Nat} {P : Pn} (h : Gd n k P) (a : n ≤ m) (b : k ≤ l) : Gd m l P := ⟨h.cn, h.td.mono a, h.bd.mono b⟩
theorem Gd.mul {n m k l : Nat} {P R : Pn} (h : Gd n k P) (g : Gd m l R) (le : n + m ≤ 8) : Gd (n + m) (k + l + 7) (mul2 P R) :=
  ⟨cn2_mul h.cn g.cn, h.td.mul g.td, bd2_mul h.bd g.bd (((h.td.mul g.td).dg (cn2_mul h.cn g.cn)).mono le)⟩
theorem Gd.chg {n k : Nat} {P : Pn} {m : Ch6} (h : Gd n k P) (hm : m.sz 6) (s : sB 6 n < 2 ^ 25) : Gd n (k + 25) (chg m P) :=
  ⟨cn2_chg m P, chg_td h.td, bn_bd (chg_bn hm h.td (bd_bn h.bd)) (by rw [Nat.pow_add]; exact Nat.mul_lt_mul_of_pos_left s (Nat.two_pow_pos k))⟩
theorem td_slx {n : Nat} {P : Pn} (h : Td n P) : Td n (slx P) := fun i j hij => by rw [co2_slx, h (i + 1) j (by omega), Int.mul_zero]
theorem td_sly {n : Nat} {P : Pn} (h : Td n P) : Td n (sly P) := fun i j hij => by rw [co2_sly, h i (j + 1) (by omega), Int.mul_zero]
theorem Gd.slx {n k : Nat} {P : Pn} (h : Gd n k P) (le : n ≤ 8) : Gd n (k + 4) (slx P) := ⟨cn2_slx h.cn, td_slx h.td, bd2_slx (h.dg.mono le) h.bd⟩
theorem Gd.sly {n k : Nat} {P : Pn} (h : Gd n k P) (le : n ≤ 8) : Gd n (k + 4) (sly P) := ⟨cn2_trim2 _, td_sly h.td, bd2_sly (h.dg.mono le) h.bd⟩
theorem Gd.scl {n k : Nat} {P : Pn} {z : Int} (h : Gd n k P) (hz : z.natAbs ≤ 2) : Gd n (k + 1) (trim2 (scl2 z P)) := ⟨cn2_trim2 _, h.td.scl z, bd2_of fun i j => by
  rw [co2_trim2, co2_scl2, Int.natAbs_mul, Nat.pow_succ]
  have h1 := h.bd.co i j
  have := Nat.mul_le_mul_right (co2 P i j).natAbs hz
  omega⟩
theorem Gd.ex {n k : Nat} {P : Pn} (h : Gd n k P) : Gd n k (exF P) := ⟨cn2_exF P, fun i j hij => by rw [co2_exF]; exact h.td j i (by omega), bd2_of fun i j => by rw [co2_exF]; exact h.bd.co j i⟩
theorem Gd.pl {n k : Nat} {P : Pn} (h : Gd n k P) (le : n ≤ 8) (lk : k ≤ 100000) {b : Bool} {H : Hp} {a : Addr} {rs : Rf} (e : At2 b H a rs P) : Pl8 b H a rs P := ⟨e, h.cn, h.dg.mono le, h.bd.mono lk⟩
theorem Gd.big {n k : Nat} {P : Pn} (h : Gd n k P) (lk : k ≤ 1000) : Bd2 big P := fun p hp => bd_big (h.bd p hp) (by omega)
/-- a plane that no drawing touches -/
structure Kp (a : Addr) (b : Bool) (H : Hp) (f : Addr) (rs : Rf) (P : Pn) : Prop where
  at_ : At2 b H f rs P
  ne : f ≠ a
  rw : ∀ x ∈ rs, x.2 ≠ a
theorem Kp.of {a : Addr} {H0 H : Hp} {f : Addr} {rs : Rf} {P : Pn} (p : PotAt H0 a) (n : H0 f = none) (h : At2 false H f rs P) (nw : ∀ x ∈ rs, x.1 = false ∧ H0 x.2 = none ∧ x.2 ≠ f) : Kp a false H f rs P :=
  ⟨h, p.ne n, fun x hx => p.ne (nw x hx).2.1⟩
theorem Kp.same {a : Addr} {b : Bool} {H H' : Hp} {f : Addr} {rs : Rf} {P : Pn} (s : Same H H') (h : Kp a b H f rs P) : Kp a b H' f rs P := ⟨h.at_.same s, h.ne, h.rw⟩
theorem Kp.chg {a : Addr} {b : Bool} {H H' : Hp} {f : Addr} {rs : Rf} {P : Pn} (c : Chg a H H') (h : Kp a b H f rs P) : Kp a b H' f rs P := ⟨h.at_.chgn c h.ne h.rw, h.ne, h.rw⟩
/-- its rows are lists, each its own -/
abbrev Lw (rs : Rf) : Prop := (∀ x ∈ rs, x.1 = false) ∧ (rs.map (·.2)).Nodup
theorem Lw.of {H0 : Hp} {o : Addr} {rs : Rf} (n : ∀ x ∈ rs, x.1 = false ∧ H0 x.2 = none ∧ x.2 ≠ o) (nd : (rs.map (·.2)).Nodup) : Lw rs := ⟨fun x hx => (n x hx).1, nd⟩
theorem Lw.nw {H : Hp} {f : Addr} {rs : Rf} {P : Pn} (l : Lw rs) (h : At2 false H f rs P) : Nw H f P := ⟨rs, h, l.1, l.2⟩
/-- tuple(c), or c itself -/
theorem ite_tup {K : PySem.W.Frag} {b : Bool} {c : Addr} {ns : List Int} {H : Hp} {σ : L2.St} {i : Nat} {X : VK} (hs : σ[i]? = some (some (.ref c))) (e : At false H c ns)
    (h : ∀ (j : Bool) (u : Addr) (H' : Hp), Same H H' → At j H' u ns → (u = c ∨ H u = none) → X (.ref u) H') :
    if b = true then (∃ v, σ[i]? = some (some v) ∧ ∃ p ys, [v] = [V.ref p] ∧ ((SqL K H p ys ∧ ∀ l, H l = none → X (.ref l) (upd H l (.tup ys))) ∨ (SqT K H p ys ∧ X (.ref p) H))) else (∃ v, σ[i]? = some (some v) ∧ X v H) := by
  split
  · exact ⟨_, hs, c, _, rfl, .inl ⟨SqL.of e, fun l nl => h true l _ (Same.put nl) (show upd H l _ l = some (.tup (ns.map V.int)) from upd_same) (.inr nl)⟩⟩
  · exact ⟨_, hs, h false c H (Same.refl H) e (.inl rfl)⟩
theorem b4 {x y : Int} (h : x.natAbs ≤ 2) (g : y.natAbs ≤ 2) : (x * y).natAbs ≤ 4 := by
  rw [Int.natAbs_mul]
  exact Nat.mul_le_mul h g
theorem ch_of {m : Ch6} (h : ∀ z ∈ m.list, z.natAbs ≤ 2) : m.sz 4096 := Ch6.mono (sz6 h) (by decide)
theorem ch_behind {m n : Ch6} (h : ∀ z ∈ m.list, z.natAbs ≤ 2) (g : ∀ z ∈ n.list, z.natAbs ≤ 2) : (m.behind n).sz 4096 := by
  have i6 : m.a ∈ m.list ∧ m.b ∈ m.list ∧ m.c ∈ m.list ∧ m.d ∈ m.list ∧ m.e ∈ m.list ∧ m.k ∈ m.list := by simp [Ch6.list]
  have j6 : n.a ∈ n.list ∧ n.b ∈ n.list ∧ n.c ∈ n.list ∧ n.d ∈ n.list ∧ n.e ∈ n.list ∧ n.k ∈ n.list := by simp [Ch6.list]
  have a8 : ∀ {x y z w : Int}, x.natAbs ≤ 2 → y.natAbs ≤ 2 → z.natAbs ≤ 2 → w.natAbs ≤ 2 → (x * y + z * w).natAbs ≤ 8 := fun p q r s => Nat.le_trans (Int.natAbs_add_le _ _) (Nat.add_le_add (b4 p q) (b4 r s))
  have k1 := a8 (h _ i6.1) (g _ j6.1) (h _ i6.2.1) (g _ j6.2.2.2.1)
  have k2 := a8 (h _ i6.1) (g _ j6.2.1) (h _ i6.2.1) (g _ j6.2.2.2.2.1)
  have k3 := Nat.le_trans (Int.natAbs_add_le _ _) (Nat.add_le_add (a8 (h _ i6.1) (g _ j6.2.2.1) (h _ i6.2.1) (g _ j6.2.2.2.2.2)) (h _ i6.2.2.1))
  have k4 := a8 (h _ i6.2.2.2.1) (g _ j6.1) (h _ i6.2.2.2.2.1) (g _ j6.2.2.2.1)
  have k5 := a8 (h _ i6.2.2.2.1) (g _ j6.2.1) (h _ i6.2.2.2.2.1) (g _ j6.2.2.2.2.1)
  have k6 := Nat.le_trans (Int.natAbs_add_le _ _) (Nat.add_le_add (a8 (h _ i6.2.2.2.1) (g _ j6.2.2.1) (h _ i6.2.2.2.2.1) (g _ j6.2.2.2.2.2)) (h _ i6.2.2.2.2.2))
  exact ⟨Nat.le_trans (Nat.add_le_add (Nat.add_le_add k1 k2) k3) (by decide), Nat.le_trans (Nat.add_le_add (Nat.add_le_add k4 k5) k6) (by decide)⟩
/-! the greatest sum of both powers -/
def sums (T : Tm) : List Int := T.map fun x => (x.1.1 : Int) + x.1.2
theorem sums_top {T : Tm} {P : Pn} (t : Tells T P) {mx : Int} (h : mx ∈ sums T) (g : ∀ y ∈ sums T, y ≤ mx) : Td mx.toNat P ∧ 0 ≤ mx ∧ ∃ i j, i + j = mx.toNat ∧ co2 P i j ≠ 0 := by
  obtain ⟨x, hx, rfl⟩ := List.mem_map.mp h
  refine ⟨fun i j hij => ?_, by omega, x.1.1, x.1.2, by omega, by rw [(t.key hx).1]; exact t.nz x hx⟩
  refine Classical.byContradiction fun ne => ?_
  rw [← t.co] at ne
  obtain ⟨y, hy, e, _⟩ := cT_mem ne
  have := g _ (List.mem_map_of_mem (f := fun x : Pr × Int => (x.1.1 : Int) + x.1.2) hy)
  rw [e] at this
  dsimp only at this
  omega
theorem sums_eq {T U : Tm} {P : Pn} {m : Ch6} (dt : m.det ≠ 0) (t : Tells T P) (u : Tells U (chg m P)) {x y : Int} (hx : x ∈ sums T) (gx : ∀ z ∈ sums T, z ≤ x) (hy : y ∈ sums U) (gy : ∀ z ∈ sums U, z ≤ y) : x = y := by
  obtain ⟨d1, x0, i, j, e, ne⟩ := sums_top t hx gx
  obtain ⟨d2, y0, k, l, e2, ne2⟩ := sums_top u hy gy
  have d3 := chg_td (m := m) d1
  have l1 : y.toNat ≤ x.toNat := by
    by_cases h : x.toNat < k + l
    · exact absurd (d3 k l h) ne2
    · omega
  obtain ⟨p, q, e3, ne3⟩ := chg_top dt d1 e ne
  have l2 : x.toNat ≤ y.toNat := by
    by_cases h : y.toNat < p + q
    · exact absurd (d2 p q h) ne3
    · omega
  omega
theorem tells_ne {T : Tm} {P : Pn} (t : Tells T P) (n : P ≠ []) : sums T ≠ [] := fun e => by
  have : T = [] := List.map_eq_nil_iff.mp e
  subst this
  have h1 := cn2_last t.cn n
  have h2 := cn_last (t.cn.ro _) h1
  exact h2 (t.co _ _).symm
theorem chg_ne {m : Ch6} (dt : m.det ≠ 0) {T : Tm} {P : Pn} (t : Tells T P) (n : P ≠ []) : chg m P ≠ [] := fun e => by
  obtain ⟨x, hx⟩ := List.exists_mem_of_ne_nil _ (tells_ne t n)
  -- the greatest of them
  have : ∀ (l : List Int), l ≠ [] → ∃ mx ∈ l, ∀ y ∈ l, y ≤ mx := by
    intro l
    induction l with
    | nil => intro h; exact absurd rfl h
    | cons a l ih =>
      intro _
      by_cases h : l = []
      · subst h; exact ⟨a, by simp, fun y hy => by rw [show y = a by simpa using hy]; exact Int.le_refl _⟩
      · obtain ⟨m, hm, hl⟩ := ih h
        by_cases c : a ≤ m
        · exact ⟨m, List.mem_cons_of_mem _ hm, fun y hy => by
            rcases List.mem_cons.mp hy with e | e
            · rw [e]; exact c
            · exact hl y e⟩
        · exact ⟨a, List.mem_cons_self, fun y hy => by
            rcases List.mem_cons.mp hy with e | e
            · rw [e]; exact Int.le_refl _
            · have := hl y e; omega⟩
  obtain ⟨mx, h1, h2⟩ := this _ (tells_ne t n)
  obtain ⟨d1, _, i, j, e1, ne⟩ := sums_top t h1 h2
  obtain ⟨p, q, _, ne3⟩ := chg_top dt d1 e1 ne
  rw [e, co2_nil] at ne3
  exact ne3 rfl
/-! keys turned about -/
def swp (x : Pr × Int) : Pr × Int := ((x.1.2, x.1.1), x.2)
theorem cT_swp : ∀ (T : Tm) (i j : Nat), cT (T.map swp) (i, j) = cT T (j, i)
  | [], _, _ => rfl
  | x :: T, i, j => by
    rw [List.map_cons, cT, cT, cT_swp T i j]
    obtain ⟨⟨a, b⟩, z⟩ := x
    simp only [swp, Prod.mk.injEq]
    by_cases h : a = j ∧ b = i
    · rw [if_pos h, if_pos ⟨h.2, h.1⟩]
    · rw [if_neg h, if_neg (fun q => h ⟨q.2, q.1⟩)]
theorem tells_swp {T : Tm} {P : Pn} (t : Tells T P) : Tells (T.map swp) (exF P) := by
  refine ⟨⟨?_, fun p hp => ?_⟩, fun x hx => ?_, cn2_exF P, fun i j => by rw [cT_swp, co2_exF, t.co]⟩
  · have e : ksT (T.map swp) = (ksT T).map fun p => (p.2, p.1) := by simp [ksT, swp]
    rw [e]
    refine List.pairwise_map.mpr (List.Pairwise.imp ?_ t.ks.nd)
    intro a b h e
    obtain ⟨a1, a2⟩ := a
    obtain ⟨b1, b2⟩ := b
    simp only [Prod.mk.injEq] at e
    exact h (by rw [e.1, e.2])
  · obtain ⟨x, hx, rfl⟩ := List.mem_map.mp hp
    obtain ⟨y, hy, rfl⟩ := List.mem_map.mp hx
    have := t.ks.lt _ (List.mem_map_of_mem hy)
    exact ⟨this.2, this.1⟩
  · obtain ⟨y, hy, rfl⟩ := List.mem_map.mp hx
    exact t.nz y hy
theorem swp_take {T : Tm} {i : Nat} (l : i < T.length) : (T.take (i + 1)).map swp = (T.take i).map swp ++ [swp T[i]] := by rw [take_T l, List.map_append]; rfl
theorem chain {a d : Int} {X Y : Pn} : trim2 (add2 (trim2 (scl2 a X)) (trim2 (scl2 d Y))) = trim2 (add2 (scl2 a X) (scl2 d Y)) := trim2_ext fun i j => by rw [co2_add2, co2_add2, co2_trim2, co2_trim2]
theorem spot_bd {x y z u v : Int} (h1 : x.natAbs ≤ 2) (h2 : y.natAbs ≤ 2) (h3 : z.natAbs ≤ 2) (h4 : u.natAbs ≤ 3) (h5 : v.natAbs ≤ 3) : (x * u + y * v + z).natAbs < 2 ^ 1000 := by
  have a1 : (x * u).natAbs ≤ 6 := by rw [Int.natAbs_mul]; exact Nat.mul_le_mul h1 h4
  have a2 : (y * v).natAbs ≤ 6 := by rw [Int.natAbs_mul]; exact Nat.mul_le_mul h2 h5
  have a3 := Nat.le_trans (Int.natAbs_add_le (x * u) (y * v)) (Nat.add_le_add a1 a2)
  have a4 := Nat.le_trans (Int.natAbs_add_le (x * u + y * v) z) (Nat.add_le_add a3 h3)
  exact Nat.lt_of_le_of_lt a4 (Nat.lt_of_lt_of_le (show 6 + 6 + 2 < 2 ^ 4 by decide) (Nat.pow_le_pow_right (by decide) (by decide)))
theorem sums_take {T : Tm} {i : Nat} (l : i < T.length) : sums (T.take (i + 1)) = sums (T.take i) ++ [(T[i].1.1 : Int) + T[i].1.2] := by
  unfold sums
  rw [take_T l, List.map_append]; rfl
theorem sums_len {T : Tm} (k : Ks T) (i : Nat) : (sums (T.take i)).length ≤ 81 := by
  unfold sums
  rw [List.length_map, List.length_take]
  have := k.len
  omega
end Kr
/-! Any value as a plane, as a change. -/
namespace Kr
open PySem PySem.Spec
open PyProof.Rows L2

/-- the items of a list or of a tuple -/
def seqOf (H : Hp) : V → Option (List V)
  | .ref a => match H a with
    | some (.lst xs) => some xs
    | some (.tup xs) => some xs
    | _ => none
  | _ => none
/-- 0 to n INTEGERS, the last one not 0 -/
def lnB (n : Nat) (xs : List V) : Bool := decide (xs.length ≤ n) && xs.all isI && (xs.isEmpty || !decide (xs.getLast? = some (.int 0)))
def rowV (H : Hp) (n : Nat) (v : V) : Bool := match seqOf H v with | some xs => decide (xs.length ≤ n) | none => false
def lnV (H : Hp) (v : V) : Bool := match seqOf H v with | some xs => lnB 9 xs | none => false
def fullV (H : Hp) (v : V) : Bool := match seqOf H v with | some xs => decide (0 < xs.length) | none => false
def lastB (H : Hp) (xs : List V) : Bool := match xs.getLast? with | some x => fullV H x | none => true
def plB (H : Hp) (v : V) : Bool := match seqOf H v with | some xs => decide (xs.length ≤ 9) && xs.all (lnV H) && lastB H xs | none => false
/-- the number of a value -/
def toI : V → Int
  | .int z => z
  | _ => 0
def atN (xs : List V) (i : Nat) : Int := toI (xs.getD i .non)
def chB (H : Hp) (v : V) : Bool := match seqOf H v with
  | some xs => decide (xs.length = 6) && xs.all isI && !decide (atN xs 0 * atN xs 4 - atN xs 1 * atN xs 3 = 0)
  | none => false
theorem neI2 {z : Int} (c : (!decide (V.int z = V.int 0)) = true) : z ≠ 0 := fun h => by rw [h] at c; simp at c
theorem eqI2 {z : Int} (c : ¬ (!decide (V.int z = V.int 0)) = true) : z = 0 := Classical.byContradiction fun h => c (by simpa using h)
/-! known values -/
def Sv (v : V) : Prop := ∀ z, v = .int z → z.natAbs < 2 ^ 100
structure K0 (H : Hp) (v : V) : Prop where
  kd : ∃ k, Kd H v k
  sm : Sv v
structure K1 (H : Hp) (v : V) : Prop where
  k0 : K0 H v
  it : ∀ xs, seqOf H v = some xs → xs.length ≤ 100 ∧ ∀ x ∈ xs, K0 H x
structure K2 (H : Hp) (v : V) : Prop where
  k0 : K0 H v
  it : ∀ xs, seqOf H v = some xs → xs.length ≤ 100 ∧ ∀ x ∈ xs, K1 H x
theorem seqOf_same {H H' : Hp} {v : V} {k : String} (s : Same H H') (h : Kd H v k) : seqOf H' v = seqOf H v := by
  cases h with
  | lst e => show (match H' _ with | some (.lst xs) => some xs | some (.tup xs) => some xs | _ => none) = (match H _ with | some (.lst xs) => some xs | some (.tup xs) => some xs | _ => none); rw [e, s _ _ e]
  | tup e => show (match H' _ with | some (.lst xs) => some xs | some (.tup xs) => some xs | _ => none) = (match H _ with | some (.lst xs) => some xs | some (.tup xs) => some xs | _ => none); rw [e, s _ _ e]
  | dct e => show (match H' _ with | some (.lst xs) => some xs | some (.tup xs) => some xs | _ => none) = (match H _ with | some (.lst xs) => some xs | some (.tup xs) => some xs | _ => none); rw [e, s _ _ e]
  | _ => rfl
theorem K0.seq {H H' : Hp} {v : V} (s : Same H H') (h : K0 H v) : seqOf H' v = seqOf H v := h.kd.elim fun _ x => seqOf_same s x
theorem K0.same {H H' : Hp} {v : V} (s : Same H H') (h : K0 H v) : K0 H' v := ⟨h.kd.elim fun k x => ⟨k, x.same s⟩, h.sm⟩
theorem K1.same {H H' : Hp} {v : V} (s : Same H H') (h : K1 H v) : K1 H' v := ⟨h.k0.same s, fun xs e => by
  rw [h.k0.seq s] at e
  exact ⟨(h.it xs e).1, fun x hx => ((h.it xs e).2 x hx).same s⟩⟩
theorem K2.same {H H' : Hp} {v : V} (s : Same H H') (h : K2 H v) : K2 H' v := ⟨h.k0.same s, fun xs e => by
  rw [h.k0.seq s] at e
  exact ⟨(h.it xs e).1, fun x hx => ((h.it xs e).2 x hx).same s⟩⟩
theorem K0.lnV {H H' : Hp} {v : V} (s : Same H H') (h : K0 H v) : lnV H' v = lnV H v := by unfold Kr.lnV; rw [h.seq s]
theorem K0.rowV {H H' : Hp} {v : V} {n : Nat} (s : Same H H') (h : K0 H v) : rowV H' n v = rowV H n v := by unfold Kr.rowV; rw [h.seq s]
theorem K0.fullV {H H' : Hp} {v : V} (s : Same H H') (h : K0 H v) : fullV H' v = fullV H v := by unfold Kr.fullV; rw [h.seq s]
theorem K0.chB {H H' : Hp} {v : V} (s : Same H H') (h : K0 H v) : chB H' v = chB H v := by unfold Kr.chB; rw [h.seq s]
theorem K2.plB {H H' : Hp} {v : V} (s : Same H H') (h : K2 H v) : plB H' v = plB H v := by
  unfold Kr.plB
  rw [h.k0.seq s]
  cases e : seqOf H v with
  | none => rfl
  | some xs =>
    have hx := (h.it xs e).2
    have a1 : xs.all (Kr.lnV H') = xs.all (Kr.lnV H) := by
      rw [Bool.eq_iff_iff, List.all_eq_true, List.all_eq_true]
      exact ⟨fun g x m => by rw [← (hx x m).k0.lnV s]; exact g x m, fun g x m => by rw [(hx x m).k0.lnV s]; exact g x m⟩
    have a2 : lastB H' xs = lastB H xs := by
      unfold lastB
      cases e2 : xs.getLast? with
      | none => rfl
      | some x => exact (hx x (List.mem_of_getLast? e2)).k0.fullV s
    simp only [a1, a2]
def Hs (H : Hp) (j : Bool) (a : Addr) (xs : List V) : Prop := match j with | true => H a = some (.tup xs) | false => H a = some (.lst xs)
theorem At2.hs {H : Hp} {k : Bool} {a : Addr} {rs : Rf} {P : Pn} (h : At2 k H a rs P) : Hs H k a (rfs rs) := by
  cases k with
  | true => exact h.top
  | false => exact h.top
theorem At2.mk' {H : Hp} {k : Bool} {a : Addr} {rs : Rf} {P : Pn} (h : Hs H k a (rfs rs)) (r : Rows H rs P) : At2 k H a rs P := by
  cases k with
  | true => exact ⟨h, r⟩
  | false => exact ⟨h, r⟩
/-- no list and no tuple, or one of both -/
theorem Kd.cs {H : Hp} {v : V} {k : String} (h : Kd H v k) : (isLT k = false ∧ seqOf H v = none) ∨
    ∃ (j : Bool) (a : Addr) (xs : List V), isLT k = true ∧ v = .ref a ∧ seqOf H v = some xs ∧ (Hs H j a xs) := by
  cases h with
  | @lst a xs e => exact .inr ⟨false, a, xs, by decide, rfl, by show (match H a with | some (.lst xs) => some xs | some (.tup xs) => some xs | _ => none) = _; rw [e], e⟩
  | @tup a xs e => exact .inr ⟨true, a, xs, by decide, rfl, by show (match H a with | some (.lst xs) => some xs | some (.tup xs) => some xs | _ => none) = _; rw [e], e⟩
  | @dct a xs e => exact .inl ⟨by decide, by show (match H a with | some (.lst xs) => some xs | some (.tup xs) => some xs | _ => none) = _; rw [e]⟩
  | _ => exact .inl ⟨by decide, rfl⟩
theorem SqJ {K : PySem.W.Frag} {H : Hp} {j : Bool} {a : Addr} {xs : List V} (h : Hs H j a xs) : Sq K j H a xs := by
  cases j with
  | true => exact SqT.of h
  | false => exact SqL.of h
theorem same_sq {H H' : Hp} {j : Bool} {a : Addr} {xs : List V} (s : Same H H') (h : Hs H j a xs) : Hs H' j a xs := by
  cases j with
  | true => exact s _ _ h
  | false => exact s _ _ h
/-- what is_line tells of it -/
theorem K1.val {H : Hp} {v : V} (h : K1 H v) : ∃ b, Val H v b ∧ (b = false → lnV H v = false) ∧ (b = true → ∃ (j : Bool) (a : Addr) (xs : List V), v = .ref a ∧ (Hs H j a xs) ∧ lnV H v = decide (xs.length ≤ 9)) := by
  obtain ⟨k, hk⟩ := h.k0.kd
  rcases hk.cs with ⟨e, e0⟩ | ⟨j, a, xs, e, rfl, e0, et⟩
  · exact ⟨false, .oth hk e, fun _ => by unfold lnV; rw [e0], fun z => by cases z⟩
  · obtain ⟨l, hx⟩ := h.it xs e0
    have hv : Val H (.ref a) (lineB xs) := by
      cases j with
      | true => exact .tup et (fun x m => (hx x m).kd) (by omega)
      | false => exact .lst et (fun x m => (hx x m).kd) (by omega)
    have el : lnV H (.ref a) = (lineB xs && decide (xs.length ≤ 9)) := by
      unfold lnV; rw [e0]
      show lnB 9 xs = _
      unfold lnB lineB
      by_cases l9 : xs.length ≤ 9
      · rw [decide_eq_true l9, decide_eq_true (show xs.length ≤ 13 by omega)]; simp
      · rw [decide_eq_false l9]; simp
    exact ⟨_, hv, fun z => by rw [el, z]; rfl, fun z => ⟨j, a, xs, rfl, et, by rw [el, z]; rfl⟩⟩
theorem seqOf_sq {H : Hp} {j : Bool} {a : Addr} {xs : List V} (h : Hs H j a xs) : seqOf H (.ref a) = some xs := by
  show (match H a with | some (.lst xs) => some xs | some (.tup xs) => some xs | _ => none) = _
  cases j with
  | true => rw [show H a = some (.tup xs) from h]
  | false => rw [show H a = some (.lst xs) from h]
theorem seqOf_at {H : Hp} {k : Bool} {a : Addr} {p : List Int} (h : At k H a p) : seqOf H (.ref a) = some (p.map V.int) := by
  refine seqOf_sq (j := k) ?_
  cases k with
  | true => exact h
  | false => exact h
theorem seqOf_at2 {H : Hp} {k : Bool} {a : Addr} {rs : Rf} {P : Pn} (h : At2 k H a rs P) : seqOf H (.ref a) = some (rfs rs) := seqOf_sq h.hs
theorem kd_sq {H : Hp} {j : Bool} {a : Addr} {xs : List V} (h : Hs H j a xs) : ∃ k, Kd H (.ref a) k := by
  cases j with
  | true => exact ⟨_, .tup h⟩
  | false => exact ⟨_, .lst h⟩
theorem sv_ref (a : Addr) : Sv (.ref a) := fun z h => nomatch h
theorem k0_int {H : Hp} {z : Int} (h : z.natAbs < 2 ^ 100) : K0 H (.int z) := ⟨⟨_, .int z⟩, fun y e => by cases e; exact h⟩
theorem k1_at {H : Hp} {k : Bool} {a : Addr} {p : List Int} (h : At k H a p) (l : p.length ≤ 100) (b : Bd 100 p) : K1 H (.ref a) :=
  ⟨⟨kd_sq (j := k) (by cases k with | true => exact h | false => exact h), sv_ref a⟩, fun xs e => by
    rw [seqOf_at h] at e
    obtain rfl := Option.some.inj e
    exact ⟨by rw [List.length_map]; exact l, fun x hx => by obtain ⟨z, hz, rfl⟩ := List.mem_map.mp hx; exact k0_int (b z hz)⟩⟩
/-! what is a plane, told as one -/
theorem ints_of {xs : List V} (h : xs.all isI = true) : xs = (xs.map toI).map V.int := by
  rw [List.map_map]
  refine (List.map_id xs).symm.trans (List.map_congr_left fun x hx => ?_)
  obtain ⟨z, rfl⟩ := isI_int (List.all_eq_true.mp h x hx)
  rfl
theorem rows_of {H : Hp} : ∀ xs : List V, (∀ x ∈ xs, K1 H x ∧ lnV H x = true) → ∃ rs P, rfs rs = xs ∧ Rows H rs P ∧ ∀ p ∈ P, Cn p ∧ p.length ≤ 9 ∧ Bd 100 p
  | [], _ => ⟨[], [], rfl, .nil, fun p h => (by cases h)⟩
  | x :: xs, h => by
    obtain ⟨rs, P, e, hr, hp⟩ := rows_of xs fun y hy => h y (List.mem_cons_of_mem _ hy)
    obtain ⟨k1, hl⟩ := h x List.mem_cons_self
    obtain ⟨k, hk⟩ := k1.k0.kd
    rcases hk.cs with ⟨_, e0⟩ | ⟨j, a, ys, _, rfl, e0, et⟩
    · unfold lnV at hl; rw [e0] at hl; cases hl
    · unfold lnV at hl
      rw [e0] at hl
      have hl2 : lnB 9 ys = true := hl
      unfold lnB at hl2
      simp only [Bool.and_eq_true, decide_eq_true_eq] at hl2
      obtain ⟨⟨l9, hI⟩, hz⟩ := hl2
      have ey := ints_of hI
      refine ⟨(j, a) :: rs, ys.map toI :: P, by rw [← e]; rfl, .cons ?_ hr, fun p hm => ?_⟩
      · cases j with
        | true => show H a = _; rw [← ey]; exact et
        | false => show H a = _; rw [← ey]; exact et
      · rcases List.mem_cons.mp hm with z | z
        · subst z
          refine ⟨fun z hz2 z0 => ?_, by rw [List.length_map]; exact l9, fun z hz2 => ?_⟩
          · subst z0
            have : ys.getLast? = some (.int 0) := by
              rw [ey, List.getLast?_map, hz2]; rfl
            have ne : ys.isEmpty = false := by cases ys with | nil => simp at hz2 | cons _ _ => rfl
            rw [ne, this] at hz
            simp at hz
          · obtain ⟨y, hy, rfl⟩ := List.mem_map.mp hz2
            obtain ⟨i, rfl⟩ := isI_int (List.all_eq_true.mp hI y hy)
            exact ((k1.it ys e0).2 _ hy).sm i rfl
        · exact hp p z
theorem plane_of {H : Hp} {v : V} (h : K2 H v) (hp : plB H v = true) : ∃ (k : Bool) (a : Addr) (rs : Rf) (P : Pn), v = .ref a ∧ At2 k H a rs P ∧ Cn2 P ∧ Dg 8 P ∧ Bd2 100 P := by
  obtain ⟨k, hk⟩ := h.k0.kd
  rcases hk.cs with ⟨_, e0⟩ | ⟨j, a, xs, _, rfl, e0, et⟩
  · unfold plB at hp; rw [e0] at hp; cases hp
  · unfold plB at hp
    rw [e0] at hp
    have hp2 : (decide (xs.length ≤ 9) && xs.all (lnV H) && lastB H xs) = true := hp
    simp only [Bool.and_eq_true, decide_eq_true_eq] at hp2
    obtain ⟨⟨l9, hA⟩, hL⟩ := hp2
    obtain ⟨rs, P, er, hr, hP⟩ := rows_of xs fun x hx => ⟨(h.it xs e0).2 x hx, List.all_eq_true.mp hA x hx⟩
    have lP : P.length ≤ 9 := by rw [← hr.len, ← rfs_len, er]; exact l9
    have h2 : At2 j H a rs P := At2.mk' (by rw [er]; exact et) hr
    refine ⟨j, a, rs, P, rfl, h2, ⟨fun p hp => (hP p hp).1, fun p hlast pe => ?_⟩, ⟨by omega, fun p hp => by have := (hP p hp).2.1; omega⟩, fun p hp => (hP p hp).2.2⟩
    have hn : P ≠ [] := fun z => by rw [z] at hlast; cases hlast
    obtain ⟨k', b, e1, hb⟩ := h2.last hn
    have hx : xs ≠ [] := fun z => by
      have := List.length_pos_iff.mpr hn
      rw [← hr.len, ← rfs_len, er, z] at this
      simp at this
    obtain ⟨w, g1, g2, _⟩ := last_at1 hx
    rw [er] at e1
    obtain rfl : w = .ref b := Option.some.inj (g1.symm.trans e1)
    have hp3 : ro P (P.length - 1) = p := by
      have := List.length_pos_iff.mpr hn
      rw [ro_at (by omega)]
      rw [List.getLast?_eq_getElem?, List.getElem?_eq_getElem (by omega)] at hlast
      exact Option.some.inj hlast
    rw [hp3, pe] at hb
    unfold lastB at hL
    rw [g2] at hL
    have hL2 : fullV H (.ref b) = true := hL
    unfold fullV at hL2
    rw [seqOf_at hb] at hL2
    cases hL2
theorem plane_known {k : Bool} {H : Hp} {a : Addr} {rs : Rf} {P : Pn} (h : At2 k H a rs P) (l : P.length ≤ 100) (lp : ∀ p ∈ P, p.length ≤ 100) (b : Bd2 100 P) : K2 H (.ref a) :=
  ⟨⟨kd_sq h.hs, sv_ref a⟩, fun xs e => by
    rw [seqOf_at2 h] at e
    obtain rfl := Option.some.inj e
    refine ⟨by rw [h.len]; exact l, fun x hx => ?_⟩
    obtain ⟨i, hi⟩ := List.mem_iff_getElem?.mp hx
    obtain ⟨k', c, rfl, _, hc, li⟩ := h.rows.get hi
    have m : ro P i ∈ P := by rw [ro_at li]; exact List.getElem_mem _
    exact k1_at hc (lp _ m) (b _ m)⟩
theorem line_yes {H : Hp} {k : Bool} {a : Addr} {p : List Int} (h : At k H a p) (l : p.length ≤ 9) (c : Cn p) : lnV H (.ref a) = true := by
  unfold lnV
  rw [seqOf_at h]
  show lnB 9 _ = true
  unfold lnB
  rw [List.length_map, decide_eq_true l, Bool.true_and, Bool.and_eq_true]
  refine ⟨List.all_eq_true.mpr fun x hx => by obtain ⟨z, _, rfl⟩ := List.mem_map.mp hx; rfl, ?_⟩
  rw [List.getLast?_map]
  cases e : p.getLast? with
  | none =>
    have : p = [] := List.getLast?_eq_none_iff.mp e
    subst this; rfl
  | some z =>
    have := c z e
    simp [this]
theorem plane_yes {k : Bool} {H : Hp} {a : Addr} {rs : Rf} {P : Pn} (h : At2 k H a rs P) (c : Cn2 P) (d : Dg 8 P) : plB H (.ref a) = true := by
  unfold plB
  rw [seqOf_at2 h]
  show (decide ((rfs rs).length ≤ 9) && (rfs rs).all (lnV H) && lastB H (rfs rs)) = true
  rw [h.len, decide_eq_true (show P.length ≤ 9 from d.x), Bool.true_and, Bool.and_eq_true]
  refine ⟨List.all_eq_true.mpr fun x hx => ?_, ?_⟩
  · obtain ⟨i, hi⟩ := List.mem_iff_getElem?.mp hx
    obtain ⟨k', b, rfl, _, hb, li⟩ := h.rows.get hi
    have m : ro P i ∈ P := by rw [ro_at li]; exact List.getElem_mem _
    exact line_yes hb (d.y _ m) (c.row _ m)
  · by_cases hn : P = []
    · have : (rfs rs) = [] := List.length_eq_zero_iff.mp (by rw [h.len, hn]; rfl)
      rw [this]; rfl
    · obtain ⟨k', b, e1, hb⟩ := h.last hn
      have hx : rfs rs ≠ [] := fun z => by
        have := List.length_pos_iff.mpr hn
        rw [← h.len, z] at this
        simp at this
      obtain ⟨w, g1, g2, _⟩ := last_at1 hx
      obtain rfl : w = .ref b := Option.some.inj (g1.symm.trans e1)
      unfold lastB
      rw [g2]
      show fullV H (.ref b) = true
      unfold fullV
      rw [seqOf_at hb]
      have := List.length_pos_iff.mpr (cn2_last c hn)
      simp only [List.length_map, decide_eq_true_eq]
      exact this
/-! what the defs promise -/
def spIsPl : Sp := fun vs H Q _ => ∃ v : V, vs = [v] ∧ K2 H v ∧ ∀ H', Same H H' → Q (.bl (plB H v)) H'
def spIsRow : Sp := fun vs H Q _ => ∃ (v : V) (n : Nat), vs = [v, .int (n : Nat)] ∧ K0 H v ∧ ∀ H', Same H H' → Q (.bl (rowV H n v)) H'
def spIsChB : Sp := fun vs H Q _ => ∃ v : V, vs = [v] ∧ K1 H v ∧ ∀ H', Same H H' → Q (.bl (chB H v)) H'
structure Pl1 (k : Bool) (H : Hp) (a : Addr) (rs : Rf) (P : Pn) : Prop where
  p8 : Pl8 k H a rs P
  b1 : Bd2 100 P
theorem Pl1.same {k : Bool} {H H' : Hp} {a : Addr} {rs : Rf} {P : Pn} (s : Same H H') (h : Pl1 k H a rs P) : Pl1 k H' a rs P := ⟨h.p8.same s, h.b1⟩
theorem Pl1.mk1 {k : Bool} {H : Hp} {a : Addr} {rs : Rf} {P : Pn} (h : At2 k H a rs P) (c : Cn2 P) (d : Dg 8 P) (b : Bd2 100 P) : Pl1 k H a rs P := ⟨⟨h, c, d, b.mono (by decide)⟩, b⟩
theorem Pl1.k2 {k : Bool} {H : Hp} {a : Addr} {rs : Rf} {P : Pn} (h : Pl1 k H a rs P) : K2 H (.ref a) :=
  plane_known h.p8.at_ (by have := h.p8.dg.x; omega) (fun p hp => by have := h.p8.dg.y p hp; omega) h.b1
theorem Pl1.yes {k : Bool} {H : Hp} {a : Addr} {rs : Rf} {P : Pn} (h : Pl1 k H a rs P) : plB H (.ref a) = true := plane_yes h.p8.at_ h.p8.cn h.p8.dg
def spChk1 : Sp := fun vs H Q _ => ∃ (k : Bool) (a : Addr) (rs : Rf) (P : Pn), vs = [.ref a] ∧ Pl1 k H a rs P ∧ ∀ H', Same H H' → Q .non H'
def spHead : Sp := fun vs H Q _ => ∃ (k : Bool) (a : Addr) (rs : Rf) (P : Pn), vs = [.ref a] ∧ Pl1 k H a rs P ∧ ∀ H', Same H H' → Q (.int (hd2 P)) H'
def spDegP : Sp := fun vs H Q _ => ∃ (k : Bool) (a : Addr) (rs : Rf) (P : Pn), vs = [.ref a] ∧ Pl1 k H a rs P ∧
  ∀ H' t, Same H H' → H t = none → H' t = some (.tup [.int ((P.length : Int) - 1), .int ((wid P : Int) - 1)]) → Q (.ref t) H'
def spPlain1 : Sp := fun vs H Q _ => ∃ (k : Bool) (a : Addr) (rs : Rf) (P : Pn), vs = [.ref a] ∧ Pl1 k H a rs P ∧ NewP H (pl2 P) Q
end Kr
/-! The greatest key of a table. -/
namespace Kr
open PySem PySem.Spec PySem.W PyProof.Rows L2

def nuP (p : Pr) : Int := (p.1 : Int) * 1000 + (p.2 : Int)
theorem lt_nu {p q : Pr} (hp : p.2 < 1000) (hq : q.2 < 1000) : dataLt (.tuple [.int (p.1 : Nat), .int (p.2 : Nat)]) (.tuple [.int (q.1 : Nat), .int (q.2 : Nat)]) = decide (nuP q > nuP p) := by
  rw [dataLt_ii]
  refine decide_eq_decide.mpr ?_
  unfold nuP
  omega
def pD (p : Pr) : PyData := .tuple [.int (p.1 : Nat), .int (p.2 : Nat)]
def rMaxT : List V → Hp → VK → Prop := fun vs H Q => ∃ (d : Addr) (o : Obj) (T : Tm), vs = [.ref d] ∧ H d = some (.frz o (.dT (encT T))) ∧ T ≠ [] ∧ (∀ p ∈ T, p.1.2 < 1000) ∧
  ∀ (i : Nat) (l : i < T.length) (q : Addr), (∀ p ∈ T, nuP p.1 ≤ nuP T[i].1) → H q = some (.tup [.int (T[i].1.1 : Nat), .int (T[i].1.2 : Nat)]) → Q (.ref q) H
section
variable {X : Cx}
theorem cr_maxT (hc : X.calm = true) (hu : X.A.units + 64 < cLine) : CallR X (.builtin "max") rMaxT := by
  intro pins s σ H vs us Q I r h
  obtain ⟨d, o, T, rfl, hd, hT, hb, q⟩ := h
  rw [Vals.ref1 r]
  obtain ⟨hs, hgd, hx, es, ep, hdt, hsz, ent⟩ := I.frzT hd
  have le : (encT T).length = T.length := by simp [encT]
  rw [le] at hsz
  have ld := Heap.lt_size hgd
  have key : ∀ i (hi : i < es.size), ∃ (l : i < T.length) (a : Addr), es[i].key = .ref a ∧ H a = some (.tup [.int (T[i].1.1 : Nat), .int (T[i].1.2 : Nat)]) := fun i hi => by
    have l : i < T.length := by omega
    obtain ⟨en, a, e1, e2, e3⟩ := ent i (pairKey T[i].1) (.int T[i].2) (by simp [encT, l])
    rw [Array.getElem?_eq_getElem hi] at e1
    cases e1
    exact ⟨l, a, e2, e3⟩
  have W := ((Walks.rawKeys (prog := X.prog) (w := X.w) (show X.A.in1.handled = none from I.ok.hd hc) s.heap.objs.size d (Nat.ne_of_lt ld) es ep).mono_item (P' := fun i v => ∃ (l : i < T.length) (a : Addr), v = .ref a ∧ H a = some (.tup [.int (T[i].1.1 : Nat), .int (T[i].1.2 : Nat)])) fun i v _ ⟨hi, e⟩ => by
    obtain ⟨l, a, e1, e2⟩ := key i hi
    exact ⟨l, a, e.trans e1, e2⟩).toS
  refine call_max_walkH (iter_keys hs hgd hx hdt ?_)
  refine ⟨s.heap.objs.size, [s.heap.objs.size, d], [s.heap.objs.size], _, es.size, _, _, s.heap, fun i j => decide (nuP (T.getD i ((0, 0), 0)).1 > nuP (T.getD j ((0, 0), 0)).1), rfl, W, ⟨⟨_, Heap.get?_push_size _ rfl, rfl, rfl⟩, ⟨o, Heap.get?_push_of_some _ hgd, hx, hdt⟩⟩, fun b hb => ?_, ?_, fun b o e z => ?_, fun b o e => Heap.get?_push_of_some _ e, ?_, ?_⟩
  · show b < (s.heap.push _).objs.size
    rw [Heap.size_push]
    rcases List.mem_cons.mp hb with e | e
    · rw [e]; exact Nat.lt_succ_self _
    · rw [show b = d by simpa using e]; exact Nat.lt_succ_of_lt ld
  · rw [hsz]; exact List.length_pos_iff.mpr hT
  · rw [show b = s.heap.objs.size by simpa using z] at e
    exact absurd (Heap.lt_size e) (Nat.lt_irrefl _)
  · intro i j vi vj s' Q' E' hk hi hj hq
    obtain ⟨li, a, rfl, ea⟩ := hi
    obtain ⟨lj, b, rfl, eb⟩ := hj
    obtain ⟨as1, r1⟩ := Dp.reads I (pD T[i].1) _ _ (show Dp X.K H (.ref a) (pD T[i].1) from .tup (SqT.of ea) (.cons (.int _) (.cons (.int _) .nil))) (show RelV (.ref a) (.ref a) from rfl)
    obtain ⟨as2, r2⟩ := Dp.reads I (pD T[j].1) _ _ (show Dp X.K H (.ref b) (pD T[j].1) from .tup (SqT.of eb) (.cons (.int _) (.cons (.int _) .nil))) (show RelV (.ref b) (.ref b) from rfl)
    refine rcGt_alike _ _ X.A.in1 s' _ _ _ _ (Reads.keeps hk r1) (Reads.keeps hk r2) (by simp [pD, alike, alikeAll]) (by simp [pD]) ?_ _ _ E' Q' ?_
    · have : X.A.in1.units = X.A.units + 1 := rfl
      rw [this]
      simp [pD, PyData.depth, PyData.depthAll]; omega
    · rw [show dataLt (pD T[j].1) (pD T[i].1) = _ from lt_nu (hb _ (List.getElem_mem _)) (hb _ (List.getElem_mem _))]
      simpa [List.getD, List.getElem?_eq_getElem li, List.getElem?_eq_getElem lj] using hq
  · rintro v s' ⟨l, a, rfl, ea⟩ hm
    obtain ⟨h1, h2⟩ := argBest_gt (fun i => nuP (T.getD i ((0, 0), 0)).1) (es.size - 1)
    obtain ⟨m1, m2, m3, m4, m5⟩ := hm
    obtain ⟨h', g', dr', tk', os'⟩ := s'
    obtain rfl : g' = s.gens := m2
    obtain rfl : dr' = s.drawn := m3
    obtain rfl : os' = s.os := m4
    have I1 : Inv X pins σ H { s with heap := h', toks := tk' } := I.kept fun b o e => m1 b o (fun z => by rw [show b = s.heap.objs.size by simpa using z] at e; exact absurd (Heap.lt_size e) (Nat.lt_irrefl _)) (Heap.get?_push_of_some _ e)
    refine ⟨.ref a, H, I1, rfl, q _ l a (fun p hp => ?_) ea⟩
    obtain ⟨j, lj, rfl⟩ := List.mem_iff_getElem.mp hp
    have gd : ∀ {k : Nat} (l : k < T.length), T.getD k ((0, 0), 0) = T[k] := fun l => by rw [List.getD_eq_getElem?_getD, List.getElem?_eq_getElem l]; rfl
    have := h2 j (by omega)
    rw [gd l, gd lj] at this
    exact this
end
/-! a table held against an empty one -/
section
variable {prog : Program} {w : World} {A : Around} {E : Value → Shared → Prop} {s : Shared}
theorem samePairs0 {nm : String} {a b : Addr} {oa ob : Obj} {es es' : Array DictEntry} {ep ep' : Nat} {Q : Bool → Shared → Prop} (ha : (a == sysModules) = false) (hb : (b == sysModules) = false)
    (hoa : s.heap.get? a = some oa) (hda : oa.data = .dict es ep) (hob : s.heap.get? b = some ob) (hdb : ob.data = .dict es' ep') (h0 : es'.size = 0) (h : Q (es.size == 0) s) :
    wpAny (model prog w) A (Builtin.Dict.samePairs nm a b) Q E s := by
  unfold Builtin.Dict.samePairs Builtin.Dict.showsAll
  rw [if_neg (show ¬ (a == sysModules) = true by rw [ha]; exact Bool.false_ne_true), if_neg (show ¬ (b == sysModules) = true by rw [hb]; exact Bool.false_ne_true)]
  refine wpAny_bind (wpAny_pure (wpAny_bind (wpAny_pure ?_)))
  refine wpAny_bind (wpAny_dictEntries hoa hda ?_)
  dsimp only
  refine wpAny_bind (wpAny_dictEntries hob hdb ?_)
  by_cases hsz : es.size = es'.size
  case neg =>
    rw [if_pos (by simpa using hsz)]
    have hbf : (es.size == 0) = false := by rw [h0] at hsz; simpa using hsz
    rw [hbf] at h
    exact wpAny_bind (wpAny_rule (wpAny_pure h))
  case pos =>
    have e0 : es.size = 0 := hsz.trans h0
    have h' : Q true s := by simpa [e0] using h
    rw [if_neg (by rw [hsz]; simp)]
    refine wpAny_bind (wpAny_dictEpoch hoa hda ?_)
    refine wpAny_bind ?_
    rw [Std.Legacy.Range.forIn_eq_forIn_range']
    simp only [Std.Legacy.Range.size, Nat.sub_zero, Nat.add_sub_cancel, Nat.div_one, e0, List.range'_zero, List.forIn_nil]
    exact wpAny_pure (wpAny_pure h')
theorem rc0T {a b : Addr} {oa ob : Obj} {es es' : Array DictEntry} {ep ep' : Nat} (ha : (a == sysModules) = false) (hb : (b == sysModules) = false)
    (hoa : s.heap.get? a = some oa) (ca : oa.ExactDict) (hda : oa.data = .dict es ep) (hob : s.heap.get? b = some ob) (cb : ob.ExactDict) (hdb : ob.data = .dict es' ep') (h0 : es'.size = 0)
    (hu : A.units < cLine) (E Q : Value → Shared → Prop) (h : Q (.bool (es.size == 0)) s) : wpAny (model prog w) A (richCompare .Eq (.ref a) (.ref b)) Q E s := by
  have ta : s.TypeIs (.ref a) "dict" := ⟨oa, hoa, ca.1⟩
  have tb : s.TypeIs (.ref b) "dict" := ⟨ob, hob, cb.1⟩
  refine wpAny_richCompare_same_room (op := .Eq) ta tb PySem.F.slot_dict_eq (wpAny_call_entry PySem.F.slot_dict_eq ta PySem.F.entry_dict_eq ?_ (PySem.F.args_dict_eq_2 _ _)) hu
  show wpAny _ _ (Builtin.Dict.dictSlotArgs "__eq__" ⟨[.ref a, .ref b], []⟩ >>= _) _ _ s
  refine wpAny_bind ?_
  unfold Builtin.Dict.dictSlotArgs
  refine wpAny_bind (wpAny_notOrdered_dict ta ?_)
  show wpAny _ _ (pure (Value.ref a, Value.ref b)) _ _ s
  refine wpAny_pure ?_
  refine wpAny_bind (wpAny_isInstance (T := "dict") tb PySem.F.sub_dict_dict ?_)
  simp only [Bool.not_true, Bool.false_eq_true, if_false]
  refine wpAny_bind (wpAny_pure (wpAny_bind (wpAny_pure ?_)))
  refine wpAny_bind (samePairs0 ha hb hoa hda hob hdb h0 ?_)
  refine wpAny_pure ⟨_, rfl, ?_, ?_⟩
  · exact fun x => nomatch x
  · simpa using h
theorem rc0N {a b : Addr} {oa ob : Obj} {es es' : Array DictEntry} {ep ep' : Nat} (ha : (a == sysModules) = false) (hb : (b == sysModules) = false)
    (hoa : s.heap.get? a = some oa) (ca : oa.ExactDict) (hda : oa.data = .dict es ep) (hob : s.heap.get? b = some ob) (cb : ob.ExactDict) (hdb : ob.data = .dict es' ep') (h0 : es'.size = 0)
    (hu : A.units < cLine) (E Q : Value → Shared → Prop) (h : Q (.bool (!(es.size == 0))) s) : wpAny (model prog w) A (richCompare .NotEq (.ref a) (.ref b)) Q E s := by
  have ta : s.TypeIs (.ref a) "dict" := ⟨oa, hoa, ca.1⟩
  have tb : s.TypeIs (.ref b) "dict" := ⟨ob, hob, cb.1⟩
  refine wpAny_richCompare_same_room (op := .NotEq) ta tb PySem.F.slot_dict_ne (wpAny_call_entry PySem.F.slot_dict_ne ta PySem.F.entry_dict_ne ?_ (PySem.F.args_dict_ne_2 _ _)) hu
  show wpAny _ _ (Builtin.Dict.dictSlotArgs "__ne__" ⟨[.ref a, .ref b], []⟩ >>= _) _ _ s
  refine wpAny_bind ?_
  unfold Builtin.Dict.dictSlotArgs
  refine wpAny_bind (wpAny_notOrdered_dict ta ?_)
  show wpAny _ _ (pure (Value.ref a, Value.ref b)) _ _ s
  refine wpAny_pure ?_
  refine wpAny_bind (wpAny_isInstance (T := "dict") tb PySem.F.sub_dict_dict ?_)
  simp only [Bool.not_true, Bool.false_eq_true, if_false]
  refine wpAny_bind (wpAny_pure (wpAny_bind (wpAny_pure ?_)))
  refine wpAny_bind (samePairs0 ha hb hoa hda hob hdb h0 ?_)
  refine wpAny_pure ⟨_, rfl, ?_, ?_⟩
  · exact fun x => nomatch x
  · simpa using h
end
section
variable {X : Cx}
def rEq0T : R2 := fun x y H Q => ∃ (a b : Addr) (o : Obj) (ks : List (List Key × V)), x = .ref a ∧ y = .ref b ∧ H a = some (.frz o (.dT ks)) ∧ (H b = some (.dT []) ∨ ∃ o' : Obj, H b = some (.frz o' (.dT []))) ∧ Q (.bl (decide (ks = []))) H
theorem op_eq0T (hu' : X.A.units + 64 < cLine) : OpR X (compareOp .Eq) rEq0T := by
  intro pins s σ H x y v u Q I rx ry h
  obtain ⟨a, b, o, ks, rfl, rfl, ea, eb, q⟩ := h
  have hu : X.A.units < cLine := by omega
  obtain rfl : v = Value.ref a := rx
  obtain rfl : u = Value.ref b := ry
  obtain ⟨sa, ha, ca, es, ep, hda, hsz, _⟩ := I.frzT ea
  obtain ⟨sb, ob, es', ep', hob, cb, hdb, h0⟩ : (b == sysModules) = false ∧ ∃ (ob : Obj) (es' : Array DictEntry) (ep' : Nat), s.heap.get? b = some ob ∧ ob.ExactDict ∧ ob.data = .dict es' ep' ∧ es'.size = 0 := by
    rcases eb with eb | ⟨o', eb⟩
    · obtain ⟨_, sb, xs, pr, ob, es', ep', hob, cb, hdb, he, _⟩ := (show ObjOk X.prog X.w H s.heap b (.dT []) from I.hok b _ eb)
      cases pr
      have : es'.toList = [] := he
      exact ⟨sb, ob, es', ep', hob, cb, hdb, by rw [← Array.length_toList, this]; rfl⟩
    · obtain ⟨sb, hb, cb, es', ep', hdb, hz, _⟩ := I.frzT eb
      exact ⟨sb, o', es', ep', hb, cb, hdb, by simpa using hz⟩
  refine rc0T sa sb ha ca hda hob cb hdb h0 hu _ _ (fin_bl I q ?_)
  rw [hsz]
  cases ks <;> simp
def rNe0T : R2 := fun x y H Q => ∃ (a b : Addr) (o : Obj) (ks : List (List Key × V)), x = .ref a ∧ y = .ref b ∧ H a = some (.frz o (.dT ks)) ∧ (H b = some (.dT []) ∨ ∃ o' : Obj, H b = some (.frz o' (.dT []))) ∧ Q (.bl (!decide (ks = []))) H
theorem op_ne0T (hu' : X.A.units + 64 < cLine) : OpR X (compareOp .NotEq) rNe0T := by
  intro pins s σ H x y v u Q I rx ry h
  obtain ⟨a, b, o, ks, rfl, rfl, ea, eb, q⟩ := h
  have hu : X.A.units < cLine := by omega
  obtain rfl : v = Value.ref a := rx
  obtain rfl : u = Value.ref b := ry
  obtain ⟨sa, ha, ca, es, ep, hda, hsz, _⟩ := I.frzT ea
  obtain ⟨sb, ob, es', ep', hob, cb, hdb, h0⟩ : (b == sysModules) = false ∧ ∃ (ob : Obj) (es' : Array DictEntry) (ep' : Nat), s.heap.get? b = some ob ∧ ob.ExactDict ∧ ob.data = .dict es' ep' ∧ es'.size = 0 := by
    rcases eb with eb | ⟨o', eb⟩
    · obtain ⟨_, sb, xs, pr, ob, es', ep', hob, cb, hdb, he, _⟩ := (show ObjOk X.prog X.w H s.heap b (.dT []) from I.hok b _ eb)
      cases pr
      have : es'.toList = [] := he
      exact ⟨sb, ob, es', ep', hob, cb, hdb, by rw [← Array.length_toList, this]; rfl⟩
    · obtain ⟨sb, hb, cb, es', ep', hdb, hz, _⟩ := I.frzT eb
      exact ⟨sb, o', es', ep', hb, cb, hdb, by simpa using hz⟩
  refine rc0N sa sb ha ca hda hob cb hdb h0 hu _ _ (fin_bl I q ?_)
  rw [hsz]
  cases ks <;> simp
end
end Kr
/-! What a law reads off a table: degrees, the head, the plain form. -/
namespace Kr
open PySem PySem.Spec
open PyProof.Rows L2

theorem Tells.tall {T : Tm} {P : Pn} (t : Tells T P) {m : Int} (h : m ∈ (-1 : Int) :: T.map fun x => (x.1.1 : Int)) (g : ∀ y ∈ (-1 : Int) :: T.map fun x => (x.1.1 : Int), y ≤ m) : m = (P.length : Int) - 1 := by
  have := t.top (m := m + 1) ?_ ?_
  · omega
  · rcases List.mem_cons.mp h with e | e
    · rw [e]; exact List.mem_cons_self
    · obtain ⟨x, hx, rfl⟩ := List.mem_map.mp e
      exact List.mem_cons_of_mem _ (List.mem_map.mpr ⟨x, hx, rfl⟩)
  · intro y hy
    rcases List.mem_cons.mp hy with e | e
    · have := g (-1) List.mem_cons_self; omega
    · obtain ⟨x, hx, rfl⟩ := List.mem_map.mp e
      have := g _ (List.mem_cons_of_mem _ (List.mem_map_of_mem (f := fun x : Pr × Int => (x.1.1 : Int)) hx))
      omega
theorem Tells.mem {T : Tm} {P : Pn} (t : Tells T P) {i j : Nat} (h : co2 P i j ≠ 0) : ∃ x ∈ T, x.1 = (i, j) ∧ x.2 = co2 P i j := by
  rw [← t.co] at h ⊢
  exact cT_mem h
theorem wid_row : ∀ {P : Pn}, 1 ≤ wid P → ∃ i, i < P.length ∧ (ro P i).length = wid P := fun {P} h => by
  obtain ⟨p, hp, e⟩ := (show ∀ {P : Pn}, 1 ≤ wid P → ∃ p ∈ P, p.length = wid P from fun {P} => by
    induction P with
    | nil => intro h; simp [wid] at h
    | cons p P ih =>
      intro h
      by_cases e : wid P ≤ p.length
      · refine ⟨p, List.mem_cons_self, ?_⟩
        show p.length = max p.length (wid P)
        omega
      · obtain ⟨q, hq, e2⟩ := ih (by have : wid (p :: P) = max p.length (wid P) := rfl; omega)
        exact ⟨q, List.mem_cons_of_mem _ hq, by rw [e2]; show wid P = max p.length (wid P); omega⟩) h
  obtain ⟨i, li, ei⟩ := List.mem_iff_getElem.mp hp
  exact ⟨i, li, by rw [ro_at li, ei]; exact e⟩
theorem Tells.wide {T : Tm} {P : Pn} (t : Tells T P) {m : Int} (h : m ∈ (-1 : Int) :: T.map fun x => (x.1.2 : Int)) (g : ∀ y ∈ (-1 : Int) :: T.map fun x => (x.1.2 : Int), y ≤ m) : m = (wid P : Int) - 1 := by
  have up : m ≤ (wid P : Int) - 1 := by
    rcases List.mem_cons.mp h with e | e
    · omega
    · obtain ⟨x, hx, rfl⟩ := List.mem_map.mp e
      obtain ⟨_, l1, l2⟩ := t.key hx
      have := le_wid (P := P) (p := ro P x.1.1) (by rw [ro_at l1]; exact List.getElem_mem _)
      omega
  by_cases w : 1 ≤ wid P
  · obtain ⟨i, li, ei⟩ := wid_row w
    have nz : co2 P i (wid P - 1) ≠ 0 := by
      unfold co2
      rw [← ei]
      exact cn_last (t.cn.ro i) (List.length_pos_iff.mp (by omega))
    obtain ⟨x, hx, e, _⟩ := t.mem nz
    have := g _ (List.mem_cons_of_mem _ (List.mem_map_of_mem (f := fun x : Pr × Int => (x.1.2 : Int)) hx))
    rw [show x.1.2 = wid P - 1 by rw [e]] at this
    omega
  · have := g (-1) List.mem_cons_self
    omega
theorem Tells.head {T : Tm} {P : Pn} (t : Tells T P) (hP : P ≠ []) {i : Nat} (l : i < T.length) (g : ∀ p ∈ T, nuP p.1 ≤ nuP T[i].1) : T[i].2 = hd2 P := by
  obtain ⟨x, hx, e, ev⟩ := t.mem (hd2_ne t.cn hP)
  have h1 := g x hx
  obtain ⟨k1, k2, k3⟩ := t.key (List.getElem_mem l)
  have lt := t.ks.lt T[i].1 (List.mem_map_of_mem (f := Prod.fst) (List.getElem_mem l))
  rw [e] at h1
  unfold nuP at h1
  dsimp only at h1
  have e1 : T[i].1.1 = P.length - 1 := by
    have rl : (ro P (P.length - 1)).length ≤ 9 := by have := t.dg.ro (P.length - 1); omega
    omega
  rw [e1] at k3 h1
  have e2 : T[i].1.2 = (ro P (P.length - 1)).length - 1 := by omega
  rw [← k1, e1, e2]; rfl
theorem nil_of_tells {T : Tm} {P : Pn} (t : Tells T P) (h : P = []) : T = [] := by
  cases T with
  | nil => rfl
  | cons x T =>
    have := (t.key (x := x) List.mem_cons_self).2.1
    rw [h] at this; cases this
theorem tells_of_nil {P : Pn} (t : Tells [] P) : P = [] := Classical.byContradiction fun h => by
  obtain ⟨x, hx, _⟩ := t.mem (hd2_ne t.cn h)
  cases hx
theorem cT_mapV (f : Int → Int) (h0 : f 0 = 0) : ∀ (T : Tm) (p : Pr), cT (T.map fun x => (x.1, f x.2)) p = f (cT T p)
  | [], p => h0.symm
  | x :: T, p => by
    rw [List.map_cons, cT, cT]
    by_cases e : x.1 = p
    · rw [if_pos e, if_pos e]
    · rw [if_neg e, if_neg e]; exact cT_mapV f h0 T p
theorem ks_mapV (f : Int → Int) (T : Tm) : ksT (T.map fun x => (x.1, f x.2)) = ksT T := by
  unfold ksT; rw [List.map_map]; rfl
theorem Tells.plain {T : Tm} {P : Pn} (t : Tells T P) : Tells (T.map fun x => (x.1, x.2.fdiv (sg2 P))) (pl2 P) where
  ks := ⟨by rw [ks_mapV (fun z => z.fdiv (sg2 P))]; exact t.ks.nd, by rw [ks_mapV (fun z => z.fdiv (sg2 P))]; exact t.ks.lt⟩
  nz := fun x hx => by
    obtain ⟨y, hy, rfl⟩ := List.mem_map.mp hx
    obtain ⟨k1, k2, _⟩ := t.key hy
    have hP : P ≠ [] := fun e => by rw [e] at k2; cases k2
    have := sg_pl2 t.cn y.1.1 y.1.2
    rw [co2_pl2, k1] at this
    intro e
    dsimp only at e
    rw [e, Int.mul_zero] at this
    exact t.nz y hy this.symm
  cn := cn2_pl t.cn
  co := fun i j => by rw [cT_mapV (fun z => z.fdiv (sg2 P)) (Int.zero_fdiv _), t.co, co2_pl2]
theorem Tells.cnt {T : Tm} {P : Pn} (t : Tells T P) : cnt (T.map (·.2)) = cnt2 P := by
  symm
  refine cnt2_of (fun i j => ?_) fun d hd => cnt_all fun j => ?_
  · by_cases h : co2 P i j = 0
    · rw [h]; exact Int.dvd_zero _
    · obtain ⟨x, hx, _, e⟩ := t.mem h
      rw [← e]
      exact cnt_dvd (List.mem_map_of_mem hx)
  · by_cases l : j < (T.map (·.2)).length
    · rw [co_at l]
      obtain ⟨x, hx, e⟩ := List.mem_map.mp (List.getElem_mem l)
      rw [← e, ← (t.key hx).1]
      exact hd _ _
    · rw [co_big (by omega)]; exact Int.dvd_zero _
/-! what these defs promise -/
def spDegT : Sp := fun vs H Q _ => ∃ (a : Addr) (P : Pn), vs = [.ref a] ∧ TabP H a P ∧
  ∀ H' t, Same H H' → H t = none → H' t = some (.tup [.int ((P.length : Int) - 1), .int ((wid P : Int) - 1)]) → Q (.ref t) H'
def spDiv2 : Sp := fun vs H Q _ => ∃ x y : Int, vs = [.int x, .int y] ∧ Q (.int (Int.gcd x y : Nat)) H
def spDivOf : Sp := fun vs H Q _ => ∃ (a : Addr) (p : List Int), vs = [.ref a] ∧ At false H a p ∧ Q (.int (cnt p : Nat)) H
def spPlainT : Sp := fun vs H Q _ => ∃ (a : Addr) (P : Pn), vs = [.ref a] ∧ TabP H a P ∧ Bd2 100 P ∧ NewT H (pl2 P) Q
end Kr
/-! Values of all kinds, as a law makes them. -/
namespace Kr
open PySem PySem.Spec
open PyProof.Rows L2

/-- the heap without one address -/
def er (o : Addr) (H : Hp) : Hp := fun b => if b = o then none else H b
theorem er_ne {o b : Addr} {H : Hp} (h : b ≠ o) : er o H b = H b := by unfold er; rw [if_neg h]
theorem er_same (o : Addr) (H : Hp) : Same (er o H) H := fun b u e => by
  unfold er at e
  by_cases h : b = o
  · rw [if_pos h] at e; cases e
  · rwa [if_neg h] at e
theorem er_upd {o : Addr} {H : Hp} {u : HO} : er o (upd H o u) = er o H := by
  funext b; unfold er
  by_cases h : b = o
  · rw [if_pos h, if_pos h]
  · rw [if_neg h, if_neg h, upd_ne h]
theorem er_mono {o : Addr} {H H' : Hp} (s : Same H H') : Same (er o H) (er o H') := fun b u e => by
  unfold er at e ⊢
  by_cases h : b = o
  · rw [if_pos h] at e; cases e
  · rw [if_neg h] at e ⊢; exact s _ _ e
theorem er_none {o : Addr} {H : Hp} (n : H o = none) : er o H = H := by
  funext b; unfold er
  by_cases h : b = o
  · rw [if_pos h, h, n]
  · rw [if_neg h]
/-- a number, None, a truth, "1" -/
inductive Sc : V → Prop where
  | non : Sc .non
  | bl (b : Bool) : Sc (.bl b)
  | int {z : Int} : z.natAbs < 2 ^ 63 → Sc (.int z)
  | one : Sc (.str "1")
theorem okd_sc {K : PySem.W.Frag} {H : Hp} {x : V} (h : Sc x) : ∃ d, Dp K H x d ∧ Okd d 1 1 := by
  cases h with
  | non => exact ⟨_, .non, by decide, by decide, by decide, by decide, by decide, by decide⟩
  | bl b => exact ⟨_, .bl b, by cases b <;> decide, by cases b <;> decide, by cases b <;> decide, by cases b <;> decide +kernel, by cases b <;> decide, by cases b <;> decide⟩
  | int h => exact ⟨_, .int _, (okd_int h).mono (by decide) (by decide)⟩
  | one => exact ⟨_, .str _, by decide, by decide, by decide, by decide +kernel, by decide, by simp [PyData.canLay0]; decide +kernel⟩
theorem Sc.k0 {H : Hp} {x : V} (h : Sc x) : K0 H x := by
  cases h with
  | non => exact ⟨⟨_, .non⟩, fun z e => nomatch e⟩
  | bl b => exact ⟨⟨_, .bl b⟩, fun z e => nomatch e⟩
  | int h => exact k0_int (Nat.lt_of_lt_of_le h (Nat.pow_le_pow_right (by decide) (by decide)))
  | one => exact ⟨⟨_, .str _⟩, fun z e => nomatch e⟩
theorem Sc.seq {H : Hp} {x : V} (h : Sc x) : seqOf H x = none := by cases h <;> rfl
structure It0 (K : PySem.W.Frag) (H : Hp) (x : V) : Prop where
  k : K0 H x
  d : ∃ d, Dp K H x d ∧ Okd d 2 40
structure ItD (K : PySem.W.Frag) (H : Hp) (x : V) : Prop where
  k : K1 H x
  d : ∃ d, Dp K H x d ∧ Okd d 3 4200
structure It1 (K : PySem.W.Frag) (H : Hp) (x : V) : Prop where
  k : K1 H x
  d : (∃ d, Dp K H x d ∧ Okd d 3 4200) ∨ ∃ b, x = .ref b ∧ H b = some (.dK [])
theorem It0.same {K : PySem.W.Frag} {H H' : Hp} {x : V} (s : Same H H') (h : It0 K H x) : It0 K H' x := ⟨h.k.same s, h.d.elim fun d z => ⟨d, dp_same s z.1, z.2⟩⟩
theorem ItD.same {K : PySem.W.Frag} {H H' : Hp} {x : V} (s : Same H H') (h : ItD K H x) : ItD K H' x := ⟨h.k.same s, h.d.elim fun d z => ⟨d, dp_same s z.1, z.2⟩⟩
theorem It1.same {K : PySem.W.Frag} {H H' : Hp} {x : V} (s : Same H H') (h : It1 K H x) : It1 K H' x := ⟨h.k.same s, h.d.elim (fun ⟨d, z⟩ => .inl ⟨d, dp_same s z.1, z.2⟩) fun ⟨b, e, z⟩ => .inr ⟨b, e, s _ _ z⟩⟩
theorem ItD.it {K : PySem.W.Frag} {H : Hp} {x : V} (h : ItD K H x) : It1 K H x := ⟨h.k, .inl h.d⟩
theorem it0_sc {K : PySem.W.Frag} {H : Hp} {x : V} (h : Sc x) : It0 K H x := ⟨h.k0, (okd_sc h).elim fun d z => ⟨d, z.1, z.2.mono (by decide) (by decide)⟩⟩
theorem itd_sc {K : PySem.W.Frag} {H : Hp} {x : V} (h : Sc x) : ItD K H x := ⟨⟨h.k0, fun xs e => by rw [h.seq] at e; cases e⟩, (okd_sc h).elim fun d z => ⟨d, z.1, z.2.mono (by decide) (by decide)⟩⟩
theorem dps_of {K : PySem.W.Frag} {H : Hp} {n m : Nat} : ∀ {xs : List V}, (∀ x ∈ xs, ∃ d, Dp K H x d ∧ Okd d n m) → ∃ ds, DpAll K H xs ds ∧ ∀ d ∈ ds, Okd d n m
  | [], _ => ⟨[], .nil, fun d h => nomatch h⟩
  | x :: xs, h => by
    obtain ⟨d, h1, h2⟩ := h x List.mem_cons_self
    obtain ⟨ds, g1, g2⟩ := dps_of fun y hy => h y (List.mem_cons_of_mem _ hy)
    exact ⟨d :: ds, .cons h1 g1, fun e he => by
      rcases List.mem_cons.mp he with z | z
      · rw [z]; exact h2
      · exact g2 e z⟩
theorem dps_len {K : PySem.W.Frag} {H : Hp} : ∀ {xs : List V} {ds : List PyData}, DpAll K H xs ds → ds.length = xs.length
  | _, _, .nil => rfl
  | _, _, .cons _ r => by rw [List.length_cons, List.length_cons, dps_len r]
/-- a list or a tuple of such -/
theorem dp_seq {K : PySem.W.Frag} {H : Hp} {j : Bool} {a : Addr} {xs : List V} {n m : Nat} (e : Hs H j a xs) (h : ∀ x ∈ xs, ∃ d, Dp K H x d ∧ Okd d n m) : ∃ d, Dp K H (.ref a) d ∧ Okd d (n + 1) ((m + 1) * xs.length) := by
  obtain ⟨ds, h1, h2⟩ := dps_of h
  have := okd_seq (k := j) h2
  rw [dps_len h1] at this
  refine ⟨_, ?_, this⟩
  cases j with
  | true => exact .tup (SqT.of e) h1
  | false => exact .lst (SqL.of e) h1
theorem it0_seq {K : PySem.W.Frag} {H : Hp} {j : Bool} {a : Addr} {xs : List V} (e : Hs H j a xs) (h : ∀ x ∈ xs, Sc x) (l : xs.length ≤ 20) : It0 K H (.ref a) :=
  ⟨⟨kd_sq e, sv_ref a⟩, (dp_seq e fun x hx => okd_sc (h x hx)).elim fun d z => ⟨d, z.1, z.2.mono (by decide) (by omega)⟩⟩
theorem itd_seq {K : PySem.W.Frag} {H : Hp} {j : Bool} {a : Addr} {xs : List V} (e : Hs H j a xs) (h : ∀ x ∈ xs, It0 K H x) (l : xs.length ≤ 100) : ItD K H (.ref a) :=
  ⟨⟨⟨kd_sq e, sv_ref a⟩, fun ys ey => by rw [seqOf_sq e] at ey; cases ey; exact ⟨l, fun x hx => (h x hx).k⟩⟩,
   (dp_seq e fun x hx => (h x hx).d).elim fun d z => ⟨d, z.1, z.2.mono (by decide) (by omega)⟩⟩
theorem it1_d0 {K : PySem.W.Frag} {H : Hp} {b : Addr} (e : H b = some (.dK [])) : It1 K H (.ref b) :=
  ⟨⟨⟨⟨_, .dct e⟩, sv_ref b⟩, fun xs ex => by
    rcases (Kd.dct e).cs with ⟨_, z⟩ | ⟨_, _, _, z, _⟩
    · rw [z] at ex; cases ex
    · exact absurd z (by decide)⟩, .inr ⟨b, rfl, e⟩⟩
/-- a value that is judged -/
structure Vl (K : PySem.W.Frag) (H : Hp) (v : V) : Prop where
  k : K2 H v
  s : ∃ t, Sh K H v t
theorem Vl.same {K : PySem.W.Frag} {H H' : Hp} {x : V} (s : Same H H') (h : Vl K H x) : Vl K H' x := ⟨h.k.same s, h.s.elim fun t z => ⟨t, z.same s⟩⟩
theorem odd_of {K : PySem.W.Frag} {H : Hp} : ∀ {xs : List V}, (∀ x ∈ xs, It1 K H x) → ∃ ds, OddAll K H xs ds ∧ PyData.leavesShortAll 20 ds = true ∧ PyData.bulkAll ds ≤ 4201 * xs.length
  | [], _ => ⟨[], .nil, by simp [PyData.leavesShortAll], by simp [PyData.bulkAll]⟩
  | x :: xs, h => by
    obtain ⟨ds, g1, g2, g3⟩ := odd_of fun y hy => h y (List.mem_cons_of_mem _ hy)
    rcases (h x List.mem_cons_self).d with ⟨d, h1, h2⟩ | ⟨b, rfl, e⟩
    · refine ⟨d :: ds, .dat h1 h2.sh h2.hd (Nat.le_trans h2.dp (by decide)) g1, by simp [PyData.leavesShortAll, h2.ls, g2], ?_⟩
      have := h2.bk
      simp only [PyData.bulkAll, List.length_cons]; omega
    · refine ⟨.dict [] :: ds, .dct e g1, by simp [PyData.leavesShortAll, PyData.leavesShort, PyData.leavesShortKv, g2], ?_⟩
      simp only [PyData.bulkAll, PyData.bulk, PyData.bulkKv, List.length_cons]; omega
theorem vl_list {K : PySem.W.Frag} {H : Hp} {a : Addr} {xs : List V} (e : H a = some (.lst xs)) (l : xs.length ≤ 40) (h : ∀ x ∈ xs, It1 K H x) : Vl K H (.ref a) := by
  refine ⟨⟨⟨⟨_, .lst e⟩, sv_ref a⟩, fun ys ey => by rw [seqOf_sq (j := false) e] at ey; cases ey; exact ⟨by omega, fun x hx => (h x hx).k⟩⟩, ?_⟩
  by_cases n : xs = []
  · subst n
    exact ⟨_, .dat (.lst (SqL.of e) .nil) (by decide) (by decide) (by decide) (by decide +kernel)⟩
  · obtain ⟨ds, g1, g2, g3⟩ := odd_of h
    refine ⟨_, .odd e n g1 ?_⟩
    have s := PyData.shown_le_bulk 20 (by decide) (.list ds) (by simpa [PyData.leavesShort] using g2)
    have b : PyData.bulk (.list ds) ≤ 4201 * xs.length := by simpa only [PyData.bulk] using g3
    rw [sizeLine_eq]
    omega
theorem vl_tup {K : PySem.W.Frag} {H : Hp} {a : Addr} {xs : List V} (e : H a = some (.tup xs)) (l : xs.length ≤ 20) (h : ∀ x ∈ xs, ItD K H x) : Vl K H (.ref a) := by
  refine ⟨⟨⟨⟨_, .tup e⟩, sv_ref a⟩, fun ys ey => by rw [seqOf_sq (j := true) e] at ey; cases ey; exact ⟨by omega, fun x hx => (h x hx).k⟩⟩, ?_⟩
  obtain ⟨d, h1, h2⟩ := dp_seq (j := true) e fun x hx => (h x hx).d
  exact ⟨_, h2.shown h1 (by decide) (by omega)⟩
theorem vl_sc {K : PySem.W.Frag} {H : Hp} {x : V} (h : Sc x) : Vl K H x := by
  refine ⟨⟨h.k0, fun xs e => by rw [h.seq] at e; cases e⟩, ?_⟩
  cases h with
  | non => exact ⟨_, .non⟩
  | bl b => exact ⟨_, .bl b⟩
  | @int z hz => exact ⟨_, .int z (by
      by_cases z0 : z.natAbs = 0
      · rw [z0]; decide
      · exact (Nat.log2_lt z0).mpr (Nat.lt_of_lt_of_le hz (Nat.pow_le_pow_right (by decide) (by decide))))⟩
  | one => exact ⟨_, .str _ (by decide +kernel)⟩
theorem vl_str {K : PySem.W.Frag} {H : Hp} {x : Str} (h : (reprText x).length ≤ sizeLine) : Vl K H (.str x) := ⟨⟨⟨⟨_, .str x⟩, fun z e => nomatch e⟩, fun xs e => nomatch e⟩, _, .str _ h⟩
theorem vl_d0 {K : PySem.W.Frag} {H : Hp} {b : Addr} (e : H b = some (.dK [])) : Vl K H (.ref b) :=
  ⟨⟨⟨⟨_, .dct e⟩, sv_ref b⟩, fun xs ex => by
    rcases (Kd.dct e).cs with ⟨_, z⟩ | ⟨_, _, _, z, _⟩
    · rw [z] at ex; cases ex
    · exact absurd z (by decide)⟩, _, .d0 e⟩
theorem vl_d1 {K : PySem.W.Frag} {H : Hp} {b : Addr} {v : V} (e : H b = some (.dK [(.inl 0, v)])) (h : It0 K H v) : Vl K H (.ref b) := by
  refine ⟨⟨⟨⟨_, .dct e⟩, sv_ref b⟩, fun xs ex => by
    rcases (Kd.dct e).cs with ⟨_, z⟩ | ⟨_, _, _, z, _⟩
    · rw [z] at ex; cases ex
    · exact absurd z (by decide)⟩, ?_⟩
  obtain ⟨d, h1, h2⟩ := h.d
  refine ⟨_, .d1v 0 e (by decide) h1 h2.sh h2.hd (Nat.le_trans h2.dp (by decide)) ?_⟩
  have hl : PyData.leavesShort 20 (.dict [(.int 0, d)]) = true := by
    have : PyData.leavesShort 20 (.int 0) = true := by decide +kernel
    simp [PyData.leavesShort, PyData.leavesShortKv, h2.ls] at this ⊢
    exact this
  have s := PyData.shown_le_bulk 20 (by decide) _ hl
  have b : PyData.bulk (.dict [(.int 0, d)]) ≤ 100 := by
    have := h2.bk
    simp only [PyData.bulk, PyData.bulkKv]; omega
  rw [sizeLine_eq]
  omega
/-! expressions that give such -/
section
variable {R : Hp → V → Prop} {σ : L2.St} {H : Hp}
def GEp (R : Hp → V → Prop) (te : TE) (σ : L2.St) (H : Hp) : Prop := ∀ H1, Same H H1 → ∀ Q : VK, (∀ v H2, Same H1 H2 → R H2 v → Q v H2) → te σ H1 Q
def GAp (R : Hp → V → Prop) (ta : TA) (n : Nat) (σ : L2.St) (H : Hp) : Prop :=
  ∀ H1, Same H H1 → ∀ Q : List V → Hp → Prop, (∀ vs H2, Same H1 H2 → vs.length = n → (∀ v ∈ vs, R H2 v) → Q vs H2) → ta σ H1 Q
theorem gp_nil : GAp R tNil 0 σ H := fun H1 s Q q => q [] H1 (Same.refl _) rfl fun v h => nomatch h
theorem gp_cons (hR : ∀ H H' v, Same H H' → R H v → R H' v) {te : TE} {ta : TA} {n : Nat} (h : GEp R te σ H) (r : GAp R ta n σ H) : GAp R (tCons te ta) (n + 1) σ H := fun H1 s Q q =>
  h H1 s _ fun v H2 s2 gv => r H2 (s.trans s2) _ fun vs H3 s3 l gs => q (v :: vs) H3 (s2.trans s3) (by rw [List.length_cons, l]) fun y hy => by
    rcases List.mem_cons.mp hy with e | hy
    · rw [e]; exact hR _ _ _ s3 gv
    · exact gs y hy
theorem GAp.use {ta : TA} {n : Nat} {Q : List V → Hp → Prop} (g : GAp R ta n σ H) (q : ∀ vs H2, Same H H2 → vs.length = n → (∀ v ∈ vs, R H2 v) → Q vs H2) : ta σ H Q := g H (Same.refl _) Q q
theorem gp_c {v : V} (h : ∀ H', Same H H' → R H' v) : GEp R (tC v) σ H := fun H1 s Q q => q v H1 (Same.refl _) (h H1 s)
theorem gp_var {i : Nat} {v : V} (e : σ[i]? = some (some v)) (h : ∀ H', Same H H' → R H' v) : GEp R (tVar i) σ H := fun H1 s Q q => ⟨v, e, q v H1 (Same.refl _) (h H1 s)⟩
end
/-- the heap, or without one address -/
def vw (o : Option Addr) (H : Hp) : Hp := match o with | none => H | some a => er a H
def Vd (o : Option Addr) (H : Hp) : Prop := ∀ a, o = some a → ∃ u, H a = some u
theorem Vd.same {o : Option Addr} {H H' : Hp} (s : Same H H') (h : Vd o H) : Vd o H' := fun a e => (h a e).elim fun u z => ⟨u, s _ _ z⟩
theorem vd_none {H : Hp} : Vd none H := fun a e => nomatch e
theorem vw_same (o : Option Addr) (H : Hp) : Same (vw o H) H := by
  cases o with
  | none => exact Same.refl _
  | some a => exact er_same a H
theorem vw_mono {o : Option Addr} {H H' : Hp} (s : Same H H') : Same (vw o H) (vw o H') := by
  cases o with
  | none => exact s
  | some a => exact er_mono s
theorem vw_new {o : Option Addr} {H : Hp} {l : Addr} {u : HO} (v : Vd o H) (n : H l = none) : vw o (upd H l u) l = some u := by
  cases o with
  | none => exact upd_same
  | some a =>
    obtain ⟨w, hw⟩ := v a rfl
    show er a (upd H l u) l = _
    rw [er_ne (fun e => by rw [e, hw] at n; cases n), upd_same]
section
variable {o : Option Addr} {P R : Hp → V → Prop} {σ : L2.St} {H : Hp} {K : PySem.W.Frag}
def LEp (o : Option Addr) (P : Hp → V → Prop) (n : Nat) (te : TE) (σ : L2.St) (H : Hp) : Prop := ∀ H1, Same H H1 → ∀ Q : VK,
  (∀ a xs H2, Same H1 H2 → vw o H2 a = some (.lst xs) → xs.length ≤ n → (∀ x ∈ xs, P (vw o H2) x) → Q (.ref a) H2) → te σ H1 Q
abbrev Cl1 (P : Hp → V → Prop) : Prop := ∀ H H' v, Same H H' → P H v → P H' v
theorem le_lst (v : Vd o H) (hP : Cl1 P) {ta : TA} {n m : Nat} (g : GAp (fun H v => P (vw o H) v) ta n σ H) (hn : n ≤ m) (hm : m ≤ 1000) : LEp o P m (tLst ta) σ H := fun H1 s Q q =>
  g H1 s _ fun vs H2 s2 lv gs => ⟨Nat.le_of_lt (small1000 (by omega)), fun l nl =>
    q l vs _ (s2.trans (Same.put nl)) (vw_new ((v.same s).same s2) nl) (by omega) fun x hx => hP _ _ _ (vw_mono (Same.put nl)) (gs x hx)⟩
theorem le_var {i : Nat} {b : Addr} {xs : List V} {m : Nat} (e : σ[i]? = some (some (.ref b))) (l : xs.length ≤ m) (h : ∀ H', Same H H' → vw o H' b = some (.lst xs) ∧ ∀ x ∈ xs, P (vw o H') x) : LEp o P m (tVar i) σ H := fun H1 s Q q =>
  ⟨_, e, q b xs H1 (Same.refl _) (h H1 s).1 l (h H1 s).2⟩
theorem le_cat (v : Vd o H) (hP : Cl1 P) {tx ty : TE} {n m k : Nat} (gx : LEp o P n tx σ H) (gy : LEp o P m ty σ H) (hk : n + m ≤ k) (hl : k ≤ 1000) : LEp o P k (tOp rCat tx ty) σ H := fun H1 s Q q =>
  gx H1 s _ fun a xs H2 s2 ea la ha => gy H2 (s.trans s2) _ fun b ys H3 s3 eb lb hb => ⟨a, b, xs, ys, rfl, rfl, vw_same _ _ _ _ (vw_mono s3 _ _ ea), vw_same _ _ _ _ eb, Nat.le_of_lt (small1000 (by omega)), fun p np =>
    q p (xs ++ ys) _ (s2.trans (s3.trans (Same.put np))) (vw_new (((v.same s).same s2).same s3) np) (by rw [List.length_append]; omega) fun x hx => by
      rcases List.mem_append.mp hx with h | h
      · exact hP _ _ _ (vw_mono (s3.trans (Same.put np))) (ha x h)
      · exact hP _ _ _ (vw_mono (Same.put np)) (hb x h)⟩
def OEp (to : TO) (σ : L2.St) : Prop := ∀ (H : Hp) (Q : Option Int → Hp → Prop), (∀ l, Q l H) → to σ H Q
theorem oe_no : OEp tNoPart σ := fun H Q q => q none
theorem oe_var {i : Nat} {z : Int} (e : σ[i]? = some (some (.int z))) : OEp (tPart (tVar i)) σ := fun H Q q => ⟨_, e, z, rfl, q _⟩
theorem oe_neg {z : Int} : OEp (tPart (tUn (rU fun i => V.int (-i)) (tC (V.int z)))) σ := fun H Q q => ⟨_, rfl, _, rfl, q _⟩
theorem oe_add {i : Nat} {z w : Int} (e : σ[i]? = some (some (.int z))) : OEp (tPart (tOp (rI0 fun i j => V.int (i + j)) (tVar i) (tC (V.int w)))) σ := fun H Q q => ⟨_, e, _, _, rfl, rfl, _, rfl, q _⟩
theorem oe_c {z : Int} : OEp (tPart (tC (V.int z))) σ := fun H Q q => ⟨z, rfl, q _⟩
theorem cut_len {xs : List V} {lo hi : Option Int} : (cutV xs lo hi).length ≤ xs.length := by
  unfold cutV
  rw [List.length_take, List.length_drop]; omega
theorem le_sl (v : Vd o H) (hP : Cl1 P) {te : TE} {tl th : TO} {n : Nat} (g : LEp o P n te σ H) (hl : OEp tl σ) (hh : OEp th σ) : LEp o P n (tSl (rSlL K) te tl th) σ H := fun H1 s Q q =>
  g H1 s _ fun a xs H2 s2 ea la ha => hl _ _ fun lo => hh _ _ fun hi => ⟨a, xs, rfl, SqL.of (vw_same _ _ _ _ ea), fun p np =>
    q p _ _ (s2.trans (Same.put np)) (vw_new ((v.same s).same s2) np) (Nat.le_trans cut_len la) fun x hx => hP _ _ _ (vw_mono (Same.put np)) (ha x (cut_mem hx))⟩
theorem le_rep (v : Vd o H) (hP : Cl1 P) {te : TE} {k : Int} {n m : Nat} (g : LEp o P n te σ H) (hk : -2 ^ 63 ≤ k ∧ k < 2 ^ 63) (hm : n * k.toNat ≤ m) (hl : m ≤ 1000) : LEp o P m (tOp rRep te (tC (V.int k))) σ H := fun H1 s Q q =>
  g H1 s _ fun a xs H2 s2 ea la ha => by
    have le : xs.length * k.toNat ≤ m := Nat.le_trans (Nat.mul_le_mul_right _ la) hm
    exact ⟨a, k, xs, rfl, rfl, vw_same _ _ _ _ ea, hk.1, hk.2, Nat.le_of_lt (small1000 (by omega)), fun p np =>
      q p _ _ (s2.trans (Same.put np)) (vw_new ((v.same s).same s2) np) (by
        have : ((List.replicate k.toNat xs).flatten).length = k.toNat * xs.length := by simp
        rw [this, Nat.mul_comm]; exact le) fun x hx => by
          obtain ⟨ys, hy, hx2⟩ := List.mem_flatten.mp hx
          rw [List.eq_of_mem_replicate hy] at hx2
          exact hP _ _ _ (vw_mono (Same.put np)) (ha x hx2)⟩
theorem ge_of {te : TE} {n : Nat} (g : LEp o P n te σ H) (h : ∀ (H : Hp) a xs, H a = some (.lst xs) → xs.length ≤ n → (∀ x ∈ xs, P H x) → R H (.ref a)) : GEp (fun H v => R (vw o H) v) te σ H := fun H1 s Q q =>
  g H1 s _ fun a xs H2 s2 ea la ha => q _ _ s2 (h _ _ _ ea la ha)
theorem ge_tup (v : Vd o H) (hP : Cl1 P) {ta : TA} {n : Nat} (g : GAp (fun H v => P (vw o H) v) ta n σ H) (hn : n ≤ 1000) (h : ∀ (H : Hp) a xs, H a = some (.tup xs) → xs.length = n → (∀ x ∈ xs, P H x) → R H (.ref a)) : GEp (fun H v => R (vw o H) v) (tTup ta) σ H := fun H1 s Q q =>
  g H1 s _ fun vs H2 s2 lv gs => ⟨Nat.le_of_lt (small1000 (by omega)), fun l nl =>
    q _ _ (s2.trans (Same.put nl)) (h _ _ _ (vw_new ((v.same s).same s2) nl) lv fun x hx => hP _ _ _ (vw_mono (Same.put nl)) (gs x hx))⟩
theorem ge_d0 (v : Vd o H) (h : ∀ (H : Hp) a, H a = some (.dK []) → R H (.ref a)) : GEp (fun H v => R (vw o H) v) tDNewK σ H := fun H1 s Q q => fun l nl => q _ _ (Same.put nl) (h _ _ (vw_new (v.same s) nl))
theorem ge_c {x : V} (h : ∀ H, R H x) : GEp (fun H v => R (vw o H) v) (tC x) σ H := fun H1 s Q q => q x H1 (Same.refl _) (h _)
theorem cl_sc : Cl1 (fun _ v => Sc v) := fun _ _ _ _ h => h
theorem cl_it0 : Cl1 (It0 K) := fun _ _ _ s h => h.same s
theorem cl_itd : Cl1 (ItD K) := fun _ _ _ s h => h.same s
theorem cl_it1 : Cl1 (It1 K) := fun _ _ _ s h => h.same s
theorem cl_vl : Cl1 (Vl K) := fun _ _ _ s h => h.same s
theorem gq_cons (hR : Cl1 R) {te : TE} {ta : TA} {n : Nat} (h : GEp (fun H v => R (vw o H) v) te σ H) (r : GAp (fun H v => R (vw o H) v) ta n σ H) : GAp (fun H v => R (vw o H) v) (tCons te ta) (n + 1) σ H :=
  gp_cons (R := fun H v => R (vw o H) v) (fun _ _ _ s h => hR _ _ _ (vw_mono s) h) h r
/-- rows of scalars -/
theorem s_c {x : V} (h : Sc x) : GEp (fun _ v => Sc v) (tC x) σ H := fun H1 s Q q => q x H1 (Same.refl _) h
theorem gs_cons {te : TE} {ta : TA} {n : Nat} (h : GEp (fun _ v => Sc v) te σ H) (r : GAp (fun _ v => Sc v) ta n σ H) : GAp (fun _ v => Sc v) (tCons te ta) (n + 1) σ H :=
  gp_cons (R := fun _ v => Sc v) (fun _ _ _ _ h => h) h r
theorem ls {ta : TA} {n : Nat} (v : Vd o H) (g : GAp (fun _ v => Sc v) ta n σ H) (hn : n ≤ 1000) : LEp o (fun _ v => Sc v) n (tLst ta) σ H := le_lst (P := fun _ v => Sc v) v cl_sc g (Nat.le_refl _) hn
end
theorem vw_at {o : Option Addr} {H H' : Hp} {p : Addr} (v : Vd o H) (n : H p = none) : vw o H' p = H' p := by
  cases o with
  | none => rfl
  | some a =>
    obtain ⟨w, hw⟩ := v a rfl
    exact er_ne fun e => by rw [e, hw] at n; cases n
theorem ge_d1 {o : Option Addr} {σ : L2.St} {H : Hp} {K : PySem.W.Frag} (v : Vd o H) : GEp (fun H v => Vl K (vw o H) v) (tDisp [(tC (.int 0), tLst (tCons (tC (.int 1)) tNil))]) σ H := fun H1 s Q q => fun p np => by
  have v1 := v.same s
  refine ⟨Nat.le_of_lt (small1000 (by decide : 1 ≤ 1000)), fun l nl => ⟨Same.put nl _ _ upd_same, [(.inl 0, .ref l)], rfl, by simp, q _ _ (Same.ov np (Same.trans (Same.put np) (Same.put nl))) ?_⟩⟩
  have lp : l ≠ p := fun e => by rw [e, upd_same] at nl; cases nl
  have nl1 : H1 l = none := (Same.put np).free nl
  refine vl_d1 (v := .ref l) ?_ (it0_seq (j := false) (xs := [.int 1]) ?_ (fun x hx => by rw [show x = .int 1 by simpa using hx]; exact .int (by decide)) (by decide))
  · rw [vw_at v1 np, upd_same]; rfl
  · show vw o _ l = some _
    rw [vw_at v1 nl1, upd_ne lp, upd_same]
theorem lst_new {R : Hp → V → Prop} {σ : L2.St} {H : Hp} {ta : TA} {n : Nat} {Q : VK} (g : GAp R ta n σ H) (hn : n ≤ 1000) (q : ∀ vs H2 o, Same H H2 → vs.length = n → (∀ v ∈ vs, R H2 v) → H2 o = none → Q (.ref o) (upd H2 o (.lst vs))) : tLst ta σ H Q :=
  g H (Same.refl _) _ fun vs H2 s lv hv => ⟨Nat.le_of_lt (small1000 (by omega)), fun o no => q vs H2 o s lv hv no⟩
/-- a walk over a list that is told first -/
def FI (K : PySem.W.Frag) (g : TG) (tb : TS) (D : Ends) (σ : L2.St) (a : Addr) (H1 : Hp) : Prop :=
  ∃ W : Nat → Nat → L2.St → Hp → Prop, (∃ m, W 0 m σ H1) ∧ ∀ (i m : Nat) (σ : L2.St) (H : Hp), W i m σ H →
    (Itl K a).stop i H ∧ D.nx σ H ∨ (Itl K a).go i H ∧ ∃ N : L2.St → Hp → Prop, (∀ (σ' : L2.St) (H' : Hp), N σ' H' → ∃ m', m' < m ∧ W (i + 1) m' σ' H') ∧
      ∀ (x : V) (H' : Hp), (Itl K a).yld i H x H' → g x σ H' fun σ2 H2 => tb { nx := N, rt := D.rt, bk := D.nx, ct := N } σ2 H2
theorem for_in {K : PySem.W.Frag} {te : TE} {g : TG} {tb r : TS} {D : Ends} {σ : L2.St} {H : Hp}
    (h : te σ H fun x H1 => ∃ a, x = .ref a ∧ (∃ xs, SqL K H1 a xs) ∧ FI K g tb { nx := r D, rt := D.rt, bk := D.bk, ct := D.ct } σ a H1) : tSeq (tFor (iList K te) g tb) r D σ H := h
theorem par_in {i j : Nat} {ta : TA} {r : TS} {D : Ends} {σ : L2.St} {H : Hp} (h : ta σ H fun xs H1 => ∃ v w, xs = [v, w] ∧ r D ((σ.set i (some v)).set j (some w)) H1) : tSeq (tPar i j ta) r D σ H := h
theorem cons_in {te : TE} {ta : TA} {σ : L2.St} {H : Hp} {Q : List V → Hp → Prop} (h : te σ H fun x H1 => ta σ H1 fun xs H2 => Q (x :: xs) H2) : tCons te ta σ H Q := h
def spValues (K : PySem.W.Frag) : Sp := fun vs H Q _ => ∃ (a b : Addr) (rs : Rf) (P : Pn), vs = [.ref a, .ref b] ∧ PotAt H a ∧ b ≠ a ∧ At2 false H b rs P ∧ (∀ x ∈ rs, x.1 = false ∧ x.2 ≠ a) ∧ P ≠ [] ∧ Dg 6 P ∧ Bd2 63 P ∧
  ∀ (H' : Hp) (o : Addr) (ws : List V), Chg a H H' → PotAt H' a → H o = none → o ≠ a → H' o = some (.lst ws) → ws.length ≤ 100 → (∀ v ∈ ws, Vl K H' v) → Q (.ref o) H'
theorem cl_k0 : Cl1 K0 := fun _ _ _ s h => h.same s
theorem cl_k1 : Cl1 K1 := fun _ _ _ s h => h.same s
theorem k1_seq {H : Hp} {j : Bool} {a : Addr} {xs : List V} (e : Hs H j a xs) (l : xs.length ≤ 100) (h : ∀ x ∈ xs, K0 H x) : K1 H (.ref a) :=
  ⟨⟨kd_sq e, sv_ref a⟩, fun ys ey => by rw [seqOf_sq e] at ey; cases ey; exact ⟨l, h⟩⟩
theorem k1_k0 {H : Hp} {x : V} (h : K0 H x) (n : seqOf H x = none) : K1 H x := ⟨h, fun xs e => by rw [n] at e; cases e⟩
theorem k0_seq {H : Hp} {j : Bool} {a : Addr} {xs : List V} (e : Hs H j a xs) : K0 H (.ref a) := ⟨kd_sq e, sv_ref a⟩
theorem k1_d0 {H : Hp} {b : Addr} (e : H b = some (.dK [])) : K1 H (.ref b) :=
  ⟨⟨⟨_, .dct e⟩, sv_ref b⟩, fun xs ex => by
    rcases (Kd.dct e).cs with ⟨_, z⟩ | ⟨_, _, _, z, _⟩
    · rw [z] at ex; cases ex
    · exact absurd z (by decide)⟩
theorem PotAt.vd {H : Hp} {a : Addr} (p : PotAt H a) : Vd (some a) H := fun b e => by
  cases e
  cases h : H a with
  | none => exact absurd rfl (p.ne h)
  | some u => exact ⟨u, rfl⟩
theorem er_chg {a o : Addr} {H H1 H3 : Hp} {u : HO} (no : H o = none) (e : H1 = upd H o u) (c : Chg a H1 H3) : Same (er a H) (er o H3) := fun b w eb => by
  subst e
  unfold er at eb
  by_cases ba : b = a
  · rw [if_pos ba] at eb; cases eb
  · rw [if_neg ba] at eb
    have bo : b ≠ o := fun z => by rw [z, no] at eb; cases eb
    rw [er_ne bo]
    exact c _ _ ba (by rw [upd_ne bo]; exact eb)
def spChanges : Sp := fun vs H Q _ => ∃ a : Addr, vs = [.ref a] ∧ PotAt H a ∧
  ∀ (H' : Hp) (o : Addr) (ws : List V), Chg a H H' → PotAt H' a → H o = none → o ≠ a → H' o = some (.lst ws) → ws.length ≤ 100 → (∀ v ∈ ws, K1 H' v) → Q (.ref o) H'
def spProd3 : Sp := fun vs H Q _ => ∃ (l : Addr) (as : List Addr) (Ps : List Pn), vs = [.ref l] ∧ H l = some (.lst (as.map V.ref)) ∧ Tabs' H as Ps ∧ (∀ P ∈ Ps, Pc P) ∧ Ps.length ≤ 3 ∧ NewT H (prod2 Ps) Q
/-! held against each other, whatever their numbers; shown -/
theorem lay_ints : ∀ p : List Int, PyData.canLayAll0 (p.map PyData.int) = true ∧ PyData.depthAll (p.map PyData.int) ≤ 1
  | [] => ⟨by simp [PyData.canLayAll0], by simp [PyData.depthAll]⟩
  | z :: p => by
    obtain ⟨h1, h2⟩ := lay_ints p
    exact ⟨by simp [PyData.canLayAll0, PyData.canLay0, h1], by simp only [List.map_cons, PyData.depthAll, PyData.depth]; omega⟩
theorem lay_rows : ∀ P : Pn, PyData.canLayAll0 (P.map (dOf false)) = true ∧ PyData.depthAll (P.map (dOf false)) ≤ 2
  | [] => ⟨by simp [PyData.canLayAll0], by simp [PyData.depthAll]⟩
  | p :: P => by
    obtain ⟨h1, h2⟩ := lay_rows P
    obtain ⟨g1, g2⟩ := lay_ints p
    have e1 : (dOf false p).canLay0 = true := by
      show PyData.canLay0 (.list (p.map PyData.int)) = true
      simp [PyData.canLay0, g1]
    have e2 : (dOf false p).depth ≤ 2 := by
      show PyData.depth (.list (p.map PyData.int)) ≤ 2
      simp only [PyData.depth]; omega
    exact ⟨by simp [PyData.canLayAll0, e1, h1], by simp only [List.map_cons, PyData.depthAll]; omega⟩
theorem shaped_dP (P : Pn) : SeqAt.shaped (dP P) = true ∧ PyData.eqv (dP P) (dP P) = true := by
  obtain ⟨h1, h2⟩ := lay_rows P
  have c : (dP P).canLay0 = true := by unfold dP; simp [PyData.canLay0, h1]
  refine ⟨?_, SeqAt.eqv_refl _ c⟩
  unfold SeqAt.shaped
  rw [c, Bool.true_and]
  exact decide_eq_true (by unfold dP; simp only [PyData.depth]; omega)
theorem neP2 {K : PySem.W.Frag} {H : Hp} {a b : Addr} {P : Pn} {Q : VK} (h : Nw H a P) (g : Nw H b P) (q : Q (.bl false) H) : rNeD K (.ref a) (.ref b) H Q :=
  ⟨_, _, h.dp, g.dp, (shaped_dP P).1, (shaped_dP P).1, by rw [(shaped_dP P).2]; exact q⟩
theorem eqP2 {K : PySem.W.Frag} {H : Hp} {a b : Addr} {P : Pn} {Q : VK} (h : Nw H a P) (g : Nw H b P) (q : Q (.bl true) H) : rEqD K (.ref a) (.ref b) H Q :=
  ⟨_, _, h.dp, g.dp, (shaped_dP P).1, (shaped_dP P).1, by rw [(shaped_dP P).2]; exact q⟩
theorem int_w2 {z : Int} (h : z.natAbs < 2 ^ 300) : PyData.showable (.int z) = true ∧ PyData.leavesShort 100 (.int z) = true := by
  have h99 : z.natAbs < 10 ^ 99 := Nat.lt_of_lt_of_le h (by decide)
  refine ⟨?_, ?_⟩
  · have hl : z.natAbs.log2 < 1920 := by
      by_cases z0 : z.natAbs = 0
      · rw [z0]; decide
      · exact (Nat.log2_lt z0).mpr (Nat.lt_of_lt_of_le h (Nat.pow_le_pow_right (by decide) (by decide)))
    simpa [PyData.showable] using hl
  · have e := PySem.int_text_length_le10 (k := 99) (by decide) h99
    have e2 : (PyData.shown (.int z)).length ≤ 100 := by
      show (Str.ofString (toString z)).length ≤ 100
      rw [PySem.ofString_length]; exact e
    simpa only [PyData.leavesShort, decide_eq_true_eq] using e2
theorem sh_dh {K : PySem.W.Frag} {H : Hp} {u t : Addr} {i j z : Int} (e : H u = some (.lst [.ref t, .int z])) (et : H t = some (.tup [.int i, .int j])) (hi : i.natAbs < 2 ^ 300) (hj : j.natAbs < 2 ^ 300) (hz : z.natAbs < 2 ^ 300) :
    Sh K H (.ref u) (PyData.shown (.list [.tuple [.int i, .int j], .int z])) := by
  obtain ⟨i1, i2⟩ := int_w2 hi
  obtain ⟨j1, j2⟩ := int_w2 hj
  obtain ⟨z1, z2⟩ := int_w2 hz
  refine .dat (.lst (SqL.of e) (.cons (.tup (SqT.of et) (.cons (.int i) (.cons (.int j) .nil))) (.cons (.int z) .nil))) ?_ ?_ ?_ ?_
  · simp [PyData.showable, PyData.showableAll] at i1 j1 z1 ⊢; exact ⟨⟨i1, j1⟩, z1⟩
  · simp [PyData.hasDict, PyData.hasDictAll]
  · simp [PyData.depth, PyData.depthAll]
  · have l : PyData.leavesShort 100 (.list [.tuple [.int i, .int j], .int z]) = true := by
      simp only [PyData.leavesShort, PyData.leavesShortAll, Bool.and_eq_true, Bool.and_true]
      simp only [PyData.leavesShort] at i2 j2 z2
      exact ⟨⟨i2, j2⟩, z2⟩
    have e := PyData.shown_le_bulk 100 (by decide) _ l
    have b : PyData.bulk (.list [.tuple [.int i, .int j], .int z]) ≤ 50 := by simp [PyData.bulk, PyData.bulkAll]
    rw [sizeLine_eq]
    omega
theorem tabs_chg {c : Addr} {H H' : Hp} (s : Chg c H H') : ∀ {as : List Addr} {Ps : List Pn}, (∀ x ∈ as, x ≠ c) → Tabs' H as Ps → Tabs' H' as Ps
  | _, _, _, .nil => .nil
  | _, _, n, .cons h r => .cons (h.chg s (n _ List.mem_cons_self)) (tabs_chg s (fun x hx => n x (List.mem_cons_of_mem _ hx)) r)
theorem tabs_snoc {H : Hp} {a : Addr} {P : Pn} (h : TabP H a P) : ∀ {as : List Addr} {Ps : List Pn}, Tabs' H as Ps → Tabs' H (as ++ [a]) (Ps ++ [P])
  | _, _, .nil => .cons h .nil
  | _, _, .cons g r => .cons g (tabs_snoc h r)
def spDict1 : Sp := fun vs H Q _ => ∃ (k : Bool) (a : Addr) (rs : Rf) (P : Pn), vs = [.ref a] ∧ At2 k H a rs P ∧ Cn2 P ∧ Dg 8 P ∧ NewT H P Q
theorem hd2_bd {P : Pn} {k : Nat} (b : Bd2 k P) : (hd2 P).natAbs < 2 ^ k := by
  unfold hd2 co2
  by_cases h : P.length - 1 < P.length
  · rw [ro_at h]; exact (b _ (List.getElem_mem _)).co _
  · rw [ro_big (by omega), co_nil]; exact Nat.two_pow_pos _
end Kr
/-! Lambdas as values: kept in the heap, called from deeper frames. -/
namespace Kr
open PySem PySem.Spec
open PyProof.Rows L2 LamX NdefX

/-- a made lambda: its words, the cells that it captured, its code object -/
structure LF where
  qual : Str
  params : Arguments
  body : Expr
  scope : Scope
  cl : List (Str × Addr)
  c : Addr
def LamO (f : Addr) (F : LF) : HO := .ext fun h => ∃ pm ctv : Value, h.get? f = some (PySem.W.kla_obj "<lambda>" F.qual F.params F.body F.scope F.cl pm F.c ctv)
theorem lamO_at {P : Program} {w : World} {H : Hp} {h : Heap} {f : Addr} {F : LF} (hok : HOk P w H h) (e : H f = some (LamO f F)) : ∃ pm ctv : Value, h.get? f = some (PySem.W.kla_obj "<lambda>" F.qual F.params F.body F.scope F.cl pm F.c ctv) := by
  obtain ⟨z, _, _⟩ := hok f _ e
  exact z
/-- the heap once a place of the text has its code object at d, told in the table at P -/
def grown (G : Hp) (P d : Addr) (ps : Array Value) (at' : Pos) (q : Str) : Hp :=
  upd (upd G P (.tbl (ps ++ #[rawInt at'.line, rawInt at'.col, .ref d]))) d (CodeO d q)
section
variable {G : Hp} {P d : Addr} {ps : Array Value} {at' : Pos} {q : Str}
theorem grown_old (hp : G P = some (.tbl ps)) (nd : G d = none) : ExtN G (grown G P d ps at' q) := by
  intro b o e no
  have b1 : b ≠ d := fun z => by subst z; rw [nd] at e; cases e
  have b2 : b ≠ P := fun z => by subst z; rw [hp] at e; exact no ps (Option.some.inj e).symm
  unfold grown; rw [upd_ne b1, upd_ne b2, e]
theorem grown_none {b : Addr} (e : grown G P d ps at' q b = none) : G b = none := by
  unfold grown upd at e
  by_cases h1 : b = d
  · rw [if_pos h1] at e; cases e
  by_cases h2 : b = P
  · rw [if_neg h1, if_pos h2] at e; cases e
  · rwa [if_neg h1, if_neg h2] at e
theorem grown_tabs {T : List (Addr × Str)} (hp : G P = some (.tbl ps)) (nd : G d = none) (tri : TriplesOk ps.toList) (am : ∀ (x : Pos) (v : Value), codeAmong x ps.toList = some v → ∃ c, v = .ref c ∧ G c = some (CodeO c q))
    (own : ∀ p ∈ T, p.1 = P → p.2 = q) (t : Tabs T G) : Tabs T (grown G P d ps at' q) := by
  have old := grown_old (at' := at') (q := q) hp nd
  have lst : (ps ++ #[rawInt at'.line, rawInt at'.col, .ref d]).toList = ps.toList ++ [rawInt at'.line, rawInt at'.col, .ref d] := by
    rw [Array.toList_append]
  rintro ⟨P', q'⟩ mem
  by_cases e : P' = P
  · subst e
    obtain rfl : q' = q := own _ mem rfl
    have nPd : P' ≠ d := fun z => by subst z; rw [nd] at hp; cases hp
    refine ⟨_, (upd_ne nPd).trans upd_same, ?_, ?_⟩
    · rw [lst]; exact PySem.TriplesOk_snoc _ _ _ _ tri
    · intro x v hv
      rw [lst] at hv
      cases among_app _ tri hv with
      | inl g =>
        obtain ⟨c, ec, hc⟩ := am x v g
        exact ⟨c, ec, old c _ hc codeO_ne⟩
      | inr g => exact ⟨d, g, upd_same⟩
  · obtain ⟨qs, g1, g2, g3⟩ := t _ mem
    have nd' : P' ≠ d := fun z => by
      have g1 : G P' = some (.tbl qs) := g1
      rw [z, nd] at g1; cases g1
    refine ⟨qs, ((upd_ne nd').trans (upd_ne e)).trans g1, g2, ?_⟩
    intro x v hv
    obtain ⟨c, ec, hc⟩ := g3 x v hv
    exact ⟨c, ec, old c _ hc codeO_ne⟩
end
section
variable {Z : Cx} {pn : List (Addr × Obj)} {τ : L2.St} {G : Hp} {S : Shared}
/-- a function object, just pushed, is known as the lambda F from now on -/
theorem inv_lam {F : LF} {n : Nat} {pm ctv : Value} (J : Inv Z pn τ G S) : Inv Z pn τ (upd G S.heap.objs.size (LamO S.heap.objs.size F))
    { S with heap := S.heap.push (PySem.W.kla_obj "<lambda>" F.qual F.params F.body F.scope F.cl pm F.c ctv), toks := n } :=
  have at_ : (S.heap.push (PySem.W.kla_obj "<lambda>" F.qual F.params F.body F.scope F.cl pm F.c ctv)).get? S.heap.objs.size = some (PySem.W.kla_obj "<lambda>" F.qual F.params F.body F.scope F.cl pm F.c ctv) :=
    Heap.get?_push_size _ rfl
  J.laid (fun _ _ g => Heap.get?_push_of_some _ g) (Nat.le_refl _) ⟨⟨pm, ctv, at_⟩, ⟨_, at_⟩, fun _ _ ⟨a, b, g⟩ keep => ⟨a, b, keep _ g⟩⟩
/-- the lambda's object is made and known -/
theorem lam_make3 {T : List (Addr × Str)} {c P : Addr} {par : Arguments} {bd : Expr} {sc : Scope} {at' : Pos} {R : Value → Shared → Prop} {W : Value → Shared → Prop} (J : Inv Z pn τ G S) (B : TabB Z.base Z.mg c P)
    (cd : Z.env.code = .ref c) (mem : (P, Z.env.qual ++ "<lambda>") ∈ T) (own : ∀ p ∈ T, p.1 = P → p.2 = Z.env.qual ++ "<lambda>") (tt : Tabs T G) (df : defaultsOf par Z.env = ([], []))
    (cells : ∀ y ∈ sc.names, y.2 = .free → ∃ d, Z.env.cells.lookup y.1 = some d)
    (go : ∀ (f d : Addr) (G1 : Hp) (S1 : Shared), Inv Z pn τ G1 S1 → ExtN G G1 → (∀ b, G1 b = none → G b = none) → Tabs T G1 → G f = none →
      G1 f = some (LamO f ⟨Z.env.qual ++ "<lambda>", par, bd, sc, cloFrom Z.env.cells sc.names [], d⟩) → G1 d = some (CodeO d (Z.env.qual ++ "<lambda>")) → R (.ref f) S1) :
    wpAny (model Z.prog Z.w) Z.A (eval (.Lambda par bd sc at') Z.env) R W S := by
  rcases tt _ mem with ⟨ps, eP, tri, am⟩
  apply PySem.W.kla_eval df
  have clo := closure_ok cells
  have gl := Z.env.globals
  have mgl := J.mod.glob.keeps J.bk
  have chd := B.code.keeps J.bk
  have bm := B.bm.keeps J.bk
  have oP : S.heap.get? P = some { cls := .none, data := .fields ps } := J.hok P _ eP
  -- what stands behind: the object is pushed
  have push : ∀ (d : Addr) (ctv : Value) (h' : Heap) (n n' : Nat) (G1 : Hp), Inv Z pn τ G1 { S with heap := h', toks := n } → ExtN G G1 → (∀ b, G1 b = none → G b = none) → Tabs T G1 →
      G1 d = some (CodeO d (Z.env.qual ++ "<lambda>")) → R (.ref h'.objs.size) { S with heap := h'.push (PySem.W.kla_obj "<lambda>" (Z.env.qual ++ "<lambda>") par bd sc (cloFrom Z.env.cells sc.names []) ((Z.mg "__name__").getD .none) d ctv), toks := n' } := by
    intro d ctv h' n n' G1 J1 x1 x2 x3 x4
    have fresh := J1.hok.fresh (Nat.le_refl _)
    have new : ∀ b o, G1 b = some o → upd G1 h'.objs.size (LamO h'.objs.size ⟨Z.env.qual ++ "<lambda>", par, bd, sc, cloFrom Z.env.cells sc.names [], d⟩) b = some o := fun b o e =>
      (upd_ne fun z => by subst z; rw [show G1 h'.objs.size = none from fresh] at e; cases e).trans e
    refine go _ d _ _ (inv_lam (F := ⟨Z.env.qual ++ "<lambda>", par, bd, sc, cloFrom Z.env.cells sc.names [], d⟩) J1) (fun b o e no => new b o (x1 b o e no)) (fun b e => x2 b ?_) (fun p hp => (x3 p hp).ext new) (x2 _ fresh) upd_same (new _ _ x4)
    unfold upd at e
    split at e
    · cases e
    · exact e
  cases look : codeAmong at' ps.toList with
  | some v =>
    rcases am at' v look with ⟨d, rfl, hd⟩
    exact PySem.W.kla_makeFunctionHit clo J.ok.glob mgl cd chd oP tri look bm fun ctv h' n keep _ =>
      push d ctv h' n n G (J.kept keep) (ExtN.refl _) (fun _ z => z) tt hd
  | none =>
    refine PySem.W.kla_makeFunction clo J.ok.glob mgl cd chd oP tri look B.gP bm fun d ctv h' n keep ge _ rec' tab => ?_
    rcases rec' with ⟨d', oc, vs, t, ed, r1, r2, r3⟩
    obtain rfl : d = d' := Value.ref.inj ed
    have nd := J.hok.fresh ge
    exact push d ctv h' n n _ (inv_table (more := #[rawInt at'.line, rawInt at'.col, .ref d]) J eP (fun b o nb e => keep b o nb e) tab ge ⟨oc, vs, t, r1, r2, r3⟩)
      (grown_old (at' := at') eP nd) (fun b e => grown_none e) (grown_tabs (at' := at') eP nd tri am own tt) upd_same
end
/-- a lambda, as a value -/
def tLamV (T : List (Addr × Str)) (mk : Addr → LF) : TE := fun _ G Q => Tabs T G ∧ ∀ (f d : Addr) (G1 : Hp), ExtN G G1 → (∀ b, G1 b = none → G b = none) → Tabs T G1 → G f = none → G1 f = some (LamO f (mk d)) → G1 d = some (CodeO d (mk d).qual) → Q (.ref f) G1
theorem pe_lam {Z : Cx} {T : List (Addr × Str)} {c P : Addr} {par : Arguments} {bd : Expr} {sc : Scope} {at' : Pos} (B : TabB Z.base Z.mg c P) (cd : Z.env.code = .ref c) (mem : (P, Z.env.qual ++ "<lambda>") ∈ T)
    (own : ∀ p ∈ T, p.1 = P → p.2 = Z.env.qual ++ "<lambda>") (df : defaultsOf par Z.env = ([], [])) (L : LamS Z.env.scope sc) :
    PE Z (.Lambda par bd sc at') (tLamV T fun d => ⟨Z.env.qual ++ "<lambda>", par, bd, sc, cloFrom Z.env.cells sc.names [], d⟩) :=
  ⟨fun _ _ _ _ _ J ⟨tt, go⟩ => lam_make3 J B cd mem own tt df (L.has J.ok) fun f d G1 _ J1 x1 x2 x3 x4 x5 x6 => ⟨.ref f, G1, J1, rfl, go f d G1 x1 x2 x3 x4 x5 x6⟩⟩
/-! what a lambda promises -/
def LF.nf (F : LF) : NF := ⟨"<lambda>", F.qual, F.params, [], F.scope, F.cl, F.c⟩
section
variable {CX : CXT} {P : Program} {w : World} {K : PySem.W.Frag} {mg : Str → Option Value} {base : Heap} {N fr : List Str} {F : LF} {f : Addr} {k j : Nat} {ws : List (Option V)} {sp : Hp → VK → XK → Prop}
structure LOk (P : Program) (w : World) (K : PySem.W.Frag) (mg : Str → Option Value) (base : Heap) (CX : CXT) (k : Nat) (f : Addr) (F : LF) (fr : List Str) (ws : List (Option V)) (sp : Hp → VK → XK → Prop) : Prop where
  run : ∀ (A : Around) (below : List Env) (S : Shared) (G : Hp) (Q : VK) (E : XK), Quiet A → Room k A → Env0 P w K mg base A below S G → G f = some (LamO f F) → G F.c = some (CodeO F.c F.qual) →
    CellsAt F.cl fr ws S.heap G → sp G Q E → codeAny (model P w) A (.call (.ref f) ⟨[], []⟩) (CR CX below P w G S Q E) S
theorem LOk.mono (o : LOk P w K mg base CX j f F fr ws sp) (h : j ≤ k) : LOk P w K mg base CX k f F fr ws sp := ⟨fun A below S G Q E z r => o.run A below S G Q E z (r.mono h)⟩
/-- a lambda by its body -/
theorem lok_of (N0 : NScope N [] fr F.scope) (bind : ∀ pm ctv : Value, bindArgs (PySem.W.kla_fn "<lambda>" F.qual F.params F.body F.scope F.cl pm (.ref F.c) ctv) ⟨[], []⟩ = pure [])
    (body : ∀ (A : Around) (below : List Env) (S : Shared) (G : Hp) (Q : VK) (E : XK), Quiet (A.deeper (envF F.nf f S.heap.objs.size)) → Room k (A.deeper (envF F.nf f S.heap.objs.size)) → ws.length = fr.length → sp G Q E →
      ∃ t, PE (ncx CX P w K mg base N F.nf f A below S G E) F.body t ∧ t (startF N [] ws) G Q) :
    LOk P w K mg base CX (k + 1) f F fr ws sp := by
  constructor
  intro A below S G Q E quiet room e0 atF atC cs q
  obtain ⟨pm, ctv, obj⟩ := lamO_at e0.hok atF
  obtain ⟨⟨oc, vs, t, c1, c2, c3⟩, _⟩ := e0.hok F.c _ atC
  obtain ⟨tb, pe, qb⟩ := body A below S G Q E quiet (room.deeper _) cs.len q
  apply PySem.W.kla_callFunE room.depth obj rfl N0.co N0.gen rfl ⟨F.c, oc, vs, t, rfl, c1, c2, c3⟩
  rw [bind]
  apply wpAny_pure
  refine wpAny_newFunctionEnv N0.nocell (fun y m => by cases m) (fun h1 ns beside => ⟨(e0.mod.nolimit.keeps fun b o e => (e0.bs b o e).1).fresh _ beside, ?_⟩) N0.kind
  show codeAny _ _ (.expr F.body (envF F.nf f S.heap.objs.size)) _ _
  apply PySem.W.kla_codeExpr
  refine wpAny_mono (pe.run [] _ (startF N [] ws) G Q (inv_startN (F := F.nf) (ps := []) (us := []) (vs := []) N0 room.hd e0 rfl .nil cs ns fun b o e => ?_) qb) ?_ fun _ _ z => z
  · exact beside.extBut b o (fun z => by subst z; exact Nat.lt_irrefl _ (Heap.lt_size e)) (Heap.get?_push_of_some _ e)
  · rintro v S1 ⟨x, G1, J, r, z⟩
    exact ⟨x, G1, J.os, J.bare, J.base, J.hok, r, z⟩
end
section
variable {Z : Cx} {pn : List (Addr × Obj)} {τ : L2.St} {G : Hp} {S : Shared} {cl : List (Str × Addr)} {fr : List Str} {ws : List (Option V)}
/-- what captured cells held when a frame began they hold still -/
theorem cells_later (C : CellsAt cl fr ws Z.s_0.heap Z.H_0) (nx : ∀ b, b ∉ Z.ex) (J : Inv Z pn τ G S) : CellsAt cl fr ws S.heap G where
  len := C.len
  inj := C.inj
  all := fun y d e => by
    have ⟨g0, v, o, go, gd⟩ := C.all y d e
    have ⟨sl, g1⟩ := J.base.any go g0 (nx d)
    exact ⟨J.base.free d o go g0 (nx d), v, _, g1, gd⟩
  has := fun i y e => by
    have ⟨d, ed, hv⟩ := C.has i y e
    refine ⟨d, ed, fun v ev => ?_⟩
    have ⟨u, r, o, go, gd⟩ := hv v ev
    have ⟨sl, g1⟩ := J.base.any go (C.all y d ed).1 (nx d)
    exact ⟨u, r, _, g1, gd⟩
/-- it can be called: the lambda at f, from any frame that was entered at h, G -/
structure Can (P : Program) (w : World) (K : PySem.W.Frag) (mg : Str → Option Value) (base : Heap) (CX : CXT) (k : Nat) (f : Addr) (h : Heap) (G : Hp) (sp : Hp → VK → XK → Prop) : Prop where
  ex : ∃ (F : LF) (fr : List Str) (ws : List (Option V)), LOk P w K mg base CX k f F fr ws sp ∧ G f = some (LamO f F) ∧ G F.c = some (CodeO F.c F.qual) ∧ CellsAt F.cl fr ws h G
theorem Can.later {P : Program} {w : World} {K : PySem.W.Frag} {mg : Str → Option Value} {base : Heap} {CX : CXT} {k : Nat} {f : Addr} {sp : Hp → VK → XK → Prop} (c : Can P w K mg base CX k f Z.s_0.heap Z.H_0 sp) (nx : ∀ b, b ∉ Z.ex)
    (J : Inv Z pn τ G S) (sm : Same Z.H_0 G) : Can P w K mg base CX k f S.heap G sp :=
  ⟨c.ex.elim fun F ⟨fr, ws, x1, x2, x3, x4⟩ => ⟨F, fr, ws, x1, sm _ _ x2, sm _ _ x3, cells_later x4 nx J⟩⟩
/-- x(), x a name that holds such a one -/
theorem pe_act2 {CX : CXT} {k j i : Nat} {x : Str} {sp : Hp → VK → XK → Prop} {E : XK} {f : Addr} {p q : Pos} (c : Can Z.prog Z.w Z.K Z.mg Z.base CX k f Z.s_0.heap Z.H_0 sp) (nx : ∀ b, b ∉ Z.ex) (quiet : Quiet Z.A) (room : Room j Z.A) (kj : k ≤ j)
    (out : Passes CX Z E) (iN : Z.N[i]? = some x) (vis : Vis Z.env.scope x) (d1 : (x == ("__debug__" : Str)) = false := by decide) (d2 : (x == ("__classdict__" : Str)) = false := by decide) :
    PE Z (.Call (.Name x p) [] [] q) (fun τ G Q => τ[i]? = some (some (.ref f)) ∧ Same Z.H_0 G ∧ sp G Q E) := by
  constructor
  rintro pn S τ G Q J ⟨at_, sm, z⟩
  have name := (pe_var (X := Z) (pos := p) iN vis d1 d2).run pn S τ G (fun v G1 => v = .ref f ∧ G1 = G) J ⟨.ref f, at_, rfl, rfl⟩
  apply wpAny_Call_Name_kw
  refine thn name ?_
  rintro u S1 ⟨v, G1, J1, r1, rfl, rfl⟩
  obtain rfl : u = Value.ref f := r1
  obtain ⟨F, fr, ws, x1, x2, x3, x4⟩ := (c.later nx J1 sm).ex
  obtain ⟨pm, ctv, obj⟩ := lamO_at J1.hok x2
  refine PySem.W.callWith_F0 (first := []) ⟨_, _, _, _, obj⟩ ?_
  refine wpAny_call (codeAny_mono (x1.run Z.A Z.stack S1 G1 Q E quiet (room.mono kj) J1.env0 x2 x3 x4 z) ?_)
  rintro (e | fl) S2 z2
  · exact out pn τ G1 S1 e S2 J1 z2
  · cases fl with
    | ret u => exact J1.after z2
    | _ => exact z2.elim
end
end Kr
/-! try with several clauses, each with or without a name. -/
namespace Kr
open PySem PySem.Spec
open PyProof.Rows L2

/-- an exception of the try's body has come down at the try: all else is as it was at some state before -/
def Down (Z : Cx) (pn : List (Addr × Obj)) (τ : L2.St) (G : Hp) (a : Addr) (cls : Value) (d : Option Addr) (S : Shared) : Prop :=
  ∃ (B : Heap) (S0 : Shared), Inv Z pn τ G S0 ∧ (∀ b o, S0.heap.get? b = some o → b ∉ frs Z.stack → B.get? b = some o) ∧ S0.heap.UpToSlots S.heap ∧
    HandSPX.FlyingZ B (Z.env :: Z.outer) a (Zc cls d) S.heap ∧ G a = none ∧ S.os = S0.os ∧ AllBare S.gens
section
variable {Z : Cx} {pn : List (Addr × Obj)} {τ : L2.St} {G : Hp} {a : Addr} {cls : Value} {d : Option Addr} {S : Shared}
theorem Down.inv (x : Down Z pn τ G a cls d S) : Inv Z pn τ G S := by
  obtain ⟨B, S0, J, nb, up, fl, _, os, ag⟩ := x
  exact J.landed nb fl.1 up os ag
theorem Down.on (x : Down Z pn τ G a cls d S) {h : Heap} (u : S.heap.UpToSlots h) (g : ∀ B, HandSPX.FlyingZ B (Z.env :: Z.outer) a (Zc cls d) S.heap → HandSPX.FlyingZ B (Z.env :: Z.outer) a (Zc cls d) h) : Down Z pn τ G a cls d { S with heap := h } := by
  obtain ⟨B, S0, J, nb, up, fl, na, os, ag⟩ := x
  exact ⟨B, S0, J, nb, up.trans u, g B fl, na, os, ag⟩
/-- its object stands, apart from the frames -/
theorem Down.obj (hf : Z.env.frame = some Z.env.locals) (x : Down Z pn τ G a cls d S) : ∃ (oe : Obj) (vs : Array Value), S.heap.get? a = some oe ∧ Zc cls d oe ∧ oe.data = .fields vs ∧ a ≠ Z.env.locals ∧ a ∉ Z.fs := by
  obtain ⟨B, S0, J, nb, up, fl, na, os, ag⟩ := x
  have no : a ∉ frs (Z.env :: Z.outer) := fun m => by
    obtain ⟨oe, vs, e, _, dv⟩ := fl.there
    obtain ⟨_, o, eo, bad⟩ := fl.2.2.1.mem m
    rw [eo] at e
    cases e
    exact bad _ dv
  obtain ⟨oe, vs, e, z, dv⟩ := fl.there
  refine ⟨oe, vs, e, z, dv, fun q => no ?_, fun m => no ?_⟩
  · exact List.mem_filterMap.mpr ⟨_, List.mem_cons_self, q ▸ hf⟩
  · obtain ⟨v, mv, ev⟩ := List.mem_filterMap.mp m
    exact List.mem_filterMap.mpr ⟨v, .tail _ mv, ev⟩
/-- no clause is left: it goes on -/
theorem Down.pass {W : WX} {Q : Flow → Shared → Prop} (hs : Z.stack = Z.env :: Z.outer) (hf : Z.env.frame = some Z.env.locals) (tk : Takes Z W) (x : Down Z pn τ G a cls d S) (w : W cls d τ G) :
    wpAny (model Z.prog Z.w) Z.A (handleBy (.ref a) Z.env []) Q Z.xe S := by
  obtain ⟨B, S0, J, nb, up, fl, na, os, ag⟩ := x
  have last : wpAny (model Z.prog Z.w) Z.A (setFlight (.ref a) Z.env.frame) (fun _ S1 => wpAny (model Z.prog Z.w) Z.A (throw (.ref a) : Sem Flow) Q Z.xe S1) Z.xe S := by
    rw [hf]
    apply HandSPX.setFlight_upZ fl
    intro h held up'
    apply wpAny_throw
    refine tk _ _ ⟨a, B, S0, pn, τ, G, cls, d, rfl, J, nb, up.trans up', ?_, na, os, ag, w⟩
    rw [hs]
    exact .inr (.inr held)
  apply wpAny_handleBy_nil
  obtain ⟨_, _, _, oe, vs, T, oT, ts, e, z, dv, v1, _⟩ := fl
  unfold PySem.passOn
  apply wpAny_bind
  refine wpAny_field e dv v1 ?_
  rw [if_neg (show ¬ (Value.ref T == Value.none) = true by simp)]
  first
    | exact wpAny_bind last
    | exact wpAny_bind (wpAny_pure (wpAny_bind last))
/-- a clause is asked -/
theorem Down.ask {x : Str} {c : Value} {b : Bool} {nm : Option Str} {np p : Pos} {b₀ : Stmt} {sts : List Stmt} {r : List ExceptHandler} {Q : Flow → Shared → Prop} (hf : Z.env.frame = some Z.env.locals) (hc : Names Z x c) (y : Down Z pn τ G a cls d S)
    (eb : PySem.W.exmOne Z.K cls c = some b) (yes : b = true → codeAny (model Z.prog Z.w) (Z.A.mark (some (.ref a))) (.handlers (.ref a) [.ExceptHandler none nm (b₀ :: sts) p] Z.env) (fun r s₂ => match r with
          | .ok f => (match nm with
            | none => Q f s₂
            | some n => wpAny (model Z.prog Z.w) Z.A (do bindName Z.env n .none; unbindBehindTheSuite Z.env n p) (fun _ s₃ => Q f s₃) Z.xe s₂)
          | .error _ => False) S)
    (no : b = false → wpAny (model Z.prog Z.w) Z.A (handleBy (.ref a) Z.env r) Q Z.xe S) :
    wpAny (model Z.prog Z.w) Z.A (handleBy (.ref a) Z.env (.ExceptHandler (some (.Name x np)) nm (b₀ :: sts) p :: r)) Q Z.xe S := by
  obtain ⟨oe, vs, e, z, dv, nL, nF⟩ := y.obj hf
  have J := y.inv
  have na : G a = none := y.elim fun _ ⟨_, _, _, _, _, na, _⟩ => na
  have J1 := J.suite e dv na nL nF
  refine wpAny_handleBy_cons (codeAny_handlers_test ?_) (fun q => by cases q)
  have lk : PySem.W.Looks (model Z.prog Z.w) S.heap (typeOf (.ref a)) cls := fun _ _ _ _ keep q => wpAny_typeOf_ref (keep _ _ e) (by rw [z.1]; exact q)
  have ms := PySem.W.exm_one (M := model Z.prog Z.w) J1.kIn lk eb
  have name : ∀ {R W : Value → Shared → Prop}, R c S → wpAny (model Z.prog Z.w) (Z.A.mark (some (.ref a))) (eval (.Name x np) Z.env) R W S := fun {R W} q => by
    rcases hc with ⟨g, dbg, m | ⟨m, bi, nn⟩⟩
    · exact ld_glob (X := Z.suite a ((a, oe) :: (Z.pn ++ pn))) J1 g m q dbg
    · exact ld_blt (X := Z.suite a ((a, oe) :: (Z.pn ++ pn))) J1 g m bi q nn dbg
  apply name
  apply ms.here
  cases b with
  | true =>
    refine codeAny_mono (yes rfl) ?_
    rintro (e' | f) s' q
    · exact q.elim
    · exact q
  | false => exact no rfl
end
/-- the ends of a suite whose clause has a name: that name goes -/
def noName (i : Nat) (D : Ends) : Ends := { nx := fun τ G => D.nx (τ.set i none) G, rt := D.rt, bk := fun τ G => D.bk (τ.set i none) G, ct := fun τ G => D.ct (τ.set i none) G }
abbrev CW := Value × (Ends → WX)
def asW (i : Nat) (ts : Addr → Value → Option Addr → TS) : Ends → WX := fun D cls d τ G => ∀ a, G a = none → ts a cls d (noName i D) (τ.set i (some (.ref a))) G
def bareW (ts : Addr → Value → Option Addr → TS) : Ends → WX := fun D cls d τ G => ∀ a, G a = none → ts a cls d D τ G
/-- what the clauses wish, one behind the other -/
def inTurn (K : PySem.W.Frag) (W : WX) (D : Ends) : List CW → WX
  | [] => W
  | (c, t) :: r => fun cls d τ G => ∃ b, PySem.W.exmOne K cls c = some b ∧ (b = true → t D cls d τ G) ∧ (b = false → inTurn K W D r cls d τ G)
abbrev SuOk (Z : Cx) (sts : List Stmt) (ts : Addr → Value → Option Addr → TS) : Prop :=
  ∀ (a : Addr) (oe : Obj) (cls : Value) (d : Option Addr) (pn : List (Addr × Obj)), Zc cls d oe → (∃ vs, oe.data = .fields vs) → PSs (Z.suite a ((a, oe) :: pn)) sts (ts a cls d)
inductive Clauses (Z : Cx) : List ExceptHandler → List CW → Prop
  | none : Clauses Z [] []
  | bare {x : Str} {c : Value} {ts : Addr → Value → Option Addr → TS} {b₀ : Stmt} {sts : List Stmt} {np p : Pos} {r : List ExceptHandler} {l : List CW} (hc : Names Z x c) (su : SuOk Z (b₀ :: sts) ts) (rest : Clauses Z r l) :
      Clauses Z (.ExceptHandler (some (.Name x np)) .none (b₀ :: sts) p :: r) ((c, bareW ts) :: l)
  | named {x n : Str} {i : Nat} {c : Value} {ts : Addr → Value → Option Addr → TS} {b₀ : Stmt} {sts : List Stmt} {np p : Pos} {r : List ExceptHandler} {l : List CW} (hi : Z.N[i]? = some n) (hl : Z.env.kindOf n = some .local) (hc : Names Z x c)
      (su : SuOk Z (b₀ :: sts) ts) (rest : Clauses Z r l) : Clauses Z (.ExceptHandler (some (.Name x np)) (some n) (b₀ :: sts) p :: r) ((c, asW i ts) :: l)
section
variable {Z : Cx} {pn : List (Addr × Obj)} {τ : L2.St} {G : Hp} {a : Addr} {cls : Value} {d : Option Addr} {S : Shared}
theorem Clauses.run {W : WX} {D : Ends} (hs : Z.stack = Z.env :: Z.outer) (hf : Z.env.frame = some Z.env.locals) (nd : Z.N.Nodup) (tk : Takes Z W) {hds : List ExceptHandler} {l : List CW} (k : Clauses Z hds l) (y : Down Z pn τ G a cls d S) (w : inTurn Z.K W D l cls d τ G) :
    wpAny (model Z.prog Z.w) Z.A (handleBy (.ref a) Z.env hds) (SP Z pn D) Z.xe S := by
  have ok := y.inv.ok
  have na : G a = Option.none := y.elim fun _ ⟨_, _, _, _, _, na, _⟩ => na
  induction k with
  | none => exact y.pass hs hf tk w
  | bare hc su rest ih =>
    obtain ⟨b, eb, yes, no⟩ := w
    refine y.ask hf hc eb (fun hb => codeAny_handlers_suite ?_) fun hb => ih (no hb)
    obtain ⟨B, S0, J, nb, up, fl, _, os, ag⟩ := id y
    refine HandSPX.lands_againZ fl fun h fl' up' => ?_
    have y' : Down Z pn τ G a cls d { S with heap := h } := ⟨B, S0, J, nb, up.trans up', fl', na, os, ag⟩
    obtain ⟨oe, vs, e, z, dv, nL, nF⟩ := y'.obj hf
    refine wpAny_mono ((su a oe cls d (Z.pn ++ pn) z ⟨vs, dv⟩).run [] _ _ G _ (y'.inv.suite e dv na nL nF) (yes hb a na)) ?_ fun _ _ q => q.elim
    rintro (_ | _ | _ | u) S1 q
    · obtain ⟨τ1, G1, J1, q1⟩ := q
      exact ⟨τ1, G1, J1.unsuite ok, q1⟩
    · obtain ⟨τ1, G1, J1, q1⟩ := q
      exact ⟨τ1, G1, J1.unsuite ok, q1⟩
    · obtain ⟨τ1, G1, J1, q1⟩ := q
      exact ⟨τ1, G1, J1.unsuite ok, q1⟩
    · obtain ⟨v, τ1, G1, J1, r1, q1⟩ := q
      exact ⟨v, τ1, G1, J1.unsuite ok, r1, q1⟩
  | named hi hl hc su rest ih =>
    obtain ⟨b, eb, yes, no⟩ := w
    refine y.ask hf hc eb (fun hb => codeAny_handlers_suite_as ?_) fun hb => ih (no hb)
    obtain ⟨B, S0, J, nb, up, fl, _, os, ag⟩ := id y
    refine HandSPX.lands_againZ fl fun h fl' up' => ?_
    have y' : Down Z pn τ G a cls d { S with heap := h } := ⟨B, S0, J, nb, up.trans up', fl', na, os, ag⟩
    obtain ⟨oe, vs, e, z, dv, nL, nF⟩ := y'.obj hf
    have J2 := y'.inv.suite e dv na nL nF
    refine store_ok (X := Z.suite a ((a, oe) :: (Z.pn ++ pn))) (v := .ref a) J2 nd hi (.inl hl) rfl (fun S2 J3 => ?_) (.inr hl)
    refine wpAny_mono ((su a oe cls d (Z.pn ++ pn) z ⟨vs, dv⟩).run [] S2 _ G _ J3 (yes hb a na)) ?_ fun _ _ q => q.elim
    rintro (_ | _ | _ | u) S1 q
    · obtain ⟨τ1, G1, J1, q1⟩ := q
      exact gone_ok (J1.unsuite ok) nd hi hl fun S3 J4 => ⟨_, _, J4, q1⟩
    · obtain ⟨τ1, G1, J1, q1⟩ := q
      exact gone_ok (J1.unsuite ok) nd hi hl fun S3 J4 => ⟨_, _, J4, q1⟩
    · obtain ⟨τ1, G1, J1, q1⟩ := q
      exact gone_ok (J1.unsuite ok) nd hi hl fun S3 J4 => ⟨_, _, J4, q1⟩
    · obtain ⟨v, τ1, G1, J1, r1, q1⟩ := q
      exact gone_ok (J1.unsuite ok) nd hi hl fun S3 J4 => ⟨_, _, _, J4, r1, q1⟩
/-- THE RULE: try with such clauses -/
theorem ps_tries {body : List Stmt} {h₀ : ExceptHandler} {hds : List ExceptHandler} {l : List CW} {p : Pos} {tb : WX → TS} {W : WX} (hs : Z.stack = Z.env :: Z.outer) (hf : Z.env.frame = some Z.env.locals) (nd : Z.N.Nodup) (tk : Takes Z W)
    (hb : ∀ (W' : WX) (qn : List (Addr × Obj)) (xe : Value → Shared → Prop), Takes (Z.tr qn xe) W' → PassesOwn (model Z.prog Z.w) Z.A Z.env xe → PSs (Z.tr qn xe) body (tb W')) (k : Clauses Z (h₀ :: hds) l) :
    PS Z (.Try body (h₀ :: hds) [] [] p) (fun D τ G => tb (inTurn Z.K W D l) D τ G) := by
  constructor
  intro pn S τ G D J q
  have ok := J.ok
  have fr : Z.A.frames = some (Z.env :: Z.outer) := ok.frames.trans (congrArg some hs)
  apply wpAny_Try_except
  have inner := hb (inTurn Z.K W D l) (Z.pn ++ pn) (fun e S1 => wpAny (model Z.prog Z.w) Z.A (noteFrame e Z.env) (fun _ S2 => wpAny (model Z.prog Z.w) Z.A (setFlight e none) (fun _ S3 =>
    wpAny (model Z.prog Z.w) Z.A (handleBy e Z.env (h₀ :: hds)) (SP Z pn D) Z.xe S3) Z.xe S2) Z.xe S1) ?_ PassesOwn.looking
  · refine wpAny_mono (inner.run [] S τ G D (J.toTry _) q) ?_ fun _ _ z => z
    rintro (_ | _ | _ | u) S1 q1
    · obtain ⟨τ1, G1, J1, z⟩ := q1
      exact wpAny_execs_nil ⟨τ1, G1, J1.ofTry ok, z⟩
    · obtain ⟨τ1, G1, J1, z⟩ := q1
      exact ⟨τ1, G1, J1.ofTry ok, z⟩
    · obtain ⟨τ1, G1, J1, z⟩ := q1
      exact ⟨τ1, G1, J1.ofTry ok, z⟩
    · obtain ⟨v, τ1, G1, J1, r1, z⟩ := q1
      exact ⟨v, τ1, G1, J1.ofTry ok, r1, z⟩
  · rintro u S1 ⟨a, B, S0, pn', τ1, G1, cls, d, rfl, J1, nb, up, sky, na, os, ag, w⟩
    have sky' : Sky B (Z.env :: Z.outer) a (Zc cls d) Z.env.locals S1.heap := hs ▸ sky
    refine Sky.land Zc.steady fr hf sky' fun h fl up' => ?_
    exact k.run hs hf nd tk ⟨B, S0, J1.ofTry ok, nb, up.trans up', fl, na, os, ag⟩ w
end
end Kr
/-! Own exceptions with an own __init__ that keeps what it got, over any built-in one. -/
namespace Kr
open PySem PySem.Spec PySem.W
open PyProof.Rows L2

/-- what the written part says of such a class -/
structure XC (K : PySem.W.Frag) (C : Addr) (B newId initId : String) (tail : List Value) : Prop where
  F : ExcBaseFacts B newId initId tail
  SF : StoreFacts B tail "object.__setattr__" "object"
  ini : excInitIn K C tail newId = true
  over : excOver K C tail = true
  sa : findIn K (.ref C) "__setattr__" = some (some (.builtin "object.__setattr__"))
  exC : subIn K (.ref C) (.type "BaseException") = some true
  tyC : typeIn K (.ref C) = some (.type "type")
  kC : keepIn K (.ref C) = true
  hd : hasDictIn K C = true
section
variable {Z : Cx} {pn : List (Addr × Obj)} {τ : L2.St} {G : Hp} {S : Shared} {a C dx : Addr} {f : Str} {y : V} {u : Value} {fs : List (Str × V)} {Q : Unit → Shared → Prop} {E : Value → Shared → Prop} {A : Around} {B newId initId : String} {tail : List Value}
abbrev xob (C t : Addr) (d : Option Addr) : Obj := { cls := .ref C, dict := d, data := .fields #[.ref t, .none, .none, .none, .bool false, .none] }
/-- self.f = y, the first one -/
theorem put_first (T : XC Z.K C B newId initId tail) (J : Inv Z pn τ G S) (e : G a = some (exo a C none)) (no : takerIn Z.K C f = some none) (ry : RelV y u)
    (go : ∀ dx S1, G dx = none → dx ≠ a → Inv Z pn τ (upd (upd G dx (exd dx [(f, y)])) a (exo a C (some dx))) S1 → Q () S1) : wpAny (model Z.prog Z.w) A (setAttr (.ref a) f u) Q E S := by
  obtain ⟨t, ob⟩ := exo_at J.hok e
  obtain ⟨cd, ecd, hasd⟩ := any_some T.hd
  refine set_plain J.kIn (ox := xob C t none) (od := none) ⟨ob, rfl, rfl, trivial⟩ T.sa ?_
  refine osa_openX (s := { S with toks := S.toks + 1 }) (od := none) T.SF J.kIn ⟨ob, rfl, rfl, trivial⟩ T.over no fun b => ?_
  obtain ⟨hp, g, dr, tk, os⟩ := S
  have cls : Looks (model Z.prog Z.w) hp (classData C) cd := looks_clsIn J.kIn ecd
  have nx : a ≠ hp.objs.size := Nat.ne_of_lt (Heap.lt_size ob)
  show wpAny _ _ (Builtin.ObjectAttr.storeInOwnDict (.ref a) (.ref C) (.str f tk) f u b) _ _ _
  obtain ⟨nm, bs, mro, ns, qn, has, sn, sb, ab, col, del⟩ := cd
  obtain rfl : has = true := hasd
  unfold Builtin.ObjectAttr.storeInOwnDict Builtin.ObjectAttr.ownDictForStores
  repeat (first | with_reducible refine HandSPX.store_in_new ?_ ?_ | with_reducible refine wpAny_loadPart_at ob ?_ | with_reducible refine cls.at ?_ | wp_step)
  · exact ⟨_, #[], _, (Heap.get?_update_ne _ _ _ _ nx.symm).trans (Heap.get?_push_at rfl rfl), rfl, (fun e m => by simp at m), fun _ => rfl⟩
  intro h tk' ns1 but
  have dn : G hp.objs.size = none := J.hok.fresh (Nat.le_refl _)
  have old : ∀ b o, b ≠ a → hp.get? b = some o → h.get? b = some o := fun b o nb eb => by
    have lt := Heap.lt_size eb
    rw [but.2 b (Nat.ne_of_lt lt), Heap.get?_update_ne _ _ _ _ nb]
    exact Heap.get?_push_of_some _ eb
  have new : h.get? a = some (xob C t (some hp.objs.size)) := by
    rw [but.2 a nx]
    exact Heap.get?_update_self _ (Heap.get?_push_of_some _ ob) rfl
  have na : ∀ {b : Addr}, G b = none → b ≠ a := fun eb z => by rw [z, e] at eb; cases eb
  have nd : ∀ {b : Addr} {o : Obj}, hp.get? b = some o → b ≠ hp.objs.size := fun eb => Nat.ne_of_lt (Heap.lt_size eb)
  have two : ∀ {b : Addr}, b ≠ hp.objs.size → b ≠ a → upd (upd G hp.objs.size (exd hp.objs.size [(f, y)])) a (exo a C (some hp.objs.size)) b = G b := fun b1 b2 => (upd_ne b2).trans (upd_ne b1)
  have kept : ∀ {b : Addr} {o : HO}, G b = some o → o ≠ exo a C none → upd (upd G hp.objs.size (exd hp.objs.size [(f, y)])) a (exo a C (some hp.objs.size)) b = some o := fun eb no' =>
    (two (ne_of_none eb dn) (fun z => by rw [z, e] at eb; exact no' (Option.some.inj eb).symm)).trans eb
  have un : Un Z.fs [] G (upd (upd G hp.objs.size (exd hp.objs.size [(f, y)])) a (exo a C (some hp.objs.size))) hp h := by
    constructor
    · intro b o eb g0 _ _; exact old b o (na g0) eb
    · intro b o eb g0 _ _; exact ⟨_, old b o (na g0) eb⟩
    · intro b o eb g0 _; exact (two (nd eb) (na g0)).trans g0
    · intro b o eb _
      by_cases z : b = a
      · exact ⟨_, z ▸ new⟩
      · exact ⟨_, old b o z eb⟩
    · intro b xs eb; exact kept eb fun z => exo_tup z.symm
    · intro b o v eb; exact kept eb fun z => exo_frz z.symm
    · intro b ps eb; exact ⟨#[], by rw [Array.append_empty]; exact kept eb fun z => exo_tbl z.symm⟩
  refine go hp.objs.size _ dn nx.symm (J.un (t' := tk') un fun b o eb => ?_)
  by_cases b1 : b = a
  · subst b1
    rw [upd_same] at eb
    obtain rfl := Option.some.inj eb
    exact exo_ok new
  by_cases b2 : b = hp.objs.size
  · subst b2
    rw [upd_ne b1, upd_same] at eb
    obtain rfl := Option.some.inj eb
    exact exd_ok ns1 (relO_put (fs := []) ry fun _ => trivial)
  rw [two b2 b1] at eb
  refine (J.hok b o eb).stay (fun c v hc ec => old c v ?_ ec) (fun c ec => kept ec fun z => exo_own z.symm) fun c xs ec => kept ec fun z => exo_tup z.symm
  rintro rfl
  rcases hc with z | z
  · exact b1 z.symm
  · exact exo_own (Option.some.inj (e.symm.trans z))
/-- self.f = y, a further one -/
theorem put_next (T : XC Z.K C B newId initId tail) (J : Inv Z pn τ G S) (e : G a = some (exo a C (some dx))) (ed : G dx = some (exd dx fs)) (few : fs.length ≤ 900) (no : takerIn Z.K C f = some none) (ry : RelV y u)
    (go : ∀ S1, Inv Z pn τ (upd G dx (exd dx ((f, y) :: fs))) S1 → Q () S1) : wpAny (model Z.prog Z.w) A (setAttr (.ref a) f u) Q E S := by
  obtain ⟨t, ob⟩ := exo_at J.hok e
  obtain ⟨mA, ns, rel⟩ := exd_at J.hok ed
  have wi := within_of rel
  obtain ⟨oD, _, _, obD, _⟩ := ns.count wi
  obtain ⟨cd, ecd, hasd⟩ := any_some T.hd
  refine set_plain J.kIn (ox := xob C t (some dx)) (od := some oD) ⟨ob, rfl, rfl, obD⟩ T.sa ?_
  refine osa_openX (s := { S with toks := S.toks + 1 }) (od := some oD) T.SF J.kIn ⟨ob, rfl, rfl, obD⟩ T.over no fun b => ?_
  obtain ⟨hp, g, dr, tk, os⟩ := S
  have cls : Looks (model Z.prog Z.w) hp (classData C) cd := looks_clsIn J.kIn ecd
  show wpAny _ _ (Builtin.ObjectAttr.storeInOwnDict (.ref a) (.ref C) (.str f tk) f u b) _ _ _
  obtain ⟨nm, bs, mro, nsa, qn, has, sn, sb, ab, col, del⟩ := cd
  obtain rfl : has = true := hasd
  unfold Builtin.ObjectAttr.storeInOwnDict Builtin.ObjectAttr.ownDictForStores
  repeat (first | with_reducible refine OEX.store_in_old ns wi (by rw [List.length_map]; omega) ?_ | with_reducible refine wpAny_loadPart_at ob ?_ | with_reducible refine cls.at ?_ | wp_step)
  intro h tk' ns1 but
  have there : ∃ o, h.get? dx = some o := by
    obtain ⟨o, _, _, eo, _⟩ := ns1
    exact ⟨o, eo⟩
  exact go _ (J.write (t' := tk') (x := dx) (e := dx) (o := exd dx ((f, y) :: fs)) (by rw [ed]; exact True.intro) (.inl rfl) (fun b o nb eb => (but.2 b nb).trans eb) there (exd_ok ns1 (relO_put ry rel)))
end
/-- self.f = e -/
def tKeep (K : PySem.W.Frag) (B newId initId : String) (tail : List Value) (f : Str) (to te : TE) : TS := fun D τ G => te τ G fun y G1 => to τ G1 fun x G2 => ∃ a C : Addr, x = .ref a ∧ XC K C B newId initId tail ∧ takerIn K C f = some none ∧
  ((G2 a = some (exo a C none) ∧ ∀ dx, G2 dx = none → dx ≠ a → D.nx τ (upd (upd G2 dx (exd dx [(f, y)])) a (exo a C (some dx)))) ∨
    ∃ (dx : Addr) (fs : List (Str × V)), G2 a = some (exo a C (some dx)) ∧ G2 dx = some (exd dx fs) ∧ fs.length ≤ 900 ∧ D.nx τ (upd G2 dx (exd dx ((f, y) :: fs))))
theorem ps_keep {Z : Cx} {B newId initId : String} {tail : List Value} {f : Str} {o e : Expr} {to te : TE} {p' pos : Pos} (ho : PE Z o to) (he : PE Z e te) (sw : swapsWith e (some (.Attribute o f p')) pos.line Z.env = pure false := by rfl) :
    PS Z (.Assign [.Attribute o f p'] e pos) (tKeep Z.K B newId initId tail f to te) := by
  constructor
  intro pn S τ G D J q
  apply plainObj_wpAny_Assign_Attribute _ sw
  refine thn (he.run pn S τ G _ J q) ?_
  rintro v S1 ⟨y, G1, J1, r1, q1⟩
  refine thn (ho.run pn S1 τ G1 _ J1 q1) ?_
  rintro w S2 ⟨x, G2, J2, r2, a, C, rfl, T, no, alt⟩
  obtain rfl : w = Value.ref a := r2
  cases alt with
  | inl z => exact put_first T J2 z.1 no r1 fun dx S3 n1 n2 J3 => ⟨τ, _, J3, z.2 dx n1 n2⟩
  | inr z =>
    obtain ⟨dx, fs, z1, z2, few, z3⟩ := z
    exact put_next T J2 z1 z2 few no r1 fun S3 J3 => ⟨τ, _, J3, z3⟩
/-- C(e, ..), C's own __init__ keeping what sp says -/
theorem pmk_xc {Z : Cx} {CX : CXT} {x : Str} {C fI : Addr} {k : Nat} {fd : FuncData} {ps : List Str} {sp : Sp} {B newId initId : String} {tail : List Value} {e : Expr} {es : List Expr} {ta : TA} {p pos : Pos} (T : XC Z.K C B newId initId tail)
    (ini : findIn Z.K (.ref C) "__init__" = some (some (.ref fI))) (tyI : typeIn Z.K (.ref fI) = some (.type "function")) (Fk : FnOk Z.prog Z.w Z.K Z.mg Z.base CX k fI fd ps sp) (room : Room (k + 1) Z.A) (bi : Binds Z.K fd ps [])
    (out : Passes CX Z (fun _ _ _ => False)) (gl : Gl Z x) (m : Z.mg x = some (.ref C)) (ha : PA Z (e :: es) ta) (dbg : (x == ("__debug__" : Str)) = false := by decide)
    (h1 : starEach (e :: es) Z.env = (false, eval e Z.env) :: starEach es Z.env := by rfl) (h2 : (backTo pos (starEach es Z.env)).any (·.1) = false := by rfl) :
    PMk Z (.Call (.Name x p) (e :: es) [] pos) (tMkO C sp [] ta) := by
  intro pn S τ G Q J q
  apply wpAny_Call_Name_kw
  refine ld_glob J gl m ?_ dbg
  refine callWith_K (h₀ := Z.base) J.ok.mod.kin T.kC (thn (ha.run pos pn S τ G _ J q) ?_) h1 h2
  rintro us S1 ⟨vs, G1, J1, r1, few, q1⟩
  refine ⟨J1.kIn, ?_⟩
  obtain ⟨nm, N, qn, bs, bm, hdct, sn, sub, ab, col, dd, k0, k1, k2, k3, k5, cls, cont⟩ := excInit_of J1.kIn T.ini
  obtain ⟨hp, g, dr, tk, os⟩ := S1
  show wpAny _ _ (call (.ref C) us) _ _ _
  have le : hp.objs.size ≤ hp.objs.size + 1 := Nat.le_add_right _ 1
  have q2 := q1 _ (J1.hok.fresh le)
  rw [List.append_nil] at q2
  have both : ∀ b o, hp.get? b = some o → ((hp.push (kdv_tup us)).push (HandSPX.excO C hp.objs.size)).get? b = some o := fun b o eb => Heap.get?_push_of_some _ (Heap.get?_push_of_some _ eb)
  have at_ : ((hp.push (kdv_tup us)).push (HandSPX.excO C hp.objs.size)).get? (hp.objs.size + 1) = some (HandSPX.excO C hp.objs.size) := by heap_get
  have J2 := J1.laid (t' := tk) (a := hp.objs.size + 1) (o := exo (hp.objs.size + 1) C none) both le (exo_ok at_)
  have r2 : Vals (V.ref (hp.objs.size + 1) :: vs) (Value.ref (hp.objs.size + 1) :: us) := .cons rfl r1
  have ln : (Value.ref (hp.objs.size + 1) :: us).length = ps.length := r2.length.symm.trans (Fk.len _ _ _ _ q2)
  have small : us.length ≤ sizeLine := by
    have := Paired.length r1
    rw [sizeLine_eq]; omega
  have bs' := bi _ (Value.ref (hp.objs.size + 1) :: us) J2.kIn (by rw [List.append_nil]; exact ln)
  rw [List.append_nil] at bs'
  apply wpAny_call
  refine HandSPX.call_own T.F cont cls (looks_findIn J1.kIn ini) (fun self => bind_fn J1.kIn self tyI) small
    (codeAny_mono (Fk.run _ Z.stack _ _ ⟨Value.ref (hp.objs.size + 1) :: us, []⟩ _ _ _ (fun _ _ _ => False) (room.make C us []) (J2.env0.make C us []) bs' r2 q2) ?_)
  rintro (er | fl) S3 z
  · exact out pn τ _ _ er S3 J2 z
  · cases fl with
    | ret v =>
      obtain ⟨v', G3, o1, o2, o3, o4, o5, rfl, d, fs, z1, z2, z3, z4⟩ := z
      obtain ⟨h3, g3, d3, t3, os3⟩ := S3
      exact ⟨o5, mk_end (raises_own T.exC T.tyC) J1 le both o3 o4 o1 o2 z1 z2 z3 z4⟩
    | _ => exact z.elim
/-- C(), no own __init__ -/
theorem pmk_x0 {Z : Cx} {C : Addr} {B newId initId : String} {tail : List Value} {n : Str} {p pos : Pos} (F : ExcBaseFacts B newId initId tail) (own : excIn Z.K C tail newId = true) (m : Z.mg n = some (.ref C)) (kC : keepIn Z.K (.ref C) = true) (ra : Raises Z (.ref C)) (gl : Gl Z n)
    (dbg : (n == ("__debug__" : Str)) = false := by decide) : PMk Z (.Call (.Name n p) [] [] pos) (fun _ G Q => Q (.ref C) none G) := by
  intro pn S τ G Q J q
  apply wpAny_Call_Name_kw
  refine ld_glob J gl m ?_ dbg
  refine callWith_K0 (first := []) J.kIn kC ?_
  obtain ⟨bm, N, nm, qn, bs, hdct, sn, sub, ab, col, dd, k0, k1, k2, k3, k5, mN, cls, ns, noI, T⟩ := exc_obj J.kIn own
  show wpAny _ _ (call (.ref C) []) _ _ _
  obtain ⟨hp, g, dr, tk, os⟩ := S
  exact wpAny_call_exc_subT F T cls ns noI (fun h e md => mk_of J md ra q (J.hok.gone md.new)) (Nat.zero_le _)
/-- what an own class must have for isinstance(e, ..) of a caught one -/
structure XQ (K : PySem.W.Frag) (D : Addr) : Prop where
  cls : (clsIn K D).isSome = true
  ga : findIn K (.ref D) "__getattribute__" = some (some (.builtin "BaseException.__getattribute__"))
  gg : findIn K (.ref D) "__getattr__" = some none
  sub : subIn K (.ref D) (.type "BaseException") = some true
  own : findIn K (.ref D) "__class__" = some (some (.builtin "object.__class__"))
  spc : specialIn K (.builtin "object.__class__") "__get__" = some (some (.builtin "getset_descriptor.__get__"))
  tak : takesIn K (.builtin "object.__class__") = some true
  mro : mroIn K D (.type "object") = some true
/-- isinstance(e, c), e the caught one that the suite holds, with or without a dict -/
def rIsX (K : PySem.W.Frag) (a : Addr) (cls : Value) (d : Option Addr) : List V → Hp → VK → Prop := fun xs H Q => ∃ (D : Addr) (c : V) (cv : Value) (b : Bool), cls = .ref D ∧ XQ K D ∧ xs = [.ref a, c] ∧ (∀ u, RelV c u → u = cv) ∧ kitOne K (.ref D) cv = some b ∧
  (∀ dd, d = some dd → ∃ fs, H dd = some (.xd fs)) ∧ Q (.bl b) H
theorem call_isX {Z : Cx} {a : Addr} {cls : Value} {d : Option Addr} {oe : Obj} {pn : List (Addr × Obj)} (hz : Zc cls d oe) (hf : ∃ vs, oe.data = .fields vs) : CallR (Z.suite a ((a, oe) :: pn)) (.builtin "isinstance") (rIsX Z.K a cls d) := by
  intro qn S τ G xs us Q J r q
  obtain ⟨D, c, cv, b, rfl, T, rfl, rc, ek, hd, z⟩ := q
  match us, r with
  | [u, v], .cons ru (.cons rv .nil) =>
    obtain rfl : u = Value.ref a := ru
    obtain rfl : v = cv := rc _ rv
    obtain ⟨ob, _⟩ := J.pin (a, oe) (List.mem_append_left _ List.mem_cons_self)
    obtain ⟨vs, dv⟩ := hf
    have no : notCls oe = true := by unfold notCls; rw [dv] <;> rfl
    have fin : ∀ tk, EP (Z.suite a ((a, oe) :: pn)) qn τ Q (.bool b) { S with toks := tk } := fun tk => ⟨.bl b, G, J.kept (t' := tk) fun _ _ e => e, rfl, z⟩
    cases ed : d with
    | none =>
      have I : InstAt S.heap a oe D none := ⟨ob, hz.1, no, by rw [hz.2, ed]; trivial⟩
      exact kia_one (kitx_exc T.cls T.ga T.gg T.sub T.own T.spc T.tak T.mro) J.kIn I ek (fun w => nomatch w) fin
    | some dd =>
      obtain ⟨fs, eG⟩ := hd dd ed
      obtain ⟨mA, ns, _⟩ := (show ObjOk Z.prog Z.w G S.heap dd (.xd fs) from J.hok dd _ eG)
      obtain ⟨od, ho, _⟩ := lookIn_ns ns
      have I : InstAt S.heap a oe D (some od) := ⟨ob, hz.1, no, by rw [hz.2, ed]; exact ho⟩
      exact kia_one (kitx_exc T.cls T.ga T.gg T.sub T.own T.spc T.tak T.mro) J.kIn I ek (fun w => nomatch w) fin
end Kr
/-! Cells of one frame, seen from deeper ones: they are laid over what a callee knows, and cut away where a lambda owns them. -/
namespace Kr
open PySem PySem.Spec PySem.W
open PyProof.Rows L2

/-- the object at c is o, and stays so -/
def cellH (c : Addr) (o : Obj) : HO := .frz o (.ext fun h => h.get? c = some o)
theorem cellH_ok {P : Program} {w : World} {G : Hp} {h : Heap} {c : Addr} {o : Obj} (e : h.get? c = some o) : ObjOk P w G h c (cellH c o) := ⟨e, e, ⟨o, e⟩, fun _ _ z st => st _ z⟩
def lay (ov G : Hp) : Hp := fun b => match ov b with | some u => some u | none => G b
def cut (ov G : Hp) : Hp := fun b => match ov b with | some _ => none | none => G b
theorem lay_on {ov G : Hp} {b : Addr} {u : HO} (e : ov b = some u) : lay ov G b = some u := by unfold lay; rw [e]
theorem lay_off {ov G : Hp} {b : Addr} (e : ov b = none) : lay ov G b = G b := by unfold lay; rw [e]
theorem cut_on {ov G : Hp} {b : Addr} {u : HO} (e : ov b = some u) : cut ov G b = none := by unfold cut; rw [e]
theorem cut_off {ov G : Hp} {b : Addr} (e : ov b = none) : cut ov G b = G b := by unfold cut; rw [e]
/-- such an overlay stands in that heap -/
def OvAt (ov : Hp) (h : Heap) : Prop := ∀ b u, ov b = some u → ∃ o, u = cellH b o ∧ h.get? b = some o
section
variable {P : Program} {w : World} {K : PySem.W.Frag} {mg : Str → Option Value} {base : Heap} {A : Around} {out : List Env} {S S' : Shared} {G G1 ov : Hp} {h h' : Heap} {fs : List Addr} {Q : VK} {u : Value}
theorem off_of (z : ∀ b u, ov b = some u → G b = none) {b : Addr} {u : HO} (e : G b = some u) : ov b = none := by
  cases eo : ov b with
  | none => rfl
  | some v => rw [z b v eo] at e; cases e
theorem hok_lay (x : HOk P w G h) (o : OvAt ov h) (z : ∀ b u, ov b = some u → G b = none) : HOk P w (lay ov G) h := fun b v e => by
  cases eo : ov b with
  | some v' =>
    rw [lay_on eo] at e
    obtain rfl := Option.some.inj e
    obtain ⟨ob, rfl, g⟩ := o b _ eo
    exact cellH_ok g
  | none =>
    rw [lay_off eo] at e
    exact (x b v e).stay (fun _ _ _ g => g) (fun c ec => (lay_off (off_of z ec)).trans ec) fun c xs ec => (lay_off (off_of z ec)).trans ec
theorem hok_cut (x : HOk P w G h) (o : ∀ b u, ov b = some u → ∃ ob, G b = some (cellH b ob)) : HOk P w (cut ov G) h := fun b v e => by
  cases eo : ov b with
  | some v' => rw [cut_on eo] at e; cases e
  | none =>
    rw [cut_off eo] at e
    have off : ∀ {c : Addr} {t : HO}, G c = some t → (∀ ob, t ≠ cellH c ob) → ov c = none := fun {c t} ec n => by
      cases ec' : ov c with
      | none => rfl
      | some q =>
        obtain ⟨ob, g⟩ := o c q ec'
        rw [ec] at g
        exact absurd (Option.some.inj g) (n ob)
    exact (x b v e).stay (fun _ _ _ g => g) (fun c ec => (cut_off (off ec fun ob z => by unfold cellH at z; cases z)).trans ec) fun c xs ec => (cut_off (off ec fun ob z => by unfold cellH at z; cases z)).trans ec
theorem un_cut (x : Un fs [] (lay ov G) G1 h h') (o : OvAt ov h) (y : HOk P w G1 h') (z : ∀ b u, ov b = some u → G b = none) (nf : ∀ b ∈ fs, ov b = none) : Un fs [] G (cut ov G1) h h' := by
  have cell : ∀ {b : Addr} {v : HO}, ov b = some v → ∃ ob, v = cellH b ob ∧ h.get? b = some ob ∧ h'.get? b = some ob := fun {b v} e => by
    obtain ⟨ob, rfl, g⟩ := o b v e
    have k := x.frzs b ob _ (show lay ov G b = some (.frz ob _) from lay_on e)
    exact ⟨ob, rfl, g, (y b _ k).1⟩
  have off : ∀ {b : Addr} {v : HO}, G b = some v → ov b = none := fun e => off_of z e
  constructor
  · intro b v e g n _
    cases eo : ov b with
    | none => exact x.keep b v e ((lay_off eo).trans g) n (by simp)
    | some q =>
      obtain ⟨ob, _, g1, g2⟩ := cell eo
      rw [g1] at e; rw [← e]; exact g2
  · intro b v e g m _
    exact x.slot b v e ((lay_off (nf b m)).trans g) m (by simp)
  · intro b v e g _
    cases eo : ov b with
    | none => exact (cut_off eo).trans (x.free b v e ((lay_off eo).trans g) (by simp))
    | some q => exact cut_on eo
  · intro b v e _; exact x.there b v e (by simp)
  · intro b xs e; exact (cut_off (off e)).trans (x.tups b xs ((lay_off (off e)).trans e))
  · intro b v q e; exact (cut_off (off e)).trans (x.frzs b v q ((lay_off (off e)).trans e))
  · intro b ps e
    obtain ⟨more, k⟩ := x.tbls b ps ((lay_off (off e)).trans e)
    exact ⟨more, (cut_off (off e)).trans k⟩
theorem un_lay (x : Un fs [] (cut ov G) G1 h h') (o : ∀ b u, ov b = some u → G b = some u ∧ ∃ ob, u = cellH b ob) : Un fs [] G (lay ov G1) h h' := by
  have off : ∀ {b : Addr}, G b = none → ov b = none := fun {b} e => by
    cases eo : ov b with
    | none => rfl
    | some q => rw [(o b q eo).1] at e; cases e
  have off2 : ∀ {b : Addr} {v : HO}, G b = some v → (∀ ob, v ≠ cellH b ob) → ov b = none := fun {b v} e n => by
    cases eo : ov b with
    | none => rfl
    | some q =>
      obtain ⟨g, ob, rfl⟩ := o b q eo
      rw [g] at e
      exact absurd (Option.some.inj e).symm (n ob)
  constructor
  · intro b v e g n _; exact x.keep b v e ((cut_off (off g)).trans g) n (by simp)
  · intro b v e g n _; exact x.slot b v e ((cut_off (off g)).trans g) n (by simp)
  · intro b v e g _; exact (lay_off (off g)).trans (x.free b v e ((cut_off (off g)).trans g) (by simp))
  · intro b v e _; exact x.there b v e (by simp)
  · intro b xs e
    have n := off2 e fun ob z => by unfold cellH at z; cases z
    exact (lay_off n).trans (x.tups b xs ((cut_off n).trans e))
  · intro b v q e
    cases eo : ov b with
    | some q' =>
      rw [(o b q' eo).1] at e
      rw [lay_on eo, Option.some.inj e]
    | none => exact (lay_off eo).trans (x.frzs b v q ((cut_off eo).trans e))
  · intro b ps e
    have n := off2 e fun ob z => by unfold cellH at z; cases z
    obtain ⟨more, k⟩ := x.tbls b ps ((cut_off n).trans e)
    exact ⟨more, (lay_off n).trans k⟩
/-- what the overlay tells stands behind the call too -/
theorem ov_later (x : Un fs [] (cut ov G) G1 h h') (y : HOk P w G h) (nf : ∀ b ∈ fs, ov b = none) (o : ∀ b u, ov b = some u → G b = some u ∧ ∃ ob, u = cellH b ob) : OvAt ov h' ∧ ∀ b u, ov b = some u → G1 b = none := by
  have at_ : ∀ b u, ov b = some u → ∃ ob, u = cellH b ob ∧ h.get? b = some ob := fun b u e => by
    obtain ⟨g, ob, rfl⟩ := o b u e
    exact ⟨ob, rfl, (y b _ g).1⟩
  refine ⟨fun b u e => ?_, fun b u e => ?_⟩
  · obtain ⟨ob, rfl, g⟩ := at_ b u e
    refine ⟨ob, rfl, x.keep b ob g (cut_on e) (fun m => ?_) (by simp)⟩
    rw [nf b m] at e; cases e
  · obtain ⟨ob, rfl, g⟩ := at_ b u e
    exact x.free b ob g (cut_on e) (by simp)
end
section
variable {P : Program} {w : World} {K : PySem.W.Frag} {mg : Str → Option Value} {base : Heap} {A : Around} {out : List Env} {S S' : Shared} {G G1 ov : Hp} {Q : VK} {E : XK} {u : Value}
theorem env_lay (e0 : Env0 P w K mg base A out S G) (o : OvAt ov S.heap) (z : ∀ b u, ov b = some u → G b = none) (nb : ∀ b u, ov b = some u → base.get? b = none) (nf : ∀ b ∈ frs out, ov b = none) : Env0 P w K mg base A out S (lay ov G) :=
  ⟨e0.frames, e0.mod, fun b v e => ⟨(e0.bs b v e).1, by
    cases eo : ov b with
    | none => exact (lay_off eo).trans (e0.bs b v e).2
    | some q => rw [nb b q eo] at e; cases e⟩, e0.bsz, e0.funs, fun b m => (lay_off (nf b m)).trans (e0.frf b m), hok_lay e0.hok o z, e0.bare⟩
theorem env_cut (e0 : Env0 P w K mg base A out S G) (o : ∀ b u, ov b = some u → ∃ ob, G b = some (cellH b ob)) : Env0 P w K mg base A out S (cut ov G) := by
  have no : ∀ {b : Addr}, G b = none → cut ov G b = none := fun {b} e => by
    cases eo : ov b with
    | none => exact (cut_off eo).trans e
    | some q => exact cut_on eo
  exact ⟨e0.frames, e0.mod, fun b v e => ⟨(e0.bs b v e).1, no (e0.bs b v e).2⟩, e0.bsz, e0.funs, fun b m => no (e0.frf b m), hok_cut e0.hok o, e0.bare⟩
/-- a call that saw the overlay -/
theorem ce_cut (x : CE out P w (lay ov G) S Q u S') (o : OvAt ov S.heap) (z : ∀ b u, ov b = some u → G b = none) (nf : ∀ b ∈ frs out, ov b = none) :
    CE out P w G S (fun v G1 => ∃ G2, G1 = cut ov G2 ∧ (∀ b u, ov b = some u → G2 b = some u) ∧ Q v G2) u S' := by
  obtain ⟨v, G2, os, bare, un, hok, r, q⟩ := x
  have k : ∀ b u, ov b = some u → G2 b = some u := fun b u e => by
    obtain ⟨ob, rfl, _⟩ := o b u e
    exact un.frzs b ob _ (show lay ov G b = some (.frz ob _) from lay_on e)
  exact ⟨v, cut ov G2, os, bare, un_cut un o hok z nf, hok_cut hok fun b u e => by
    obtain ⟨ob, rfl, _⟩ := o b u e
    exact ⟨ob, k b _ e⟩, r, G2, rfl, k, q⟩
/-- a call from which the overlay was kept away -/
theorem ce_lay (hok0 : HOk P w G S.heap) (x : CE out P w (cut ov G) S Q u S') (o : ∀ b u, ov b = some u → G b = some u ∧ ∃ ob, u = cellH b ob) (nf : ∀ b ∈ frs out, ov b = none) :
    CE out P w G S (fun v G1 => ∃ G2, G1 = lay ov G2 ∧ (∀ b u, ov b = some u → G2 b = none) ∧ Q v G2) u S' := by
  obtain ⟨v, G2, os, bare, un, hok, r, q⟩ := x
  obtain ⟨l1, l2⟩ := ov_later un hok0 nf o
  exact ⟨v, lay ov G2, os, bare, un_lay un o, hok_lay hok l1 l2, r, G2, rfl, l2, q⟩
theorem cx_lay (hok0 : HOk P w G S.heap) (x : L2.CX P w out (cut ov G) S E u S') (o : ∀ b u, ov b = some u → G b = some u ∧ ∃ ob, u = cellH b ob) (nf : ∀ b ∈ frs out, ov b = none) :
    L2.CX P w out G S (fun c d G1 => ∃ G2, G1 = lay ov G2 ∧ (∀ b u, ov b = some u → G2 b = none) ∧ E c d G2) u S' := by
  obtain ⟨a, B, G2, cls, d, rfl, fl, hok, ub, na, os, bare, q⟩ := x
  have off : ∀ {b : Addr}, G b = none → ov b = none := fun {b} e => by
    cases eo : ov b with
    | none => rfl
    | some q => rw [(o b q eo).1] at e; cases e
  have off2 : ∀ {b : Addr} {v : HO}, G b = some v → (∀ ob, v ≠ cellH b ob) → ov b = none := fun {b v} e n => by
    cases eo : ov b with
    | none => rfl
    | some q =>
      obtain ⟨g, ob, rfl⟩ := o b q eo
      rw [g] at e
      exact absurd (Option.some.inj e).symm (n ob)
  have at_ : ∀ b u, ov b = some u → ∃ ob, u = cellH b ob ∧ S.heap.get? b = some ob := fun b u e => by
    obtain ⟨g, ob, rfl⟩ := o b u e
    exact ⟨ob, rfl, (hok0 b _ g).1⟩
  have l1 : OvAt ov B := fun b u e => by
    obtain ⟨ob, rfl, g⟩ := at_ b u e
    refine ⟨ob, rfl, ub.keep b ob g (cut_on e) fun m => ?_⟩
    rw [nf b m] at e; cases e
  have l2 : ∀ b u, ov b = some u → G2 b = none := fun b u e => by
    obtain ⟨ob, rfl, g⟩ := at_ b u e
    exact ub.free b ob g (cut_on e)
  have na' : lay ov G2 a = none := by
    cases eo : ov a with
    | none => exact (lay_off eo).trans na
    | some q =>
      obtain ⟨ob, _, g⟩ := l1 a q eo
      rw [fl.2.1] at g; cases g
  refine ⟨a, B, lay ov G2, cls, d, rfl, fl, hok_lay hok l1 l2, ?_, na', os, bare, G2, rfl, l2, q⟩
  constructor
  · intro b v e g n; exact ub.keep b v e ((cut_off (off g)).trans g) n
  · intro b v e m; exact ub.slot b v e m
  · intro b v e g; exact (lay_off (off g)).trans (ub.free b v e ((cut_off (off g)).trans g))
  · intro b v e n; exact ub.there b v e n
  · intro b xs e
    have n := off2 e fun ob z => by unfold cellH at z; cases z
    exact (lay_off n).trans (ub.tups b xs ((cut_off n).trans e))
  · intro b v q e
    cases eo : ov b with
    | some q' =>
      rw [(o b q' eo).1] at e
      rw [lay_on eo, Option.some.inj e]
    | none => exact (lay_off eo).trans (ub.frzs b v q ((cut_off eo).trans e))
  · intro b ps e
    have n := off2 e fun ob z => by unfold cellH at z; cases z
    obtain ⟨more, k⟩ := ub.tbls b ps ((cut_off n).trans e)
    exact ⟨more, (lay_off n).trans k⟩
end
/-! a lambda called where its cells are known -/
structure CellsT (G : Hp) (cl : List (Str × Addr)) (fr : List Str) (vs : List V) : Prop where
  len : vs.length = fr.length
  all : ∀ y c, cl.lookup y = some c → ∃ ob, G c = some (cellH c ob) ∧ ∃ v, ob.data = .cell v
  inj : ∀ x y c, cl.lookup x = some c → cl.lookup y = some c → x = y
  has : ∀ (i : Nat) (y : Str), fr[i]? = some y → ∃ c ob, cl.lookup y = some c ∧ G c = some (cellH c ob) ∧ ∀ v, vs[i]? = some v → ∃ u, L2.RelV v u ∧ ob.data = .cell (some u)
open Classical in
/-- those cells, out of what is known -/
noncomputable def ovOf (G : Hp) (cl : List (Str × Addr)) : Hp := fun b => if ∃ y, cl.lookup y = some b then G b else none
section
variable {P : Program} {w : World} {K : PySem.W.Frag} {mg : Str → Option Value} {base : Heap} {A : Around} {out : List Env} {S S' : Shared} {G G1 : Hp} {h : Heap} {cl : List (Str × Addr)} {fr : List Str} {vs : List V}
theorem ovOf_some {b : Addr} {u : HO} (e : ovOf G cl b = some u) : (∃ y, cl.lookup y = some b) ∧ G b = some u := by
  unfold ovOf at e
  split at e
  · rename_i k; exact ⟨k, e⟩
  · cases e
theorem CellsT.ov (c : CellsT G cl fr vs) : ∀ b u, ovOf G cl b = some u → G b = some u ∧ ∃ ob, u = cellH b ob := fun b u e => by
  obtain ⟨⟨y, ey⟩, g⟩ := ovOf_some e
  obtain ⟨ob, g2, _⟩ := c.all y b ey
  rw [g2] at g
  exact ⟨by rw [g2]; exact g, ob, (Option.some.inj g).symm⟩
theorem CellsT.same (c : CellsT G cl fr vs) (s : Same G G1) : CellsT G1 cl fr vs :=
  ⟨c.len, fun y d e => by
    obtain ⟨ob, g, r⟩ := c.all y d e
    exact ⟨ob, s _ _ g, r⟩, c.inj, fun i y e => by
    obtain ⟨d, ob, e1, g, r⟩ := c.has i y e
    exact ⟨d, ob, e1, s _ _ g, r⟩⟩
theorem CellsT.at_ (c : CellsT G cl fr vs) (hok : HOk P w G h) : NdefX.CellsAt cl fr (vs.map some) h (cut (ovOf G cl) G) := by
  have on : ∀ {y d}, cl.lookup y = some d → ∀ ob, G d = some (cellH d ob) → ovOf G cl d = some (cellH d ob) := fun {y d} e ob g => by
    unfold ovOf; rw [if_pos ⟨y, e⟩]; exact g
  refine ⟨by rw [List.length_map]; exact c.len, fun y d e => ?_, c.inj, fun i y e => ?_⟩
  · obtain ⟨ob, g, v, dv⟩ := c.all y d e
    exact ⟨cut_on (on e ob g), v, ob, (hok d _ g).1, dv⟩
  · obtain ⟨d, ob, e1, g, r⟩ := c.has i y e
    refine ⟨d, e1, fun v ev => ?_⟩
    rw [List.getElem?_map] at ev
    cases ei : vs[i]? with
    | none => rw [ei] at ev; cases ev
    | some v' =>
      rw [ei] at ev
      obtain rfl : v' = v := by
        have : some (some v') = some (some v) := ev
        exact Option.some.inj (Option.some.inj this)
      obtain ⟨u, ru, du⟩ := r _ ei
      exact ⟨u, ru, ob, (hok d _ g).1, du⟩
/-- its promise, told of what is known with the cells -/
structure LamOk (P : Program) (w : World) (K : PySem.W.Frag) (mg : Str → Option Value) (base : Heap) (k : Nat) (f : Addr) (F : LF) (fr : List Str) (vs : List V) (sp : Hp → VK → XK → Prop) : Prop where
  run : ∀ (A : Around) (out : List Env) (S : Shared) (G : Hp) (Q : VK) (E : XK), Quiet A → Room k A → Env0 P w K mg base A out S G → G f = some (LamO f F) → G F.c = some (LamX.CodeO F.c F.qual) →
    CellsT G F.cl fr vs → sp G Q E → codeAny (model P w) A (.call (.ref f) ⟨[], []⟩) (CR (L2.CX P w) out P w G S Q E) S
/-- what its body is to keep, where the cells are its own -/
noncomputable def under (cl : List (Str × Addr)) (sp : Hp → VK → XK → Prop) : Hp → VK → XK → Prop := fun G Q E =>
  sp (cut (ovOf G cl) G) (fun v G2 => (∀ b u, ovOf G cl b = some u → G2 b = none) → Q v (lay (ovOf G cl) G2)) fun c d G2 => (∀ b u, ovOf G cl b = some u → G2 b = none) → E c d (lay (ovOf G cl) G2)
theorem lamOk_of {k : Nat} {f : Addr} {F : LF} {sp : Hp → VK → XK → Prop} (o : LOk P w K mg base (L2.CX P w) k f F fr (vs.map some) sp) : LamOk P w K mg base k f F fr vs (under F.cl sp) := by
  constructor
  intro A out S G Q E quiet room e0 g1 g2 c q
  have ov := c.ov
  have off : ∀ {b : Addr} {v : HO}, G b = some v → (∀ ob, v ≠ cellH b ob) → ovOf G F.cl b = none := fun {b v} e n => by
    cases eo : ovOf G F.cl b with
    | none => rfl
    | some t =>
      obtain ⟨g, ob, rfl⟩ := ov b t eo
      rw [g] at e
      exact absurd (Option.some.inj e).symm (n ob)
  have nf : ∀ b ∈ frs out, ovOf G F.cl b = none := fun b m => by
    cases eo : ovOf G F.cl b with
    | none => rfl
    | some t =>
      have := e0.frf b m
      rw [(ov b t eo).1] at this; cases this
  have e1 := env_cut e0 fun b u e => by
    obtain ⟨g, ob, rfl⟩ := ov b u e
    exact ⟨ob, g⟩
  have h1 : cut (ovOf G F.cl) G f = some (LamO f F) := (cut_off (off g1 fun ob z => by unfold LamO cellH at z; cases z)).trans g1
  have h2 : cut (ovOf G F.cl) G F.c = some (LamX.CodeO F.c F.qual) := (cut_off (off g2 fun ob z => by unfold LamX.CodeO cellH at z; cases z)).trans g2
  refine codeAny_mono (o.run A out S _ _ _ quiet room e1 h1 h2 (c.at_ e0.hok) q) ?_
  rintro (e | fl) S' z
  · obtain ⟨a, B, G2, cls, d, z1, z2, z3, z4, z5, z6, z7, G3, rfl, z8, z9⟩ := cx_lay e0.hok z ov nf
    exact ⟨a, B, _, cls, d, z1, z2, z3, z4, z5, z6, z7, z9 z8⟩
  · cases fl with
    | ret v =>
      obtain ⟨v', G2, z1, z2, z3, z4, z5, G3, rfl, z6, z7⟩ := ce_lay e0.hok z ov nf
      exact ⟨v', _, z1, z2, z3, z4, z5, z7 z6⟩
    | _ => exact z.elim
end
end Kr
/-! A def called with the running frame's cells laid over what it knows. -/
namespace Kr
open PySem PySem.Spec PySem.W
open PyProof.Rows L2

/-- the overlay of the running frame's cells; caps: the names with their slots -/
structure OvFor (X : Cx) (caps : List (Str × Nat)) (τ : L2.St) (G ov : Hp) : Prop where
  new : ∀ b u, ov b = some u → G b = none
  inj : ∀ x y c, X.env.cells.lookup x = some c → X.env.cells.lookup y = some c → x = y
  all : ∀ y c, X.env.cells.lookup y = some c → ∃ ob v, ov c = some (cellH c ob) ∧ ob.data = .cell v
  cap : ∀ y i, (y, i) ∈ caps → ∃ c ob, X.env.cells.lookup y = some c ∧ ov c = some (cellH c ob) ∧ ∀ v, τ[i]? = some (some v) → ∃ u, L2.RelV v u ∧ ob.data = .cell (some u)
open Classical in
noncomputable def ovCells (X : Cx) (h : Heap) : Hp := fun b => if ∃ y, X.env.cells.lookup y = some b then (h.get? b).map (cellH b) else none
section
variable {X : Cx} {pn : List (Addr × Obj)} {τ : L2.St} {G : Hp} {S : Shared} {caps : List (Str × Nat)}
theorem ovCells_some {h : Heap} {b : Addr} {u : HO} (e : ovCells X h b = some u) : (∃ y, X.env.cells.lookup y = some b) ∧ ∃ o, u = cellH b o ∧ h.get? b = some o := by
  unfold ovCells at e
  split at e
  · rename_i k
    cases eh : h.get? b with
    | none => rw [eh] at e; cases e
    | some o => rw [eh] at e; exact ⟨k, o, (Option.some.inj e).symm, rfl⟩
  · cases e
theorem ovCells_on {h : Heap} {b : Addr} {y : Str} {o : Obj} (e : X.env.cells.lookup y = some b) (g : h.get? b = some o) : ovCells X h b = some (cellH b o) := by
  unfold ovCells
  rw [if_pos ⟨y, e⟩, g]; rfl
theorem ovFor (J : Inv X pn τ G S) (hc : ∀ y i, (y, i) ∈ caps → X.N[i]? = some y ∧ (X.env.scope.names.lookup y = some .cell ∨ X.env.scope.names.lookup y = some .free)) : OvFor X caps τ G (ovCells X S.heap) := by
  refine ⟨fun b u e => ?_, J.ok.inj, fun y c e => ?_, fun y i m => ?_⟩
  · obtain ⟨⟨y, ey⟩, _⟩ := ovCells_some e
    exact J.freeC y b ey
  · obtain ⟨v, o, g, d⟩ := J.cell y c e
    exact ⟨o, v, ovCells_on e g, d⟩
  · obtain ⟨hN, hk⟩ := hc y i m
    obtain ⟨c, ec⟩ := J.ok.has y hk
    obtain ⟨v0, o, g, d⟩ := J.cell y c ec
    refine ⟨c, o, ec, ovCells_on ec g, fun v ev => ?_⟩
    obtain ⟨_, _, look⟩ := J.loc
    obtain ⟨u, r, l⟩ := look i y v hN ev (hk.elim (fun z => .inr (.inl z)) fun z => .inr (.inr z))
    rcases l with ⟨z, _⟩ | ⟨_, c', ec', o', g', d'⟩
    · have z' : X.env.scope.names.lookup y = some .local := z
      rcases hk with k | k <;> rw [k] at z' <;> cases z'
    · rw [ec] at ec'
      obtain rfl := Option.some.inj ec'
      rw [g] at g'
      obtain rfl := Option.some.inj g'
      exact ⟨u, r, d'⟩
/-- the cells lie apart from the base and from every frame -/
theorem cells_apart (J : Inv X pn τ G S) (fn : ∀ y, X.fn y = true) {y : Str} {c : Addr} (e : X.env.cells.lookup y = some c) : X.base.get? c = none ∧ c ∉ frs X.stack := by
  have ge := J.ok.cab y c (fn y) e
  refine ⟨?_, fun m => ?_⟩
  · cases eb : X.base.get? c with
    | none => rfl
    | some o =>
      exact absurd (Heap.lt_size eb) (Nat.not_lt.mpr (Nat.le_trans J.ok.bsz ge))
  · rcases List.mem_cons.mp (J.stkSub c m) with z | z
    · exact J.cne y c e z
    · obtain ⟨_, o, eo, _⟩ := J.ok.funs.mem z
      exact absurd (Heap.lt_size eo) (Nat.not_lt.mpr ge)
def tOver (X : Cx) (caps : List (Str × Nat)) (sp : Sp) (ta : TA) : TE := fun τ G Q => ta τ G fun vs G1 => ∀ ov, OvFor X caps τ G1 ov → sp vs (lay ov G1) (fun v G2 => (∀ b u, ov b = some u → G2 b = some u) → Q v (cut ov G2)) E0
theorem pe_over {x : Str} {st : Stmt} {ps : List Str} {sp : Sp} {k j : Nat} {p pos : Pos} {e : Expr} {es : List Expr} {ta : TA} (c : Cl X.prog X.w X.K X.mg X.base CX0 k x st ps sp) (fn : ∀ y, X.fn y = true)
    (hc : ∀ y i, (y, i) ∈ caps → X.N[i]? = some y ∧ (X.env.scope.names.lookup y = some .cell ∨ X.env.scope.names.lookup y = some .free)) (hG : Quiet X.A) (hr : Room j X.A) (hk : k ≤ j) (hg : Gl X x) (ha : PA X (e :: es) ta)
    (dbg : (x == ("__debug__" : Str)) = false := by decide) (h1 : starEach (e :: es) X.env = (false, eval e X.env) :: starEach es X.env := by rfl) (h2 : (backTo pos (starEach es X.env)).any (·.1) = false := by rfl) :
    PE X (.Call (.Name x p) (e :: es) [] pos) (tOver X caps sp ta) := by
  obtain ⟨f, fd, F, hm, hb, FG⟩ := c.ex
  constructor
  intro pn S τ G Q J q
  apply wpAny_Call_Name_kw
  refine ld_glob J hg hm ?_ dbg
  refine callWith_K (h₀ := X.base) J.ok.mod.kin F.kp (thn (ha.run pos pn S τ G _ J q) ?_) h1 h2
  rintro us S1 ⟨vs, G1, J1, r, q1⟩
  refine ⟨J1.kIn, ?_⟩
  have q2 := q1 _ (ovFor J1 hc)
  have at_ : OvAt (ovCells X S1.heap) S1.heap := fun b u e => (ovCells_some e).2
  have new := (ovFor J1 hc).new
  have nf : ∀ b ∈ frs X.stack, ovCells X S1.heap b = none := fun b m => by
    cases eo : ovCells X S1.heap b with
    | none => rfl
    | some u =>
      obtain ⟨⟨y, ey⟩, _⟩ := ovCells_some eo
      exact absurd m (cells_apart J1 fn ey).2
  have e1 := env_lay J1.env0 at_ new (fun b u e => by
    obtain ⟨⟨y, ey⟩, _⟩ := ovCells_some e
    exact (cells_apart J1 fn ey).1) nf
  have ln : us.length = ps.length := r.length ▸ FG.len _ _ _ _ q2
  have bt := hb S1 us J1.kIn (by rw [List.append_nil]; exact ln)
  rw [List.append_nil] at bt
  show wpAny _ _ (call (.ref f) us) _ _ _
  refine wpAny_call (codeAny_mono (FG.run X.A X.stack S1 _ ⟨us, []⟩ us vs _ E0 hG (hr.mono hk) e1 bt r q2) ?_)
  rintro (er | fl) S2 z
  · exact (show False from z).elim
  · cases fl with
    | ret u =>
      have y := ce_cut z at_ new nf
      obtain ⟨v, G2, z1, z2, z3, z4, z5, G3, rfl, z6, z7⟩ := y
      exact J1.after ⟨v, _, z1, z2, z3, z4, z5, z7 z6⟩
    | _ => exact z.elim
end
end Kr
/-! Calls of lambdas that lie in slots; what such a one refuses. -/
namespace Kr
open PySem PySem.Spec PySem.W
open PyProof.Rows L2

section
variable {P : Program} {w : World} {K : PySem.W.Frag} {mg : Str → Option Value} {base : Heap} {k j : Nat} {f : Addr} {G G1 : Hp} {sp : Hp → VK → XK → Prop}
/-- the lambda at f can be called wherever so much is known -/
structure Act (P : Program) (w : World) (K : PySem.W.Frag) (mg : Str → Option Value) (base : Heap) (k : Nat) (f : Addr) (G : Hp) (sp : Hp → VK → XK → Prop) : Prop where
  ex : ∃ (F : LF) (fr : List Str) (vs : List V), LamOk P w K mg base k f F fr vs sp ∧ G f = some (LamO f F) ∧ G F.c = some (LamX.CodeO F.c F.qual) ∧ CellsT G F.cl fr vs
theorem Act.same (x : Act P w K mg base k f G sp) (s : Same G G1) : Act P w K mg base k f G1 sp :=
  ⟨x.ex.elim fun F ⟨fr, vs, a, b, c, d⟩ => ⟨F, fr, vs, a, s _ _ b, s _ _ c, d.same s⟩⟩
def tAct (P : Program) (w : World) (K : PySem.W.Frag) (mg : Str → Option Value) (base : Heap) (k i : Nat) (E : L2.St → XK) : TE := fun τ G Q => ∃ (f : Addr) (sp : Hp → VK → XK → Prop), τ[i]? = some (some (.ref f)) ∧ Act P w K mg base k f G sp ∧ sp G Q (E τ)
/-- x(), x a slot that holds such a one; what it raises goes to the try around -/
theorem pe_act {Z : Cx} {i : Nat} {x : Str} {E : L2.St → XK} {p q : Pos} (out : ∀ τ, PassesAt (L2.CX Z.prog Z.w) Z τ (E τ)) (quiet : Quiet Z.A) (room : Room j Z.A) (kj : k ≤ j) (iN : Z.N[i]? = some x) (vis : Vis Z.env.scope x)
    (d1 : (x == ("__debug__" : Str)) = false := by decide) (d2 : (x == ("__classdict__" : Str)) = false := by decide) :
    PE Z (.Call (.Name x p) [] [] q) (tAct Z.prog Z.w Z.K Z.mg Z.base k i E) := by
  constructor
  rintro pn S τ G Q J ⟨f, sp, at_, ac, z⟩
  have name := (pe_var (X := Z) (pos := p) iN vis d1 d2).run pn S τ G (fun v G1 => v = .ref f ∧ G1 = G) J ⟨.ref f, at_, rfl, rfl⟩
  apply wpAny_Call_Name_kw
  refine thn name ?_
  rintro u S1 ⟨v, G1, J1, r1, rfl, rfl⟩
  obtain rfl : u = Value.ref f := r1
  obtain ⟨F, fr, vs, x1, x2, x3, x4⟩ := ac.ex
  obtain ⟨pm, ctv, obj⟩ := lamO_at J1.hok x2
  refine callWith_F0 (first := []) ⟨_, _, _, _, obj⟩ ?_
  refine wpAny_call (codeAny_mono (x1.run Z.A Z.stack S1 G1 Q (E τ) quiet (room.mono kj) J1.env0 x2 x3 x4 z) ?_)
  rintro (e | fl) S2 z2
  · exact out τ pn G1 S1 e S2 J1 z2
  · cases fl with
    | ret u => exact J1.after z2
    | _ => exact z2.elim
/-- it refuses: C, and what lies under its names -/
def Refuses (G0 : Hp) (C : Addr) (fs : List (Str × V)) (sp : Hp → VK → XK → Prop) : Prop := ∀ G Q E, Same G0 G → (∀ d G', Same G G' → G d = none → G' d = some (.xd fs) → E (.ref C) (some d) G') → sp G Q E
/-- it refuses without words -/
def Refuses0 (G0 : Hp) (C : Addr) (sp : Hp → VK → XK → Prop) : Prop := ∀ G Q E, Same G0 G → (∀ G', Same G G' → E (.ref C) none G') → sp G Q E
/-- it lets -/
def Lets (G0 : Hp) (sp : Hp → VK → XK → Prop) : Prop := ∀ G Q E, Same G0 G → (∀ v G', Same G G' → Q v G') → sp G Q E
section
variable {cl : List (Str × Addr)} {fr : List Str} {vs : List V}
theorem lay_same (c : CellsT G cl fr vs) (s : Same (cut (ovOf G cl) G) G1) : Same G (lay (ovOf G cl) G1) := fun b u e => by
  cases eo : ovOf G cl b with
  | some q =>
    obtain ⟨_, g⟩ := ovOf_some eo
    rw [lay_on eo, ← g, e]
  | none => exact (lay_off eo).trans (s b u ((cut_off eo).trans e))
end
end
end Kr
/-! Defs that refuse: raise C(value). -/
namespace Kr
open PySem PySem.Spec PySem.W
open PyProof.Rows L2

section
variable {C : Addr} {fs : List (Str × V)} {cl : List (Str × Addr)} {sp : Hp → VK → XK → Prop}
theorem lay_over {G G1 : Hp} (s : Same (cut (ovOf G cl) G) G1) : Same G (lay (ovOf G cl) G1) := fun b u e => by
  cases eo : ovOf G cl b with
  | some q =>
    obtain ⟨_, g⟩ := ovOf_some eo
    rw [lay_on eo, ← g, e]
  | none => exact (lay_off eo).trans (s b u ((cut_off eo).trans e))
theorem cut_over {G0 G : Hp} (z : ∀ y c, cl.lookup y = some c → G0 c = none) (s : Same G0 G) : Same G0 (cut (ovOf G cl) G) := fun b u e => by
  have off : ovOf G cl b = none := by
    cases eo : ovOf G cl b with
    | none => rfl
    | some q =>
      obtain ⟨⟨y, ey⟩, _⟩ := ovOf_some eo
      rw [z y b ey] at e; cases e
  exact (cut_off off).trans (s b u e)
theorem refuses_under {G0 : Hp} (z : ∀ y c, cl.lookup y = some c → G0 c = none) (r : Refuses G0 C fs sp) : Refuses G0 C fs (under cl sp) := fun G Q E s0 h => by
  refine r _ _ _ (cut_over z s0) fun d G2 s n x l2 => ?_
  have off : ovOf G cl d = none := by
    cases eo : ovOf G cl d with
    | none => rfl
    | some q => rw [l2 d q eo] at x; cases x
  exact h d _ (lay_over s) ((cut_off off).symm.trans n) ((lay_off off).trans x)
theorem refuses0_under {G0 : Hp} (z : ∀ y c, cl.lookup y = some c → G0 c = none) (r : Refuses0 G0 C sp) : Refuses0 G0 C (under cl sp) := fun G Q E s0 h => r _ _ _ (cut_over z s0) fun G2 s _ => h _ (lay_over s)
theorem lets_under {G0 : Hp} (z : ∀ y c, cl.lookup y = some c → G0 c = none) (r : Lets G0 sp) : Lets G0 (under cl sp) := fun G Q E s0 h => r _ _ _ (cut_over z s0) fun v G2 s _ => h v _ (lay_over s)
theorem Refuses.later {G0 G1 : Hp} (r : Refuses G0 C fs sp) (s : Same G0 G1) : Refuses G1 C fs sp := fun G Q E s1 h => r G Q E (s.trans s1) h
theorem Refuses0.later {G0 G1 : Hp} (r : Refuses0 G0 C sp) (s : Same G0 G1) : Refuses0 G1 C sp := fun G Q E s1 h => r G Q E (s.trans s1) h
theorem Lets.later {G0 G1 : Hp} (r : Lets G0 sp) (s : Same G0 G1) : Lets G1 sp := fun G Q E s1 h => r G Q E (s.trans s1) h
end
section
variable {P : Program} {w : World} {K : PySem.W.Frag} {mg : Str → Option Value} {base : Heap}
/-- a def that may raise, by its body -/
theorem body_X {x : Str} {st : Stmt} {f : Addr} {fd : FuncData} {N ps : List Str} {k : Nat} {sp : Sp} (F : Fun K x x st f fd) (S : FnScope N ps (defScope st))
    (len : ∀ (vs : List V) (H : Hp) (Q : VK) (E : XK), sp vs H Q E → vs.length = ps.length)
    (hb : ∀ (cdv : Value) (A : Around) (out : List Env) (s : Shared) (H : Hp) (vs : List V) (Q : VK) (E : XK), Quiet (A.deeper (envOfC x (defScope st) s.heap.objs.size f cdv)) → Room k (A.deeper (envOfC x (defScope st) s.heap.objs.size f cdv)) → sp vs H Q E →
      ∃ t, PSs (cxOf (L2.CX P w) P w K mg base N x (defScope st) f cdv A out s H E) (defBody st) t ∧ t { nx := fun _ H' => Q .non H', rt := Q } (start N vs) H) :
    FnG P w K mg base (L2.CX P w) (k + 1) f fd ps sp :=
  body_g F S len hb
/-- an own __init__(self, value): self.value = value -/
def spIni (K : PySem.W.Frag) (B newId initId : String) (tail : List Value) : Sp := fun vs G Q _ => ∃ (a C : Addr) (v : V), vs = [.ref a, v] ∧ XC K C B newId initId tail ∧ takerIn K C "value" = some none ∧ G a = some (exo a C none) ∧
  ∀ dx, G dx = none → dx ≠ a → Q .non (upd (upd G dx (exd dx [("value", v)])) a (exo a C (some dx)))
theorem ini_ok {qual : Str} {st : Stmt} {f : Addr} {fd : FuncData} {k : Nat} {B newId initId : String} {tail : List Value} {p1 p2 p3 p4 : Pos} (F : Fun K "__init__" qual st f fd) (S : FnScope ["self", "value"] ["self", "value"] (defScope st))
    (eb : defBody st = [.Assign [.Attribute (.Name "self" p1) "value" p2] (.Name "value" p3) p4]) (n1 : Vis (defScope st) "self") (n2 : Vis (defScope st) "value") :
    FnOk P w K mg base CX0 (k + 1) f fd ["self", "value"] (spIni K B newId initId tail) := by
  refine F.ok S (fun vs H Q E h => by obtain ⟨_, _, _, rfl, _⟩ := h; rfl) ?_
  rintro cdv A out s G vs Q E room ⟨a, C, v, rfl, T, no, ga, q⟩
  rw [eb]
  refine ⟨_, pss_one (ps_keep (B := B) (newId := newId) (initId := initId) (tail := tail) (pe_var (i := 0) rfl n1 (by decide) (by decide)) (pe_var (i := 1) rfl n2 (by decide) (by decide))), ?_⟩
  exact ⟨v, rfl, .ref a, rfl, a, C, rfl, T, no, .inl ⟨ga, fun dx d1 d2 => q dx d1 d2⟩⟩
/-- an own class whose instances keep the value alone -/
structure XV (K : PySem.W.Frag) (mg : Str → Option Value) (n qual : Str) (st : Stmt) (C : Addr) (B newId initId : String) (tail : List Value) : Prop where
  xc : XC K C B newId initId tail
  m : mg n = some (.ref C)
  no : takerIn K C "value" = some none
  ini : ∃ (fI : Addr) (fd : FuncData), Fun K "__init__" qual st fI fd ∧ Binds K fd ["self", "value"] [] ∧ findIn K (.ref C) "__init__" = some (some (.ref fI)) ∧ typeIn K (.ref fI) = some (.type "function")
end
theorem made_same {G : Hp} {a d : Addr} {x y z : HO} {fs : List (Str × V)} (na : G a = none) (nd : G d = none) : Same G (upd (del (upd (upd (upd G a x) d y) a z) a) d (.xd fs)) := fun b u e => by
  have b1 : b ≠ a := fun q => by rw [q, na] at e; cases e
  have b2 : b ≠ d := fun q => by rw [q, nd] at e; cases e
  rw [upd_ne b2, del_ne b1, upd_ne b1, upd_ne b2, upd_ne b1, e]
/-- raise C(x) -/
def tRefuse (C : Addr) (W : WX) (i : Nat) : TS := fun _ τ G => ∃ v, τ[i]? = some (some v) ∧ ∀ d G', Same G G' → G d = none → G' d = some (.xd [("value", v)]) → W (.ref C) (some d) τ G'
theorem ps_refuse {X : Cx} {n qual x : Str} {st : Stmt} {C : Addr} {B newId initId : String} {tail : List Value} {W : WX} {i : Nat} {p pos pos2 p0 p1 p2 p3 p4 : Pos} {k : Nat} (V : XV X.K X.mg n qual st C B newId initId tail)
    (S : FnScope ["self", "value"] ["self", "value"] (defScope st)) (eb : defBody st = [.Assign [.Attribute (.Name "self" p1) "value" p2] (.Name "value" p3) p4]) (n1 : Vis (defScope st) "self") (n2 : Vis (defScope st) "value")
    (hc : X.calm = true) (tk : Takes X W) (room : Room k X.A) (hk : 2 ≤ k) (gl : Gl X n) (iN : X.N[i]? = some x) (vis : Vis X.env.scope x) (dbg : (n == ("__debug__" : Str)) = false := by decide)
    (d1 : (x == ("__debug__" : Str)) = false := by decide) (d2 : (x == ("__classdict__" : Str)) = false := by decide) :
    PS X (.Raise (some (.Call (.Name n p) [.Name x p0] [] pos)) none pos2) (tRefuse C W i) := by
  obtain ⟨fI, fd, F, bi, ini, ty⟩ := V.ini
  have Fk : FnOk X.prog X.w X.K X.mg X.base CX0 1 fI fd ["self", "value"] (spIni X.K B newId initId tail) := ini_ok (k := 0) F S eb n1 n2
  have rl := ps_raise (pos := pos2) hc tk (pmk_xc (p := p) (pos := pos) V.xc ini ty Fk (room.mono hk) bi (fun _ _ _ _ _ _ _ h => h.elim) gl V.m (pa_cons (pe_var (pos := p0) iN vis d1 d2) pa_nil) dbg)
  constructor
  rintro pn s τ G D J ⟨v, ev, q⟩
  refine rl.run pn s τ G D J ⟨v, ev, (by decide : 1 ≤ 1000), fun a na => ⟨a, C, v, rfl, V.xc, V.no, upd_same, fun d nd da => ⟨rfl, d, [("value", v)], upd_same, (upd_ne da).trans upd_same, ?_, ?_⟩⟩⟩
  · rw [upd_ne da] at nd; exact nd
  · rw [upd_ne da] at nd
    exact q d _ (made_same na nd) nd upd_same
theorem call_shownK {X : Cx} {K : PySem.W.Frag} (hk : X.K = K) (hG : Quiet X.A) (hu : X.A.units + 64 < cLine) : CallR X (.builtin "repr") (fun xs H Q => ∃ v t, xs = [v] ∧ Sh K H v t ∧ Q (.str t) H) := by
  subst hk; exact call_shown hG hu
theorem op_neDK {X : Cx} {K : PySem.W.Frag} (hk : X.K = K) (hu : X.A.units + 64 < cLine) : OpR X (compareOp .NotEq) (rNeD K) := by
  subst hk; exact op_neD hu
end Kr
/-! Defs that make lambdas: their code object is known. -/
namespace Kr
open PySem PySem.Spec PySem.W
open PyProof.Rows L2

section
variable {P : Program} {w : World} {K : PySem.W.Frag} {mg : Str → Option Value} {base : Heap}
/-- a def of the text, its code object at c -/
structure DfC (K : PySem.W.Frag) (mg : Str → Option Value) (x : Str) (st : Stmt) (ps : List Str) (c : Addr) : Prop where
  ex : ∃ (f : Addr) (oc : Value) (od : Option Addr) (kV doc pm : Value) (an : Option Addr) (ct : Value) (osl : Array (Option Value)),
    K.lookup f = some ⟨oc, od, .func (fnOf x x (defArgs st) (defBody st) (defScope st) .none kV doc pm an (.ref c) ct), osl⟩ ∧ codeIn K (.ref c) x = true ∧ keepIn K (.ref f) = true ∧ mg x = some (.ref f) ∧
      Binds K (fnOf x x (defArgs st) (defBody st) (defScope st) .none kV doc pm an (.ref c) ct) ps []
/-- by its body, where the code object is told -/
theorem DfC.cl {CX : CXT} {x : Str} {st : Stmt} {N ps : List Str} {k : Nat} {sp : Sp} {c : Addr} (D : DfC K mg x st ps c) (S : FnScope N ps (defScope st)) (len : ∀ (vs : List V) (H : Hp) (Q : VK) (E : XK), sp vs H Q E → vs.length = ps.length)
    (hb : ∀ (f : Addr) (A : Around) (out : List Env) (s : Shared) (H : Hp) (vs : List V) (Q : VK) (E : XK), Quiet (A.deeper (envOfC x (defScope st) s.heap.objs.size f (.ref c))) → Room k (A.deeper (envOfC x (defScope st) s.heap.objs.size f (.ref c))) → sp vs H Q E →
      ∃ t, PSs (cxOf CX P w K mg base N x (defScope st) f (.ref c) A out s H E) (defBody st) t ∧ t { nx := fun _ H' => Q .non H', rt := Q } (start N vs) H) :
    Cl P w K mg base CX (k + 1) x st ps sp := by
  obtain ⟨f, oc, od, kV, doc, pm, an, ct, osl, lk, hcd, kp, g, b⟩ := D.ex
  refine ⟨f, _, fun_mk lk hcd kp, g, b, len, fun A out s H args us vs Q E hG hr e0 hbt r hsp => ?_⟩
  have kin : ∀ b o, base.get? b = some o → s.heap.get? b = some o := fun b o e => (e0.bs b o e).1
  have KX : K.In s.heap := e0.mod.kin.keeps kin
  have par : ∀ y ∈ ps.zip us, (defScope st).names.lookup y.1 = some .local ∨ ((defScope st).names.lookup y.1 = some .cell ∧ ((cellsFrom (s.heap.objs.size + 1) (defScope st).names []).lookup y.1).isSome = true) := by
    rintro ⟨n, v⟩ hy
    cases S.par n (List.of_mem_zip hy).1 with
    | inl q => exact .inl q
    | inr q => exact .inr ⟨q, cellsFrom_some _ _ _ (.inl q)⟩
  refine codeAny_call_function hr.depth (KX _ _ lk) rfl S.co S.gen rfl (codeRec_of KX hcd) (hbt _ _ _ _ ?_)
  refine wpAny_newFunctionEnv_cells S.kind par fun env he s1 y => ?_
  subst he
  refine ⟨(e0.mod.nolimit.keeps kin).keeps y.toInCall.keep, codeAny_func ?_⟩
  obtain ⟨t, ht, hq⟩ := hb f A out s H vs Q E hG (hr.deeper _) hsp
  have J0 : Inv (cxOf CX P w K mg base N x (defScope st) f (.ref c) A out s H E) [] (start N vs) H s1 := inv_start S hr.hd e0 (len _ _ _ _ hsp) r y
  refine wpAny_mono (ht.run [] s1 (start N vs) H _ J0 hq) ?_ (fun e s' hs => hs)
  intro fl s' hs
  match fl, hs with
  | .ret u, ⟨v, σ', H', J, rv, q⟩ => exact (show CE out P w H s Q u s' from ⟨v, H', J.os, J.bare, J.base, J.hok, rv, q⟩)
  | .next, ⟨σ', H', J, q⟩ => exact (show CE out P w H s Q .none s' from ⟨.non, H', J.os, J.bare, J.base, J.hok, rfl, q⟩)
  | .brk, ⟨_, _, _, q⟩ => exact False.elim q
  | .cont, ⟨_, _, _, q⟩ => exact False.elim q
end
/-- the parts of a lambda -/
def lamArgs : Expr → Arguments
  | .Lambda a _ _ _ => a
  | _ => { posonlyargs := [], args := [], vararg := none, kwonlyargs := [], kw_defaults := [], kwarg := none, defaults := [] }
def lamBody : Expr → Expr
  | .Lambda _ b _ _ => b
  | e => e
def lamScope : Expr → Scope
  | .Lambda _ _ s _ => s
  | _ => { kind := .function, names := [], isGenerator := false, isCoroutine := false }
/-- the i-th statement of a def -/
def stAt (s : Stmt) (i : Nat) : Stmt := (defBody s).getD i (.Pass ⟨0, 0, 0, 0⟩)
/-- the lambda that such a statement has at its front: in a list, or as what is put behind -/
def lamOf : Stmt → Expr
  | .Assign _ (.List (e :: _) _) _ => e
  | .Expr (.Call _ (e :: _) _ _) _ => e
  | .Assign _ e _ => e
  | s => .Constant .none 0 ⟨0, 0, 0, 0⟩
/-- the lambda l of the def x, with these cells -/
abbrev lfOf (x : Str) (l : Expr) (cells : List (Str × Addr)) (d : Addr) : LF := ⟨x ++ "<lambda>", lamArgs l, lamBody l, lamScope l, cloFrom cells (lamScope l).names [], d⟩
/-- what is known but tables of code objects -/
def noT (G : Hp) : Hp := fun b => match G b with | some (.tbl _) => none | o => o
theorem noT_at {G : Hp} {b : Addr} {u : HO} (e : noT G b = some u) : G b = some u ∧ ∀ ps, u ≠ .tbl ps := by
  unfold noT at e
  cases eg : G b with
  | none => rw [eg] at e; cases e
  | some o =>
    rw [eg] at e
    cases o <;> cases e <;> exact ⟨rfl, fun ps z => by cases z⟩
theorem ext_same {G G1 : Hp} (x : LamX.ExtN G G1) : Same (noT G) G1 := fun b u e => x b u (noT_at e).1 (noT_at e).2
theorem lay_keeps {ov G : Hp} (z : ∀ b u, ov b = some u → G b = none) : Same G (lay ov G) := fun b u e => (lay_off (off_of z e)).trans e
theorem cut_keeps {ov G G1 : Hp} (z : ∀ b u, ov b = some u → G b = none) (s : Same (lay ov G) G1) : Same G (cut ov G1) := fun b u e => (cut_off (off_of z e)).trans (s b u (lay_keeps z b u e))
/-- the cells of a lambda, among those laid over -/
theorem cells_laid {X : Cx} {caps : List (Str × Nat)} {τ : L2.St} {G ov : Hp} {names : List (Str × NameKind)} {fr : List Str} {vs : List V} (o : OvFor X caps τ G ov) (hf : ∀ y ∈ names, y.2 = .free → ∃ c, X.env.cells.lookup y.1 = some c) (ln : vs.length = fr.length)
    (hk : ∀ (i : Nat) (y : Str), fr[i]? = some y → (y, NameKind.free) ∈ names ∧ ∃ j, (y, j) ∈ caps ∧ ∀ v, vs[i]? = some v → τ[j]? = some (some v)) : CellsT (lay ov G) (cloFrom X.env.cells names []) fr vs := by
  refine ⟨ln, fun y c e => ?_, fun x y c e1 e2 => o.inj x y c (NdefX.clo_cm hf e1) (NdefX.clo_cm hf e2), fun i y e => ?_⟩
  · obtain ⟨ob, v, e1, e2⟩ := o.all y c (NdefX.clo_cm hf e)
    exact ⟨ob, lay_on e1, v, e2⟩
  · obtain ⟨m, j, cj, hv⟩ := hk i y e
    obtain ⟨c, ob, e1, e2, e3⟩ := o.cap y j cj
    exact ⟨c, ob, NdefX.clo_has hf m e1, lay_on e2, fun v ev => e3 v (hv v ev)⟩
/-- a list of lambdas just made, over what stood before -/
structure Lams (T : List (Addr × Str)) (H : Hp) (l : Addr) (fs : List (Addr × LF)) (G : Hp) : Prop where
  lst : G l = some (.lst (fs.map fun x => V.ref x.1))
  at_ : ∀ x ∈ fs, G x.1 = some (LamO x.1 x.2) ∧ G x.2.c = some (LamX.CodeO x.2.c x.2.qual)
  tab : LamX.Tabs T G
  ext : LamX.ExtN H G
  new : H l = none
theorem lamO_lst {f : Addr} {F : LF} {xs : List V} : LamO f F ≠ .lst xs := fun z => by unfold LamO at z; cases z
theorem codeO_lst {c : Addr} {q : Str} {xs : List V} : LamX.CodeO c q ≠ .lst xs := fun z => by unfold LamX.CodeO at z; cases z
theorem lamO_tbl {f : Addr} {F : LF} {ps : Array Value} : LamO f F ≠ .tbl ps := fun z => by unfold LamO at z; cases z
/-- a list is put there, or made longer -/
theorem tabs_put {T : List (Addr × Str)} {G : Hp} {l : Addr} {ys : List V} (t : LamX.Tabs T G) (e : G l = none ∨ ∃ xs, G l = some (.lst xs)) : LamX.Tabs T (upd G l (.lst ys)) := by
  have ne : ∀ {b : Addr} {o : HO}, G b = some o → (∀ xs, o ≠ .lst xs) → b ≠ l := fun {b o} g n z => by
    subst z
    rcases e with e | ⟨xs, e⟩ <;> rw [e] at g
    · cases g
    · exact n xs (Option.some.inj g).symm
  intro p m
  obtain ⟨ps, g1, g2, g3⟩ := t p m
  refine ⟨ps, (upd_ne (ne g1 fun xs z => by cases z)).trans g1, g2, fun x v hv => ?_⟩
  obtain ⟨c, ec, g4⟩ := g3 x v hv
  exact ⟨c, ec, (upd_ne (ne g4 fun xs => codeO_lst)).trans g4⟩
theorem Lams.first {T : List (Addr × Str)} {H G : Hp} {l f : Addr} {F : LF} (x : LamX.ExtN H G) (n : ∀ b, G b = none → H b = none) (t : LamX.Tabs T G) (e1 : G f = some (LamO f F)) (e2 : G F.c = some (LamX.CodeO F.c F.qual)) (nl : G l = none) : Lams T H l [(f, F)] (upd G l (.lst [.ref f])) where
  lst := upd_same
  at_ := fun y m => by
    obtain rfl : y = (f, F) := by simpa using m
    exact ⟨(upd_ne (ne_of_none e1 nl)).trans e1, (upd_ne (ne_of_none e2 nl)).trans e2⟩
  tab := tabs_put t (.inl nl)
  ext := fun b o e no => (upd_ne (ne_of_none (x b o e no) nl)).trans (x b o e no)
  new := n l nl
theorem Lams.more {T : List (Addr × Str)} {H G G1 : Hp} {l f : Addr} {F : LF} {fs : List (Addr × LF)} (L : Lams T H l fs G) (x : LamX.ExtN G G1) (t : LamX.Tabs T G1) (e1 : G1 f = some (LamO f F)) (e2 : G1 F.c = some (LamX.CodeO F.c F.qual)) :
    G1 l = some (.lst (fs.map fun x => V.ref x.1)) ∧ Lams T H l (fs ++ [(f, F)]) (upd G1 l (.lst ((fs.map fun x => V.ref x.1) ++ [.ref f]))) := by
  have el := x l _ L.lst fun ps z => by cases z
  have off : ∀ {b : Addr} {o : HO}, G1 b = some o → (∀ xs, o ≠ .lst xs) → b ≠ l := fun {b o} g n z => by
    subst z; rw [el] at g; exact n _ (Option.some.inj g).symm
  refine ⟨el, by rw [upd_same, List.map_append]; rfl, fun y m => ?_, tabs_put t (.inr ⟨_, el⟩), fun b o e no => ?_, L.new⟩
  · rcases List.mem_append.mp m with g | g
    · obtain ⟨a1, a2⟩ := L.at_ y g
      have b1 := x _ _ a1 fun ps => lamO_tbl
      have b2 := x _ _ a2 fun ps => LamX.codeO_ne ps
      exact ⟨(upd_ne (off b1 fun xs => lamO_lst)).trans b1, (upd_ne (off b2 fun xs => codeO_lst)).trans b2⟩
    · obtain rfl : y = (f, F) := by simpa using g
      exact ⟨(upd_ne (off e1 fun xs => lamO_lst)).trans e1, (upd_ne (off e2 fun xs => codeO_lst)).trans e2⟩
  · have g := x b o (L.ext b o e no) no
    have nb : b ≠ l := fun z => by subst z; rw [L.new] at e; cases e
    exact (upd_ne nb).trans g
theorem no_free {sc : Scope} (h : sc.names.all (fun y => !decide (y.2 = .free)) = true) (x : Str) : sc.names.lookup x ≠ some .free := fun e => by
  have := List.all_eq_true.mp h _ (PySem.mem_of_lookup e)
  simp at this
/-- the names that a lambda captures are cells of its maker -/
theorem free_cells {sc ls : Scope} {n : Nat} (L : LamX.LamS sc ls) (h : sc.names.all (fun y => !decide (y.2 = .free)) = true) : ∀ y ∈ ls.names, y.2 = .free → ∃ c, (cellsFrom n sc.names []).lookup y.1 = some c := fun y hy e => by
  rcases L.free y hy e with k | k
  · exact cell_has k
  · exact absurd k (no_free h y.1)
end Kr
/-! f(x, k = y): places and keywords at once. -/
namespace Kr
open PySem PySem.Spec PySem.W
open PyProof.Rows L2

/-- how places and keywords lie among the parameters -/
structure MixB (K : PySem.W.Frag) (fd : FuncData) (ps : List Str) (n : Nat) (ks : List Str) (g : List Value → List Value → List Value) (gV : List V → List V → List V) : Prop where
  to : ∀ (s : Shared) (us ws : List Value), K.In s.heap → us.length = n → ws.length = ks.length → BindsTo s fd ⟨us, ks.zip ws⟩ (ps.zip (g us ws))
  rel : ∀ {vs zs : List V} {us ws : List Value}, Vals vs us → Vals zs ws → Vals (gV vs zs) (g us ws)
def tCallM (sp : Sp) (gV : List V → List V → List V) (n m : Nat) (E : XK) (ta tk : TA) : TE := fun τ G Q => ta τ G fun vs G1 => tk τ G1 fun zs G2 => vs.length = n ∧ zs.length = m ∧ sp (gV vs zs) G2 Q E
section
variable {X : Cx} {CX : CXT} {k j n : Nat} {x : Str} {st : Stmt} {ps ks : List Str} {sp : Sp} {E : XK} {p pos : Pos} {e : Expr} {es : List Expr} {ta tk : TA} {kws : List Keyword}
theorem pe_um {g : List Value → List Value → List Value} {gV : List V → List V → List V} (c : Cl X.prog X.w X.K X.mg X.base CX k x st ps sp) (hkb : ∀ {f : Addr} {fd : FuncData}, Fun X.K x x st f fd → MixB X.K fd ps n ks g gV)
    (hG : Quiet X.A) (hr : Room j X.A) (hk : k ≤ j) (hg : Gl X x) (hx : Passes CX X E) (ha : PA X (e :: es) ta) (hkw : PK X kws tk)
    (hall : (backToKw pos (keywordEach kws X.env)).all (·.1.isSome) = true := by rfl) (hks : (backToKw pos (keywordEach kws X.env)).filterMap (·.1) = ks := by rfl) (hdb : (x == ("__debug__" : Str)) = false := by decide)
    (he : starEach (e :: es) X.env = (false, eval e X.env) :: starEach es X.env := by rfl)
    (hpl : ((backTo pos (starEach (e :: es) X.env)).any (·.1) || (backToKw pos (keywordEach kws X.env)).any (·.1.isNone)) = false := by rfl) :
    PE X (.Call (.Name x p) (e :: es) kws pos) (tCallM sp gV n ks.length E ta tk) := by
  obtain ⟨f, fd, F, hm, hb, G⟩ := c.ex
  have B := hkb F
  constructor
  intro pn S τ H Q J z
  apply wpAny_Call_Name_kw
  refine ld_glob J hg hm ?_ hdb
  refine callWith_KW (h₀ := X.base) J.ok.mod.kin F.kp hall (thn (ha.run pos pn S τ H _ J z) ?_) hpl he
  rintro us S1 ⟨vs, H1, J1, r1, z1⟩
  refine thn (hkw.run pos pn S1 τ H1 _ J1 z1) ?_
  rintro ws S2 ⟨zs, H2, J2, r2, l1, l2, z2⟩
  refine ⟨J2.kIn, ?_⟩
  rw [hks]
  have r3 := B.rel r1 r2
  have z3 := G.run X.A X.stack S2 H2 ⟨us, ks.zip ws⟩ (g us ws) (gV vs zs) Q E hG (hr.mono hk) J2.env0 (B.to S2 us ws J2.kIn (r1.length ▸ l1) (r2.length ▸ l2)) r3 z2
  refine wpAny_call (codeAny_mono z3 fun rr S3 hq => ?_)
  have y := runs_end hx J2 hq
  cases rr with
  | error e => exact y
  | ok fl => cases fl <;> exact y
end
end Kr
/-! raise C(what, limit): two fields kept. -/
namespace Kr
open PySem PySem.Spec PySem.W
open PyProof.Rows L2

section
variable {P : Program} {w : World} {K : PySem.W.Frag} {mg : Str → Option Value} {base : Heap}
def spIni2 (K : PySem.W.Frag) (B newId initId : String) (tail : List Value) : Sp := fun vs G Q _ => ∃ (a C : Addr) (u v : V), vs = [.ref a, u, v] ∧ XC K C B newId initId tail ∧ takerIn K C "what" = some none ∧ takerIn K C "limit" = some none ∧ G a = some (exo a C none) ∧
  ∀ dx, G dx = none → dx ≠ a → Q .non (upd (upd (upd G dx (exd dx [("what", u)])) a (exo a C (some dx))) dx (exd dx [("limit", v), ("what", u)]))
theorem ini2_ok {qual : Str} {st : Stmt} {f : Addr} {fd : FuncData} {k : Nat} {B newId initId : String} {tail : List Value} {p1 p2 p3 p4 q1 q2 q3 q4 : Pos} (F : Fun K "__init__" qual st f fd) (S : FnScope ["self", "what", "limit"] ["self", "what", "limit"] (defScope st))
    (eb : defBody st = [.Assign [.Attribute (.Name "self" p1) "what" p2] (.Name "what" p3) p4, .Assign [.Attribute (.Name "self" q1) "limit" q2] (.Name "limit" q3) q4]) (n1 : Vis (defScope st) "self") (n2 : Vis (defScope st) "what") (n3 : Vis (defScope st) "limit") :
    FnOk P w K mg base CX0 (k + 1) f fd ["self", "what", "limit"] (spIni2 K B newId initId tail) := by
  refine F.ok S (fun vs H Q E h => by obtain ⟨_, _, _, _, rfl, _⟩ := h; rfl) ?_
  rintro cdv A out s G vs Q E room ⟨a, C, u, v, rfl, T, no1, no2, ga, q⟩
  rw [eb]
  refine ⟨_, pss_cons (ps_keep (B := B) (newId := newId) (initId := initId) (tail := tail) (pe_var (i := 0) rfl n1 (by decide) (by decide)) (pe_var (i := 1) rfl n2 (by decide) (by decide)))
    (pss_one (ps_keep (B := B) (newId := newId) (initId := initId) (tail := tail) (pe_var (i := 0) rfl n1 (by decide) (by decide)) (pe_var (i := 2) rfl n3 (by decide) (by decide)))), ?_⟩
  refine ⟨u, rfl, .ref a, rfl, a, C, rfl, T, no1, .inl ⟨ga, fun dx d1 d2 => ?_⟩⟩
  exact ⟨v, rfl, .ref a, rfl, a, C, rfl, T, no2, .inr ⟨dx, [("what", u)], upd_same, (upd_ne d2).trans upd_same, (show 1 ≤ 900 by decide), q dx d1 d2⟩⟩
/-- an own class whose instances keep these two -/
structure XV2 (K : PySem.W.Frag) (mg : Str → Option Value) (n qual : Str) (st : Stmt) (C : Addr) (B newId initId : String) (tail : List Value) : Prop where
  xc : XC K C B newId initId tail
  m : mg n = some (.ref C)
  no1 : takerIn K C "what" = some none
  no2 : takerIn K C "limit" = some none
  ini : ∃ (fI : Addr) (fd : FuncData), Fun K "__init__" qual st fI fd ∧ Binds K fd ["self", "what", "limit"] [] ∧ findIn K (.ref C) "__init__" = some (some (.ref fI)) ∧ typeIn K (.ref fI) = some (.type "function")
end
theorem made_same2 {G : Hp} {a d : Addr} {x y z y2 : HO} {fs : List (Str × V)} (na : G a = none) (nd : G d = none) : Same G (upd (del (upd (upd (upd (upd G a x) d y) a z) d y2) a) d (.xd fs)) := fun b u e => by
  have b1 : b ≠ a := fun q => by rw [q, na] at e; cases e
  have b2 : b ≠ d := fun q => by rw [q, nd] at e; cases e
  rw [upd_ne b2, del_ne b1, upd_ne b2, upd_ne b1, upd_ne b2, upd_ne b1, e]
/-- raise C('..', N), N a whole number of the top -/
def tRefuse2 (C : Addr) (W : WX) (u v : V) : TS := fun _ τ G => ∀ d G', Same G G' → G d = none → G' d = some (.xd [("limit", v), ("what", u)]) → W (.ref C) (some d) τ G'
theorem ps_refuse2 {X : Cx} {n qual : Str} {st : Stmt} {C : Addr} {B newId initId : String} {tail : List Value} {W : WX} {u v : V} {e1 e2 : Expr} {p pos pos2 p1 p2 p3 p4 q1 q2 q3 q4 : Pos} {k : Nat} (V2 : XV2 X.K X.mg n qual st C B newId initId tail)
    (S : FnScope ["self", "what", "limit"] ["self", "what", "limit"] (defScope st)) (eb : defBody st = [.Assign [.Attribute (.Name "self" p1) "what" p2] (.Name "what" p3) p4, .Assign [.Attribute (.Name "self" q1) "limit" q2] (.Name "limit" q3) q4])
    (n1 : Vis (defScope st) "self") (n2 : Vis (defScope st) "what") (n3 : Vis (defScope st) "limit") (hc : X.calm = true) (tk : Takes X W) (room : Room k X.A) (hk : 2 ≤ k) (gl : Gl X n) (h1 : PE X e1 (tC u)) (h2 : PE X e2 (tC v))
    (s1 : starEach [e1, e2] X.env = (false, eval e1 X.env) :: starEach [e2] X.env) (s2 : starEach [e2] X.env = (false, eval e2 X.env) :: starEach [] X.env) (dbg : (n == ("__debug__" : Str)) = false := by decide)
    (hpl : (backTo pos (starEach [e2] X.env)).any (·.1) = false := by rfl) :
    PS X (.Raise (some (.Call (.Name n p) [e1, e2] [] pos)) none pos2) (tRefuse2 C W u v) := by
  obtain ⟨fI, fd, F, bi, ini, ty⟩ := V2.ini
  have Fk : FnOk X.prog X.w X.K X.mg X.base CX0 1 fI fd ["self", "what", "limit"] (spIni2 X.K B newId initId tail) := ini2_ok (k := 0) F S eb n1 n2 n3
  have rl := ps_raise (pos := pos2) hc tk (pmk_xc (p := p) (pos := pos) V2.xc ini ty Fk (room.mono hk) bi (fun _ _ _ _ _ _ _ h => h.elim) gl V2.m (pa_cons (hs := s1) h1 (pa_cons (hs := s2) h2 pa_nil)) dbg s1 hpl)
  constructor
  rintro pn s τ G D J q
  refine rl.run pn s τ G D J ⟨(by decide : 2 ≤ 1000), fun a na => ⟨a, C, u, v, rfl, V2.xc, V2.no1, V2.no2, upd_same, fun d nd da => ⟨rfl, d, [("limit", v), ("what", u)], (upd_ne da.symm).trans upd_same, upd_same, ?_, ?_⟩⟩⟩
  · rw [upd_ne da] at nd; exact nd
  · rw [upd_ne da] at nd
    exact q d _ (made_same2 na nd) nd upd_same
end Kr
/-! Blocks walked statement by statement; lists of lambdas that are made so. -/
namespace Kr
open PySem PySem.Spec PySem.W
open PyProof.Rows L2

/-- a block, where it stands: it ends as wanted -/
structure Goes (X : Cx) (ss : List Stmt) (D : Ends) (σ : L2.St) (H : Hp) : Prop where
  run : ∀ pins s, Inv X pins σ H s → wpAny (model X.prog X.w) X.A (execs ss X.env) (SP X pins D) X.xe s
section
variable {X : Cx} {ss rest : List Stmt} {st : Stmt} {t : TS} {D : Ends} {σ : L2.St} {H : Hp}
theorem pss_goes : PSs X ss (Goes X ss) := ⟨fun pins s _ _ _ J h => h.run pins s J⟩
theorem Goes.of (h : PSs X ss t) (q : t D σ H) : Goes X ss D σ H := ⟨fun pins s J => h.run pins s σ H D J q⟩
theorem Goes.cons (h : PS X st t) (q : t { D with nx := Goes X rest D } σ H) : Goes X (st :: rest) D σ H := Goes.of (pss_cons h pss_goes) q
end
/-- n lambdas, each of them good, lie in the list at l -/
def Kept (T : List (Addr × Str)) (H : Hp) (l : Addr) (n : Nat) (Ok : LF → Prop) (G : Hp) : Prop := ∃ fs, Lams T H l fs G ∧ fs.length = n ∧ ∀ x ∈ fs, Ok x.2
section
variable {X : Cx} {T : List (Addr × Str)} {c P : Addr} {par : Arguments} {bd : Expr} {sc : Scope} {rest : List Stmt} {D : Ends} {σ : L2.St} {H G : Hp} {x : Str} {i n : Nat} {Ok : LF → Prop} {l : Addr}
/-- the lambda that is made there -/
abbrev madeAt (X : Cx) (par : Arguments) (bd : Expr) (sc : Scope) (d : Addr) : LF := ⟨X.env.qual ++ "<lambda>", par, bd, sc, cloFrom X.env.cells sc.names [], d⟩
/-- x = [lambda] -/
theorem Goes.first {p1 p2 p3 p4 : Pos} (B : LamX.TabB X.base X.mg c P) (cd : X.env.code = .ref c) (mem : (P, X.env.qual ++ "<lambda>") ∈ T) (own : ∀ p ∈ T, p.1 = P → p.2 = X.env.qual ++ "<lambda>")
    (df : defaultsOf par X.env = ([], [])) (L : LamX.LamS X.env.scope sc) (nd : X.N.Nodup) (iN : X.N[i]? = some x) (lc : Loc X.env.scope x) (tt : LamX.Tabs T H) (ok : ∀ d, Ok (madeAt X par bd sc d))
    (go : ∀ l G, Kept T H l 1 Ok G → Goes X rest D (σ.set i (some (.ref l))) G)
    (hs : swapsWith (.List [.Lambda par bd sc p1] p2) (some (.Name x p3)) p4.line X.env = pure false := by rfl) (hf : X.fn x = true ∨ X.env.scope.names.lookup x = some .local := by first | exact .inl rfl | exact .inr rfl | assumption) :
    Goes X (.Assign [.Name x p3] (.List [.Lambda par bd sc p1] p2) p4 :: rest) D σ H := by
  refine Goes.cons (ps_set nd iN lc (pe_lst (pa_cons (pe_lam B cd mem own df L) pa_nil)) hs hf) ⟨tt, fun f d G0 x0 n0 t0 _ e1 e2 => ⟨Nat.le_of_lt (small1000 (by decide : 1 ≤ 1000)), fun l nl => ?_⟩⟩
  refine go l _ ⟨_, Lams.first x0 n0 t0 e1 e2 nl, rfl, fun y m => ?_⟩
  obtain rfl : y = _ := by simpa using m
  exact ok d
/-- x.append(lambda) -/
theorem Goes.more {p1 p2 p3 p4 p5 : Pos} (B : LamX.TabB X.base X.mg c P) (cd : X.env.code = .ref c) (mem : (P, X.env.qual ++ "<lambda>") ∈ T) (own : ∀ p ∈ T, p.1 = P → p.2 = X.env.qual ++ "<lambda>")
    (df : defaultsOf par X.env = ([], [])) (L : LamX.LamS X.env.scope sc) (iN : X.N[i]? = some x) (vis : Vis X.env.scope x) (K : Kept T H l n Ok G) (hn : n < 1000) (at_ : σ[i]? = some (some (.ref l))) (ok : ∀ d, Ok (madeAt X par bd sc d))
    (go : ∀ G', Kept T H l (n + 1) Ok G' → Goes X rest D σ G') (d1 : (x == ("__debug__" : Str)) = false := by decide) (d2 : (x == ("__classdict__" : Str)) = false := by decide)
    (hbase : attributeBase (.Name x p2) "append" X.env (eval (.Name x p2) X.env) = eval (.Name x p2) X.env := by rfl) (hline : (p3.endLine == p4.line) = true := by rfl)
    (hs : swapsWith (.Call (.Attribute (.Name x p2) "append" p3) [.Lambda par bd sc p1] [] p4) none p5.line X.env = pure false := by rfl) :
    Goes X (.Expr (.Call (.Attribute (.Name x p2) "append" p3) [.Lambda par bd sc p1] [] p4) p5 :: rest) D σ G := by
  obtain ⟨fs, L0, ln, oks⟩ := K
  refine Goes.cons (ps_expr (pe_bm PySem.F.plainAttrs_list PySem.F.slot_list_append PySem.F.type_list_append mt_append (pe_var iN vis d1 d2) (pa_cons (pe_lam B cd mem own df L) pa_nil) hbase (by rfl) hline (by rfl) (by rfl)) hs) ?_
  refine ⟨_, at_, .inl ⟨rfl, _, SqL.of L0.lst⟩, L0.tab, fun f d G1 x1 n1 t1 _ e1 e2 => ?_⟩
  obtain ⟨el, L1⟩ := L0.more x1 t1 e1 e2
  refine ⟨l, _, _, rfl, rfl, el, Nat.le_of_lt (small1000 ?_), go _ ⟨_, L1, by rw [List.length_append, ln]; rfl, fun y m => ?_⟩⟩
  · rw [List.length_map, ln]; exact hn
  rcases List.mem_append.mp m with g | g
  · exact oks y g
  · obtain rfl : y = _ := by simpa using g
    exact ok d
end
section
variable {P : Program} {w : World} {K : PySem.W.Frag} {mg : Str → Option Value} {base : Heap}
/-- the lambda F can be called once the cells of the frame X are laid over, and then keeps R -/
def Heeds (P : Program) (w : World) (K : PySem.W.Frag) (mg : Str → Option Value) (base : Heap) (k : Nat) (X : Cx) (caps : List (Str × Nat)) (vals : List (Nat × V)) (H : Hp) (R : Hp → (Hp → VK → XK → Prop) → Prop) (F : LF) : Prop :=
  ∀ (τ : L2.St) (G ov : Hp) (f : Addr), Same (noT H) G → OvFor X caps τ G ov → (∀ i v, (i, v) ∈ vals → τ[i]? = some (some v)) → G f = some (LamO f F) → G F.c = some (LamX.CodeO F.c F.qual) →
    ∃ sp, Act P w K mg base k f (lay ov G) sp ∧ R (lay ov G) sp
theorem cells_cx {CX : CXT} {N : List Str} {x : Str} {sc : Scope} {f : Addr} {cdv : Value} {A : Around} {out : List Env} {s : Shared} {H : Hp} {E : XK} : (cxOf CX P w K mg base N x sc f cdv A out s H E).nox.env.cells = cellsFrom (s.heap.objs.size + 1) sc.names [] := rfl
theorem qual_cx {CX : CXT} {N : List Str} {x : Str} {sc : Scope} {f : Addr} {cdv : Value} {A : Around} {out : List Env} {s : Shared} {H : Hp} {E : XK} : (cxOf CX P w K mg base N x sc f cdv A out s H E).nox.env.qual ++ "<lambda>" = x ++ ".<locals>." ++ "<lambda>" := rfl
theorem good_mk {k m : Nat} {X : Cx} {caps : List (Str × Nat)} {vals : List (Nat × V)} {H : Hp} {R : Hp → (Hp → VK → XK → Prop) → Prop} {s : Stmt} {l : Expr} {q : Str} {fr : List Str} {vs : List V} {rd : Hp → VK → XK → Prop}
    (hX : X.env.cells = cellsFrom m (defScope s).names []) (hq : X.env.qual ++ "<lambda>" = q) (L : LamX.lamSB (defScope s) (lamScope l) = true) (nf : (defScope s).names.all (fun y => !decide (y.2 = .free)) = true)
    (lam : ∀ {f d : Addr} {cl : List (Str × Addr)}, LOk P w K mg base (L2.CX P w) k f ⟨q, lamArgs l, lamBody l, lamScope l, cl, d⟩ fr (vs.map some) rd) (ln : vs.length = fr.length)
    (hk : ∀ (j : Nat) (y : Str), fr[j]? = some y → (y, NameKind.free) ∈ (lamScope l).names ∧ ∃ i, (y, i) ∈ caps ∧ ∀ v, vs[j]? = some v → (i, v) ∈ vals)
    (r : ∀ (cl : List (Str × Addr)) (G G1 : Hp), Same (noT H) G → (∀ y b, cl.lookup y = some b → G b = none) → Same G G1 → R G1 (under cl rd)) :
    ∀ d, Heeds P w K mg base k X caps vals H R (madeAt X (lamArgs l) (lamBody l) (lamScope l) d) := by
  subst hq
  intro d τ G ov f s0 hov hv e1 e2
  have SL : Same G (lay ov G) := lay_keeps hov.new
  have fc : ∀ y ∈ (lamScope l).names, y.2 = .free → ∃ c, X.env.cells.lookup y.1 = some c := fun y hy e => by
    rw [hX]; exact free_cells (LamX.lamS_by L) nf y hy e
  refine ⟨_, ⟨_, fr, vs, lamOk_of lam, SL _ _ e1, SL _ _ e2, cells_laid hov fc ln fun j y e => ?_⟩, r _ G _ s0 (fun y b e => ?_) SL⟩
  · obtain ⟨a, i, b, c⟩ := hk j y e
    exact ⟨a, i, b, fun v ev => hv i v (c v ev)⟩
  · obtain ⟨ob, w', e3, _⟩ := hov.all y b (NdefX.clo_cm fc e)
    exact hov.new b _ e3
end
/-- the lambda of a statement, in a loop's first test too -/
def lamIn : Stmt → Expr
  | .For _ _ (.If (.Compare (.Call _ (e :: _) _ _) _ _ _) _ _ _ :: _) _ _ => e
  | s => lamOf s
theorem noT_is {G : Hp} {b : Addr} {u : HO} (e : G b = some u) (n : ∀ ps, u ≠ .tbl ps) : noT G b = some u := by
  unfold noT
  rw [e]
  cases u with
  | tbl ps => exact absurd rfl (n ps)
  | _ => rfl
theorem noT_same {G G1 : Hp} (s : Same G G1) : Same (noT G) (noT G1) := fun b u e => noT_is (s _ _ (noT_at e).1) (noT_at e).2
theorem ext_noT {G G1 : Hp} (x : LamX.ExtN G G1) : Same (noT G) (noT G1) := fun b u e => noT_is (x b u (noT_at e).1 (noT_at e).2) (noT_at e).2
theorem ext_of {G G1 : Hp} (s : Same G G1) : LamX.ExtN G G1 := fun b u e _ => s b u e
/-- another value in a list leaves the tables -/
theorem tabs_chg1 {T : List (Addr × Str)} {G G1 : Hp} {a : Addr} {xs : List V} (t : LamX.Tabs T G) (c : Chg a G G1) (e : G a = some (.lst xs)) : LamX.Tabs T G1 := by
  have ne : ∀ {b : Addr} {o : HO}, G b = some o → (∀ ys, o ≠ .lst ys) → b ≠ a := fun {b o} g n z => by
    subst z; rw [e] at g; exact n _ (Option.some.inj g).symm
  intro p m
  obtain ⟨ps, g1, g2, g3⟩ := t p m
  refine ⟨ps, c _ _ (ne g1 fun ys z => by cases z) g1, g2, fun x v hv => ?_⟩
  obtain ⟨d, ed, g4⟩ := g3 x v hv
  exact ⟨d, ed, c _ _ (ne g4 fun ys => codeO_lst) g4⟩
theorem pe_as {X : Cx} {e : Expr} {t t' : TE} (h : PE X e t) (g : ∀ σ H Q, t' σ H Q → t σ H Q) : PE X e t' := ⟨fun pn s σ H Q J z => h.run pn s σ H Q J (g _ _ _ z)⟩
/-- what is never come to -/
theorem pe_nope {X : Cx} {e : Expr} : PE X e (fun _ _ _ => False) := ⟨fun _ _ _ _ _ _ z => z.elim⟩
theorem pi_lstK {X : Cx} {K : PySem.W.Frag} {tg l : Expr} {tl : TE} (h : X.K = K) (hl : PE X l tl) : PI X tg l (iList K tl) := h ▸ pi_list hl
/-- constants, one after another -/
def litA : List V → TA
  | [] => tNil
  | x :: xs => tCons (tC x) (litA xs)
theorem litA_run {σ : L2.St} : ∀ {xs : List V} {H : Hp} {Q : List V → Hp → Prop}, Q xs H → litA xs σ H Q
  | [], _, _, q => q
  | x :: xs, _, _, q => litA_run (xs := xs) q
section
variable {R : Hp → V → Prop} {σ : L2.St} {H : Hp} {ta : TA} {xs : List V}
/-- a list, or a tuple, of constants -/
theorem ge_lits (hta : ta = litA xs) (hn : xs.length ≤ 1000) (h : ∀ (H : Hp) a, H a = some (.lst xs) → R H (.ref a)) : GEp R (tLst ta) σ H := fun H1 s Q q => by
  subst hta
  exact litA_run ⟨Nat.le_of_lt (small1000 hn), fun l nl => q _ _ (Same.put nl) (h _ _ upd_same)⟩
theorem ge_litsT (hta : ta = litA xs) (hn : xs.length ≤ 1000) (h : ∀ (H : Hp) a, H a = some (.tup xs) → R H (.ref a)) : GEp R (tTup ta) σ H := fun H1 s Q q => by
  subst hta
  exact litA_run ⟨Nat.le_of_lt (small1000 hn), fun l nl => q _ _ (Same.put nl) (h _ _ upd_same)⟩
theorem ge_const {x : V} (h : ∀ H, R H x) : GEp R (tC x) σ H := fun H1 s Q q => q x H1 (Same.refl _) (h H1)
end
/-- scalars, as data -/
def scD : V → PyData
  | .int i => .int i
  | .bl b => .bool b
  | .str x => .str x
  | _ => .none
def scB : V → Bool
  | .ref _ => false
  | .non => true
  | .int _ => true
  | .bl _ => true
  | .str _ => true
  | _ => false
theorem dp_sc {K : PySem.W.Frag} {H : Hp} {x : V} (h : scB x = true) : Dp K H x (scD x) := by
  cases x <;> first | exact .non | exact .int _ | exact .bl _ | exact .str _ | (cases h)
theorem dps_sc {K : PySem.W.Frag} {H : Hp} : ∀ {xs : List V}, xs.all scB = true → DpAll K H xs (xs.map scD)
  | [], _ => .nil
  | x :: xs, h => by
    have h2 : scB x = true ∧ xs.all scB = true := by simpa using h
    exact .cons (dp_sc h2.1) (dps_sc h2.2)
theorem kd_sc {H : Hp} {x : V} (h : scB x = true) : ∃ k, Kd H x k := by
  cases x <;> first | exact ⟨_, .non⟩ | exact ⟨_, .int _⟩ | exact ⟨_, .bl _⟩ | exact ⟨_, .str _⟩ | (cases h)
end Kr
/-! The end of a law whose defs make lambdas: the tables of their code objects are tracked too. -/
namespace Kr
open PySem PySem.Spec PySem.W
open PyProof.Rows L2

section
variable {K : PySem.W.Frag} {C D : Addr}
/-- what the classes' facts rest on -/
theorem kitC_by {b : Bool} {cd : ClassData} (h2 : clsIn K C = some cd) (h3 : typeIn K (.ref C) = some (.type "type")) (h4 : subIn K (.ref D) (.ref C) = some b) : kitCls K (.ref D) (.ref C) = some b := by
  show (if ((clsIn K C).isSome && typeIn K (.ref C) == some (.type "type")) = true then subIn K (.ref D) (.ref C) else none) = some b
  rw [h2, h3]
  exact (if_pos (by simp)).trans h4
theorem exm_by {b : Bool} {cd : ClassData} (h1 : subIn K (.ref C) (.type "BaseException") = some true) (h2 : clsIn K C = some cd) (h3 : typeIn K (.ref C) = some (.type "type")) (h4 : subIn K (.ref D) (.ref C) = some b) : exmOne K (.ref D) (.ref C) = some b := by
  unfold exmOne
  rw [h1]
  exact (if_pos (by simp)).trans (kitC_by h2 h3 h4)
theorem kit_by {cd : ClassData} (h2 : clsIn K C = some cd) (h3 : typeIn K (.ref C) = some (.type "type")) (h4 : subIn K (.ref D) (.ref C) = some true) : kitOne K (.ref D) (.ref C) = some true := by
  unfold kitOne
  by_cases e : ((Value.ref D) == (Value.ref C)) = true
  · exact if_pos e
  · exact (if_neg e).trans (kitC_by h2 h3 h4)
theorem kitV_by (h4 : subIn K (.ref D) (.type "ValueError") = some true) : kitOne K (.ref D) (.type "ValueError") = some true := by
  unfold kitOne
  refine (if_neg fun z => ?_).trans ?_
  · cases beq_iff_eq.mp z
  · show (if kitMeta "ValueError" = true then subIn K (.ref D) (.type "ValueError") else none) = some true
    exact (if_pos (by decide +kernel)).trans h4
def overC (cd : ClassData) (C : Addr) (tail : List Value) : Bool := match cd.mro with
  | .ref C' :: bm => C' == C && excTail tail bm
  | _ => false
theorem over_by {cd : ClassData} {tail : List Value} (h : clsIn K C = some cd) (h2 : overC cd C tail = true) : excOver K C tail = true := by
  unfold excOver
  rw [h]
  exact h2
def initC (o : Option Obj) (C : Addr) (tail : List Value) (newId : String) : Bool := match o with
  | some ⟨.type "type", _, .cls cd, sl⟩ => (match cd.mro, sl.toList with
    | .ref C' :: bm, [_, _, _, _, some (.builtin n), _] => C' == C && n == newId && !cd.hasDel && excTail tail bm
    | _, _ => false)
  | _ => false
theorem init_by {o : Option Obj} {tail : List Value} {newId : String} (h : K.lookup C = o) (h2 : initC o C tail newId = true) : excInitIn K C tail newId = true := by
  subst h
  exact h2
end
/-- an empty table, as it stands in the heap -/
abbrev tab0 : Obj := { cls := .none, data := .fields #[] }
/-- the code objects and their tables, as the head leaves them -/
structure TabsAt (K : PySem.W.Frag) (cs : List (Addr × Addr)) (h : Heap) : Prop where
  at_ : ∀ p ∈ cs, h.get? p.2 = some tab0
  off : ∀ p ∈ cs, K.lookup p.2 = none
  hd : ∀ p ∈ cs, PySem.W.CodeHd h p.1 p.2
section
variable {P : Program} {w : World} {K : PySem.W.Frag} {mg mb : Str → Option Value} {k : Nat} {fa a : Addr} {fd : FuncData} {x : Str} {sp : Sp} {S : Shared} {vs : List Value} {ns : List Int} {cs : List (Addr × Addr)} {H : Hp}
/-- what may be tracked: the script, frozen, and the tables -/
def Few (cs : List (Addr × Addr)) (a : Addr) (H : Hp) : Prop := ∀ b u, H b = some u → (b = a ∧ ∃ o ys, u = .frz o (.lst ys)) ∨ ((∃ p ∈ cs, p.2 = b) ∧ u = .tbl #[])
theorem few_free (few : Few cs a H) (T : TabsAt K cs S.heap) (ha : S.heap.get? a = some { cls := .type "list", data := .seq vs.toArray }) {b : Addr} {o : Obj} (e : S.heap.get? b = some o) (n1 : o ≠ { cls := .type "list", data := .seq vs.toArray }) (n2 : o ≠ tab0) : H b = none := by
  match q : H b with
  | none => rfl
  | some u =>
    rcases few b u q with ⟨e1, _⟩ | ⟨⟨p, m, e1⟩, _⟩
    · rw [e1, ha] at e
      exact absurd (Option.some.inj e).symm n1
    · have z := T.at_ p m
      rw [e1, e] at z
      exact absurd (Option.some.inj z) n2
theorem few_base (few : Few cs a H) (T : TabsAt K cs S.heap) (ha : S.heap.get? a = some { cls := .type "list", data := .seq vs.toArray }) {b : Addr} {o : Obj} (e : S.heap.get? b = some o) (n1 : o ≠ { cls := .type "list", data := .seq vs.toArray }) (n2 : o ≠ tab0) : (hidT S.heap H).get? b = some o :=
  hidT_get e (few_free few T ha e n1 n2)
theorem few_ns (few : Few cs a H) (T : TabsAt K cs S.heap) (ha : S.heap.get? a = some { cls := .type "list", data := .seq vs.toArray }) {b : Addr} {m : Str → Option Value} : S.heap.Ns b m → (hidT S.heap H).Ns b m := by
  rintro ⟨o, es, ep, e, d, r⟩
  exact ⟨o, es, ep, few_base few T ha e (fun z => by rw [z] at d; cases d) (fun z => by rw [z] at d; cases d), d, r⟩
/-- each table, where nothing else is tracked -/
theorem few_tab (few : Few cs a H) (T : TabsAt K cs S.heap) (ha : S.heap.get? a = some { cls := .type "list", data := .seq vs.toArray }) (hns : S.heap.Ns mainGlobals mg)
    (hbm : ∃ (bm : Addr) (ob : Obj), mg "__builtins__" = some (.ref bm) ∧ bm ≠ builtinsNs ∧ S.heap.get? bm = some ob ∧ ob.cls = .type "module" ∧ ob.dict = some builtinsNs ∧ ob.data = .plain) : ∀ p ∈ cs, LamX.TabB (hidT S.heap H) mg p.1 p.2 := fun p m => by
  obtain ⟨g, gs, gp, eg, dg, _⟩ := hns
  obtain ⟨bm, ob, y1, y2, y3, y4, y5, y6⟩ := hbm
  have at_ := T.at_ p m
  constructor
  · obtain ⟨o, us, file, tf, flags, tg, inF, text, tt, e1, r1, r2, r⟩ := T.hd p m
    exact ⟨o, us, file, tf, flags, tg, inF, text, tt, few_base few T ha e1 (fun z => by rw [z] at r2; cases r2) (fun z => by rw [z] at r1; cases r1), r1, r2, r⟩
  · have off1 : bm ≠ mainGlobals := fun z => by
      rw [z, eg] at y3
      rw [← Option.some.inj y3, dg] at y6
      cases y6
    have off2 : bm ≠ p.2 := fun z => by
      rw [z, at_] at y3
      rw [← Option.some.inj y3] at y6
      cases y6
    exact ⟨bm, ob, y1, y2, off1, off2, few_base few T ha y3 (fun z => by rw [z] at y6; cases y6) (fun z => by rw [z] at y6; cases y6), y4, y5, y6⟩
  · intro z
    rw [z, at_] at eg
    rw [← Option.some.inj eg] at dg
    cases dg
/-- the call, from such a heap -/
theorem call_few (few : Few cs a H) (T : TabsAt K cs S.heap) (full : ∀ p ∈ cs, H p.2 = some (.tbl #[])) (hS : SqL K H a (ns.map V.int)) (hok : HOk P w H S.heap) (off : H a ≠ none → K.lookup a = none) (KX : K.In S.heap) (hns : S.heap.Ns mainGlobals mg) (hb : S.heap.Ns builtinsNs mb)
    (hbb : ∀ x : Str, x ≠ "__name__" → mb x = bootBuiltins x) (hlim : S.heap.NoLimit) (hg : S.gens = #[])
    (hbm : ∃ (bm : Addr) (ob : Obj), mg "__builtins__" = some (.ref bm) ∧ bm ≠ builtinsNs ∧ S.heap.get? bm = some ob ∧ ob.cls = .type "module" ∧ ob.dict = some builtinsNs ∧ ob.data = .plain)
    (ha : S.heap.get? a = some { cls := .type "list", data := .seq vs.toArray }) (hr : Room k callerA)
    (F : ∀ base : Heap, K.In base → base.Ns mainGlobals mg → (∀ p ∈ cs, LamX.TabB base mg p.1 p.2) → FnG P w K mg base CX0 k fa fd [x] sp) (hbind : ∀ (s : Shared) (u : Value), BindsTo s fd ⟨[u], []⟩ [(x, u)])
    (hsp : ∀ H : Hp, (∀ p ∈ cs, H p.2 = some (.tbl #[])) → SqL K H a (ns.map V.int) → sp [.ref a] H (fun v _ => v = .bl true) fun _ _ _ => False) :
    codeAny (model P w) callerA (.call (.ref fa) ⟨[.ref a], []⟩) (fun r s' => r = .ok (.ret (.bool true)) ∧ OldK S.heap s'.heap ∧ s'.os = S.os ∧ AllBare s'.gens) S := by
  have kB : K.In (hidT S.heap H) := by
    intro b o e
    refine hidT_get (KX b o e) ?_
    match q : H b with
    | none => rfl
    | some u =>
      rcases few b u q with ⟨e1, _⟩ | ⟨⟨p, m, e1⟩, _⟩
      · rw [e1] at q e
        rw [off (by rw [q]; exact fun z => nomatch z)] at e
        cases e
      · have z := T.off p m
        rw [e1, e] at z
        cases z
  have M : Mod K mg (hidT S.heap H) := ⟨kB, few_ns few T ha hns, ⟨mb, few_ns few T ha hb, hbb⟩, hlim.elim fun mc z => ⟨mc, few_ns few T ha z.1, z.2⟩⟩
  have e0 : Env0 P w K mg (hidT S.heap H) callerA [] S H := ⟨rfl, M, fun b o e => of_hidT e, Nat.le_of_eq (hidT_size _ _), trivial, fun b z => absurd (show b ∈ ([] : List Addr) from z) List.not_mem_nil, hok, .of_eq hg⟩
  have run := (F _ kB (few_ns few T ha hns) (few_tab few T ha hns hbm)).run callerA [] S H ⟨[.ref a], []⟩ [.ref a] [.ref a] _ _ rfl hr e0 (hbind S (.ref a)) (.cons rfl .nil) (hsp H full hS)
  refine codeAny_mono run fun r s' h => ?_
  match r, h with
  | .error e, h => exact False.elim h
  | .ok .next, h => exact False.elim h
  | .ok .brk, h => exact False.elim h
  | .ok .cont, h => exact False.elim h
  | .ok (.ret u), ⟨v, H', os, bare, un, hok', r', q⟩ =>
    obtain rfl : v = .bl true := q
    obtain rfl : u = Value.bool true := by exact r'
    have stays : ∀ b o, S.heap.get? b = some o → s'.heap.get? b = some o ∨ ((∃ p ∈ cs, p.2 = b) ∧ o = tab0 ∧ ∃ more : Array Value, s'.heap.get? b = some { cls := .none, data := .fields more }) := by
      intro b o e
      match q : H b with
      | none => exact .inl (un.keep b o e q (fun z => absurd (show b ∈ ([] : List Addr) from z) List.not_mem_nil) List.not_mem_nil)
      | some u =>
        rcases few b u q with ⟨_, ob, ys, rfl⟩ | ⟨⟨p, m, e1⟩, rfl⟩
        · have g1 := (hok b _ q).1
          rw [e] at g1
          have g2 := (hok' b _ (un.frzs b ob _ q)).1
          exact .inl (by rw [g2]; exact g1.symm)
        · obtain ⟨more, g⟩ := un.tbls b #[] q
          have z := T.at_ p m
          rw [e1, e] at z
          exact .inr ⟨⟨p, m, e1⟩, Option.some.inj z, _, hok' b _ g⟩
    refine ⟨rfl, ⟨fun b o e => ?_, fun b o e => ?_⟩, os, bare⟩
    · rcases stays b o e with z | ⟨⟨p, m, e1⟩, rfl, more, z⟩
      · exact .inl z
      · rw [← e1] at e z ⊢
        exact .inr (.inl ⟨((T.hd p m).tab (T.at_ p m)).isCodeTable, rfl, #[], more, rfl, by rw [Array.empty_append]; exact z⟩)
    · rcases stays b o e with z | ⟨_, _, more, z⟩
      · exact ⟨_, z⟩
      · exact ⟨_, z⟩
/-- nothing is tracked but the tables, and the script where it isn't kept -/
theorem callTG (T : TabsAt K cs S.heap) (KX : K.In S.heap) (hns : S.heap.Ns mainGlobals mg) (hb : S.heap.Ns builtinsNs mb) (hbb : ∀ x : Str, x ≠ "__name__" → mb x = bootBuiltins x) (hlim : S.heap.NoLimit) (hg : S.gens = #[])
    (hbm : ∃ (bm : Addr) (ob : Obj), mg "__builtins__" = some (.ref bm) ∧ bm ≠ builtinsNs ∧ S.heap.get? bm = some ob ∧ ob.cls = .type "module" ∧ ob.dict = some builtinsNs ∧ ob.data = .plain)
    (ha : S.heap.get? a = some { cls := .type "list", data := .seq vs.toArray }) (hi : IntsAre vs ns) (hl : ns.length ≤ sizeLine) (hr : Room k callerA)
    (F : ∀ base : Heap, K.In base → base.Ns mainGlobals mg → (∀ p ∈ cs, LamX.TabB base mg p.1 p.2) → FnG P w K mg base CX0 k fa fd [x] sp) (hbind : ∀ (s : Shared) (u : Value), BindsTo s fd ⟨[u], []⟩ [(x, u)])
    (hsp : ∀ H : Hp, (∀ p ∈ cs, H p.2 = some (.tbl #[])) → SqL K H a (ns.map V.int) → sp [.ref a] H (fun v _ => v = .bl true) fun _ _ _ => False) :
    codeAny (model P w) callerA (.call (.ref fa) ⟨[.ref a], []⟩) (fun r s' => r = .ok (.ret (.bool true)) ∧ OldK S.heap s'.heap ∧ s'.os = S.os ∧ AllBare s'.gens) S := by
  have apart : ∀ p ∈ cs, p.2 ≠ a := fun p m z => by
    have g := T.at_ p m
    rw [z, ha] at g
    cases g
  classical
  let tabs : Hp := fun b => if ∃ p ∈ cs, p.2 = b then some (.tbl #[]) else none
  have on : ∀ p ∈ cs, tabs p.2 = some (.tbl #[]) := fun p m => if_pos ⟨p, m, rfl⟩
  have na : tabs a = none := if_neg fun ⟨p, m, z⟩ => apart p m z
  have is : ∀ b u, tabs b = some u → (∃ p ∈ cs, p.2 = b) ∧ u = .tbl #[] := fun b u e => by
    by_cases h : ∃ p ∈ cs, p.2 = b
    · rw [show tabs b = some (.tbl #[]) from if_pos h] at e
      exact ⟨h, (Option.some.inj e).symm⟩
    · rw [show tabs b = none from if_neg h] at e
      cases e
  have ok : ∀ b u, tabs b = some u → ObjOk P w tabs S.heap b u := fun b u e => by
    obtain ⟨⟨p, m, rfl⟩, rfl⟩ := is b u e
    exact T.at_ p m
  match hk : K.lookup a with
  | some o =>
    have e := KX a o hk
    rw [ha] at e
    cases e
    refine call_few (H := tabs) (fun b u e => .inr (is b u e)) T on (.inr ?_) (fun b u e => ok b u e) (fun z => absurd na z) KX hns hb hbb hlim hg hbm ha hr F hbind hsp
    exact ⟨_, vs.toArray, _, hk, rfl, rfl, rfl, by rw [List.size_toArray, hi.length]; exact hl, vals_ints hi⟩
  | none =>
    let fz : HO := .frz { cls := .type "list", data := .seq vs.toArray } (.lst (ns.map V.int))
    refine call_few (H := upd tabs a fz) (fun b u e => ?_) T (fun p m => (upd_ne (apart p m)).trans (on p m)) (.inl (.inr ⟨_, upd_same⟩)) (fun b u e => ?_) (fun _ => hk) KX hns hb hbb hlim hg hbm ha hr F hbind hsp
    · by_cases h : b = a
      · rw [h, upd_same] at e
        exact .inl ⟨h, _, _, (Option.some.inj e).symm⟩
      · rw [upd_ne h] at e
        exact .inr (is b u e)
    · by_cases h : b = a
      · rw [h, upd_same] at e
        obtain rfl := Option.some.inj e
        rw [h]
        exact ⟨ha, (by rw [List.length_map]; exact hl), vs, _, vals_ints hi, ha⟩
      · rw [upd_ne h] at e
        obtain ⟨⟨p, m, rfl⟩, rfl⟩ := is b u e
        exact T.at_ p m
end
/-- the walk of such a law -/
theorem walkTG {l : PySem.W.OpenLaw} {n k : Nat} {q : Program} {loose : List Str} {XP : (Str → Option Value) → Heap → Prop} {YP : World → Heap → Prop} {d : DefRec} {K : Params → PySem.W.Frag} {x : Str} (hn : l.most = some n) (hn2 : n ≤ sizeLine) (hdf : d.params.defaults = []) (hr : Room k callerA)
    (hY : ∀ (v : World) (h : Heap), YP v h → (K v.params).In h)
    (F : ∀ (w : World) (mg : Str → Option Value) (fa : Addr) (h : Heap), YP w h → (K w.params).In h → h.Ns mainGlobals mg → mg d.name = some (.ref fa) →
      ∃ (fd : FuncData) (cs : List (Addr × Addr)) (sp : Sp), TabsAt (K w.params) cs h ∧ (∀ (s' : Shared) (u : Value), BindsTo s' fd ⟨[u], []⟩ [(x, u)]) ∧
        (∀ (H : Hp) (a : Addr) (ns : List Int), ns.length ≤ n → (∀ p ∈ cs, H p.2 = some (.tbl #[])) → SqL (K w.params) H a (ns.map V.int) → sp [.ref a] H (fun v _ => v = .bl true) fun _ _ _ => False) ∧
        ∀ base : Heap, (K w.params).In base → base.Ns mainGlobals mg → (∀ p ∈ cs, LamX.TabB base mg p.1 p.2) → FnG l.prog w (K w.params) mg base CX0 k fa fd [x] sp) :
    PySem.W.WalkO q loose XP YP l.row.toRowW d [] (fun f vs => PySem.call f vs) := by
  refine Att.attach_call hn hdf ?_
  intro w s₀ s₁ mg mb fa o pm cd doc a vs ns G Y ho hd hcd hmg hobj hints hlen hg
  have KX := hY w _ Y
  obtain ⟨fd, cs, sp, T, hb, hsp, hF⟩ := F w mg fa _ Y KX (G.T.g) hmg
  exact callTG T KX G.T.g G.T.b G.T.builtins G.T.nolimit hg G.T.bmain hobj hints (Nat.le_trans hlen hn2) hr hF hb fun H full hS => hsp H a ns hlen full hS
/-- a def that makes lambdas: its code object at c, that one's table at P -/
structure LamD (K : PySem.W.Frag) (mg : Str → Option Value) (h : Heap) (x : Str) (st : Stmt) (ps : List Str) (c P : Addr) : Prop where
  D : DfC K mg x st ps c
  at_ : h.get? P = some tab0
  off : K.lookup P = none
  hd : PySem.W.CodeHd h c P
theorem lamD_mk {K : PySem.W.Frag} {mg : Str → Option Value} {h : Heap} {x : Str} {st : Stmt} {ps : List Str} {f c P : Addr} {oc kV dc pm ct : Value} {od an dd : Option Addr} {sl sl2 : Array (Option Value)} {vs : Array Value} {file : Str} {tf : Tok} {flags text : Int} {tg tt : Tok} {inF : Bool}
    (X : K.In h) (G : h.Ns mainGlobals mg) (a : nsIn K mainGlobals x = some (some (.ref f))) (l : K.lookup f = some ⟨oc, od, .func (PySem.W.fnOf x x (defArgs st) (defBody st) (defScope st) .none kV dc pm an (.ref c) ct), sl⟩) (cd : codeIn K (.ref c) x = true) (k : keepIn K (.ref f) = true)
    (b : ∀ (kV doc pm : Value) (an : Option Addr) (cdv ct : Value) (us : List Value), us.length = ps.length → bindArgs (PySem.W.fnOf x x (defArgs st) (defBody st) (defScope st) .none kV doc pm an cdv ct) ⟨us, []⟩ = pure (ps.zip us)) (lc : K.lookup c = some ⟨.type "code", dd, .fields vs, sl2⟩) (h11 : vs[11]? = some (.ref P)) (g11 : vs.getD 11 .none = .ref P) (g18 : vs.getD 18 .none = .str file tf) (g7 : vs.getD 7 .none = .int flags tg)
    (g9 : vs.getD 9 .none = .bool inF) (g10 : vs.getD 10 .none = .int text tt) (ne : c ≠ P) (at_ : h.get? P = some tab0) (off : K.lookup P = none) : LamD K mg h x st ps c P :=
  ⟨⟨f, oc, od, kV, dc, pm, an, ct, sl, l, cd, k, PySem.W.mg_of X G a, (fun_mk l cd k).binds b⟩, at_, off, ⟨_, vs, file, tf, flags, tg, inF, text, tt, X _ _ lc, rfl, rfl, h11, g11, g18, g7, g9, g10, ne⟩⟩
end Kr
namespace Kr
open PySem PySem.Spec
open PyProof.Rows L2
def topS (i : Nat) : Stmt :=
  PySem.Challenge.pw_curvepieces_k10_lines_refused.main.body.getD i (.Pass ⟨0, 0, 0, 0⟩)
abbrev s__law_pot : Stmt := topS 59
theorem S__law_pot : FnScope ["_law_script", "_law_k", "_law_cell"]
    ["_law_script", "_law_k"] (defScope s__law_pot) :=
  ⟨rfl, rfl, rfl, by decide +kernel, rfl, by decide +kernel, by decide +kernel⟩
abbrev s__law_draw : Stmt := topS 60
theorem S__law_draw : FnScope ["_law_pot_here", "_law_many", "_law_digit"]
    ["_law_pot_here", "_law_many"] (defScope s__law_draw) :=
  ⟨rfl, rfl, rfl, by decide +kernel, rfl, by decide +kernel, by decide +kernel⟩
abbrev s_is_integer : Stmt := topS 10
theorem S_is_integer : FnScope ["value"]
    ["value"] (defScope s_is_integer) :=
  ⟨rfl, rfl, rfl, by decide +kernel, rfl, by decide +kernel, by decide +kernel⟩
abbrev s_is_list : Stmt := topS 11
theorem S_is_list : FnScope ["value"]
    ["value"] (defScope s_is_list) :=
  ⟨rfl, rfl, rfl, by decide +kernel, rfl, by decide +kernel, by decide +kernel⟩
abbrev s_is_line : Stmt := topS 32
theorem S_is_line : FnScope ["value", "number"]
    ["value"] (defScope s_is_line) :=
  ⟨rfl, rfl, rfl, by decide +kernel, rfl, by decide +kernel, by decide +kernel⟩
abbrev s_poly_times : Stmt := topS 18
theorem S_poly_times : FnScope ["one", "two", "result", "i", "a", "j", "b"]
    ["one", "two"] (defScope s_poly_times) :=
  ⟨rfl, rfl, rfl, by decide +kernel, rfl, by decide +kernel, by decide +kernel⟩
abbrev s_check_line : Stmt := topS 33
theorem S_check_line : FnScope ["line"]
    ["line"] (defScope s_check_line) :=
  ⟨rfl, rfl, rfl, by decide +kernel, rfl, by decide +kernel, by decide +kernel⟩
abbrev s_check_lines : Stmt := topS 34
theorem S_check_lines : FnScope ["line", "other"]
    ["line", "other"] (defScope s_check_lines) :=
  ⟨rfl, rfl, rfl, by decide +kernel, rfl, by decide +kernel, by decide +kernel⟩
abbrev s_check_number : Stmt := topS 12
theorem S_check_number : FnScope ["number"]
    ["number"] (defScope s_check_number) :=
  ⟨rfl, rfl, rfl, by decide +kernel, rfl, by decide +kernel, by decide +kernel⟩
abbrev s__check_not_nought : Stmt := topS 48
theorem S__check_not_nought : FnScope ["line"]
    ["line"] (defScope s__check_not_nought) :=
  ⟨rfl, rfl, rfl, by decide +kernel, rfl, by decide +kernel, by decide +kernel⟩
abbrev s_degree : Stmt := topS 35
theorem S_degree : FnScope ["line"]
    ["line"] (defScope s_degree) :=
  ⟨rfl, rfl, rfl, by decide +kernel, rfl, by decide +kernel, by decide +kernel⟩
abbrev s_line_slope : Stmt := topS 37
theorem S_line_slope : FnScope ["line"]
    ["line"] (defScope s_line_slope) :=
  ⟨rfl, rfl, rfl, by decide +kernel, rfl, by decide +kernel, by decide +kernel⟩
abbrev s_plain_line : Stmt := topS 38
theorem S_plain_line : FnScope ["line"]
    ["line"] (defScope s_plain_line) :=
  ⟨rfl, rfl, rfl, by decide +kernel, rfl, by decide +kernel, by decide +kernel⟩
abbrev s_line_sum : Stmt := topS 39
theorem S_line_sum : FnScope ["line", "other"]
    ["line", "other"] (defScope s_line_sum) :=
  ⟨rfl, rfl, rfl, by decide +kernel, rfl, by decide +kernel, by decide +kernel⟩
abbrev s_line_less : Stmt := topS 40
theorem S_line_less : FnScope ["line", "other"]
    ["line", "other"] (defScope s_line_less) :=
  ⟨rfl, rfl, rfl, by decide +kernel, rfl, by decide +kernel, by decide +kernel⟩
abbrev s_line_common : Stmt := topS 43
theorem S_line_common : FnScope ["line", "other"]
    ["line", "other"] (defScope s_line_common) :=
  ⟨rfl, rfl, rfl, by decide +kernel, rfl, by decide +kernel, by decide +kernel⟩
abbrev s_line_value : Stmt := topS 36
theorem S_line_value : FnScope ["line", "number"]
    ["line", "number"] (defScope s_line_value) :=
  ⟨rfl, rfl, rfl, by decide +kernel, rfl, by decide +kernel, by decide +kernel⟩
abbrev s_greatest : Stmt := topS 57
theorem S_greatest : FnScope ["number", "other"]
    ["number", "other"] (defScope s_greatest) :=
  ⟨rfl, rfl, rfl, by decide +kernel, rfl, by decide +kernel, by decide +kernel⟩
abbrev s_plain_parts : Stmt := topS 47
theorem S_plain_parts : FnScope ["line", "whole", "often", "once", "found", "times", "later", "part"]
    ["line"] (defScope s_plain_parts) :=
  ⟨rfl, rfl, rfl, by decide +kernel, rfl, by decide +kernel, by decide +kernel⟩
abbrev s_whole_roots : Stmt := topS 49
theorem S_whole_roots : FnScope ["line"]
    ["line"] (defScope s_whole_roots) :=
  ⟨rfl, rfl, rfl, by decide +kernel, rfl, by decide +kernel, by decide +kernel⟩
abbrev s_monic_parts : Stmt := topS 53
theorem S_monic_parts : FnScope ["line", "rest", "found", "root"]
    ["line"] (defScope s_monic_parts) :=
  ⟨rfl, rfl, rfl, by decide +kernel, rfl, by decide +kernel, by decide +kernel⟩
abbrev s_line_times : Stmt := topS 41
theorem S_line_times : FnScope ["line", "other", "product"]
    ["line", "other"] (defScope s_line_times) :=
  ⟨rfl, rfl, rfl, by decide +kernel, rfl, by decide +kernel, by decide +kernel⟩
abbrev s_poly_divided : Stmt := topS 23
theorem S_poly_divided : FnScope ["one", "two", "least", "rest", "quotient", "top", "factor", "number", "shift", "part"]
    ["one", "two"] (defScope s_poly_divided) :=
  ⟨rfl, rfl, rfl, by decide +kernel, rfl, by decide +kernel, by decide +kernel⟩
abbrev s_sylvester : Stmt := topS 29
theorem S_sylvester : FnScope ["one", "two", "nought", "m", "n", "above", "below", "i"]
    ["one", "two", "nought"] (defScope s_sylvester) :=
  ⟨rfl, rfl, rfl, by decide +kernel, rfl, by decide +kernel, by decide +kernel⟩
abbrev s_determinant : Stmt := topS 27
theorem S_determinant : FnScope ["rows", "table", "sign", "last", "at", "fit", "k"]
    ["rows"] (defScope s_determinant) :=
  ⟨rfl, rfl, rfl, by decide +kernel, rfl, by decide +kernel, by decide +kernel⟩
abbrev s_line_divided : Stmt := topS 42
theorem S_line_divided : FnScope ["line", "other"]
    ["line", "other"] (defScope s_line_divided) :=
  ⟨rfl, rfl, rfl, by decide +kernel, rfl, by decide +kernel, by decide +kernel⟩
abbrev s_resultant : Stmt := topS 44
theorem S_resultant : FnScope ["line", "other"]
    ["line", "other"] (defScope s_resultant) :=
  ⟨rfl, rfl, rfl, by decide +kernel, rfl, by decide +kernel, by decide +kernel⟩
abbrev s__law_heard : Stmt := topS 61
theorem S__law_heard : FnScope ["_law_call", "e"]
    ["_law_call"] (defScope s__law_heard) :=
  ⟨rfl, rfl, rfl, by decide +kernel, rfl, by decide +kernel, by decide +kernel⟩
abbrev s__law_are : Stmt := topS 62
theorem S__law_are : FnScope ["_law_calls", "_law_due", "_law_call"]
    ["_law_calls", "_law_due"] (defScope s__law_are) :=
  ⟨rfl, rfl, rfl, by decide +kernel, rfl, by decide +kernel, by decide +kernel⟩
abbrev s__law_right : Stmt := topS 66
theorem S__law_right : FnScope ["_law_pot_here", "_law_line", "_law_odd"]
    ["_law_pot_here"] (defScope s__law_right) :=
  ⟨rfl, rfl, rfl, by decide +kernel, rfl, by decide +kernel, by decide +kernel⟩
abbrev s_law : Stmt := topS 67
theorem S_law : FnScope ["_law_script"]
    ["_law_script"] (defScope s_law) :=
  ⟨rfl, rfl, rfl, by decide +kernel, rfl, by decide +kernel, by decide +kernel⟩
/-- what the top has written -/
structure Top (K : PySem.W.Frag) (mg : Str → Option Value) : Prop where
  d__law_pot : Df K mg "_law_pot" s__law_pot ["_law_script", "_law_k"]
  d__law_draw : Df K mg "_law_draw" s__law_draw ["_law_pot_here", "_law_many"]
  d_is_integer : Df K mg "is_integer" s_is_integer ["value"]
  d_is_list : Df K mg "is_list" s_is_list ["value"]
  d_is_line : Df K mg "is_line" s_is_line ["value"]
  d_poly_times : Df K mg "poly_times" s_poly_times ["one", "two"]
  d_check_line : Df K mg "check_line" s_check_line ["line"]
  d_check_lines : Df K mg "check_lines" s_check_lines ["line", "other"]
  d_check_number : Df K mg "check_number" s_check_number ["number"]
  d__check_not_nought : Df K mg "_check_not_nought" s__check_not_nought ["line"]
  d_degree : Df K mg "degree" s_degree ["line"]
  d_line_slope : Df K mg "line_slope" s_line_slope ["line"]
  d_plain_line : Df K mg "plain_line" s_plain_line ["line"]
  d_line_sum : Df K mg "line_sum" s_line_sum ["line", "other"]
  d_line_less : Df K mg "line_less" s_line_less ["line", "other"]
  d_line_common : Df K mg "line_common" s_line_common ["line", "other"]
  d_line_value : Df K mg "line_value" s_line_value ["line", "number"]
  d_greatest : Df K mg "greatest" s_greatest ["number", "other"]
  d_plain_parts : Df K mg "plain_parts" s_plain_parts ["line"]
  d_whole_roots : Df K mg "whole_roots" s_whole_roots ["line"]
  d_monic_parts : Df K mg "monic_parts" s_monic_parts ["line"]
  d_line_times : Df K mg "line_times" s_line_times ["line", "other"]
  d_poly_divided : Df K mg "poly_divided" s_poly_divided ["one", "two"]
  d_sylvester : Df K mg "sylvester" s_sylvester ["one", "two", "nought"]
  d_determinant : Df K mg "determinant" s_determinant ["rows"]
  d_line_divided : Df K mg "line_divided" s_line_divided ["line", "other"]
  d_resultant : Df K mg "resultant" s_resultant ["line", "other"]
  d__law_heard : Df K mg "_law_heard" s__law_heard ["_law_call"]
  d__law_are : Df K mg "_law_are" s__law_are ["_law_calls", "_law_due"]
  d__law_right : Df K mg "_law_right" s__law_right ["_law_pot_here"]
  d_law : Df K mg "law" s_law ["_law_script"]
  n_ValueError : mg "ValueError" = none
  n_abs : mg "abs" = none
  n_all : mg "all" = none
  n_bool : mg "bool" = none
  c_LINE_DEGREE : ∃ t, mg "LINE_DEGREE" = some (.int 12 t)
  c_MONIC_DEGREE : ∃ t, mg "MONIC_DEGREE" = some (.int 4 t)
  n_divmod : mg "divmod" = none
  n_enumerate : mg "enumerate" = none
  n_int : mg "int" = none
  n_isinstance : mg "isinstance" = none
  n_len : mg "len" = none
  n_list : mg "list" = none
  m_gcd : mg "gcd" = some (.builtin "math.gcd")
  n_max : mg "max" = none
  n_range : mg "range" = none
  n_repr : mg "repr" = none
  n_sorted : mg "sorted" = none
  n_tuple : mg "tuple" = none
abbrev i_L : Stmt := inClass (topS 3) 0
abbrev i_N : Stmt := inClass (topS 4) 0
abbrev i_T : Stmt := inClass (topS 8) 0
theorem S_T : FnScope ["self", "what", "limit"] ["self", "what", "limit"] (defScope i_T) := ⟨rfl, rfl, rfl, by decide +kernel, rfl, by decide +kernel, by decide +kernel⟩
theorem S_L : FnScope ["self", "value"] ["self", "value"] (defScope i_L) := ⟨rfl, rfl, rfl, by decide +kernel, rfl, by decide +kernel, by decide +kernel⟩
theorem S_N : FnScope ["self", "value"] ["self", "value"] (defScope i_N) := ⟨rfl, rfl, rfl, by decide +kernel, rfl, by decide +kernel, by decide +kernel⟩
abbrev tailV : List Value := [.type "ValueError", .type "Exception", .type "BaseException", .type "object"]
/-- the classes of what is refused, as the top has written them -/
structure Exc (K : PySem.W.Frag) (mg : Str → Option Value) (CL CN CZ CT : Addr) : Prop where
  vl : XV K mg "InvalidLine" "InvalidLine.__init__" i_L CL "ValueError" "ValueError.__new__" "ValueError.__init__" tailV
  vn : XV K mg "InvalidNumber" "InvalidNumber.__init__" i_N CN "ValueError" "ValueError.__new__" "ValueError.__init__" tailV
  zo : PySem.W.excIn K CZ [.type "RuntimeError", .type "Exception", .type "BaseException", .type "object"] "RuntimeError.__new__" = true
  zm : mg "ZeroLine" = some (.ref CZ)
  zk : PySem.W.keepIn K (.ref CZ) = true
  zs : PySem.W.subIn K (.ref CZ) (.type "BaseException") = some true
  zt : PySem.W.typeIn K (.ref CZ) = some (.type "type")
  vt : XV2 K mg "TooMany" "TooMany.__init__" i_T CT "ArithmeticError" "ArithmeticError.__new__" "ArithmeticError.__init__" [.type "ArithmeticError", .type "Exception", .type "BaseException", .type "object"]
  xfL : XfC K CL
  xfN : XfC K CN
  xfT : XfC K CT
  vL : PySem.W.findIn K (.ref CL) "value" = some none
  vN : PySem.W.findIn K (.ref CN) "value" = some none
  vW : PySem.W.findIn K (.ref CT) "what" = some none
  vM : PySem.W.findIn K (.ref CT) "limit" = some none
  xqL : XQ K CL
  xqN : XQ K CN
  xqZ : XQ K CZ
  xqT : XQ K CT
  eLL : PySem.W.exmOne K (.ref CL) (.ref CL) = some true
  eNL : PySem.W.exmOne K (.ref CN) (.ref CL) = some false
  eNN : PySem.W.exmOne K (.ref CN) (.ref CN) = some true
  eZL : PySem.W.exmOne K (.ref CZ) (.ref CL) = some false
  eZN : PySem.W.exmOne K (.ref CZ) (.ref CN) = some false
  eZZ : PySem.W.exmOne K (.ref CZ) (.ref CZ) = some true
  eTL : PySem.W.exmOne K (.ref CT) (.ref CL) = some false
  eTN : PySem.W.exmOne K (.ref CT) (.ref CN) = some false
  eTZ : PySem.W.exmOne K (.ref CT) (.ref CZ) = some false
  eTT : PySem.W.exmOne K (.ref CT) (.ref CT) = some true
  cE : ∃ c : Addr, mg "CurveError" = some (.ref c) ∧ PySem.W.kitOne K (.ref CL) (.ref c) = some true ∧ PySem.W.kitOne K (.ref CN) (.ref c) = some true
  cV : PySem.W.kitOne K (.ref CL) (.type "ValueError") = some true
  nV : mg "ValueError" = none
  cS : ∃ c : Addr, mg "StateError" = some (.ref c) ∧ PySem.W.kitOne K (.ref CZ) (.ref c) = some true
  cM : ∃ c : Addr, mg "LimitError" = some (.ref c) ∧ PySem.W.kitOne K (.ref CT) (.ref c) = some true
/-- v is let, or refused with C(v) -/
def spChkV (C : Addr) (J : Hp → V → Bool → Prop) : Sp := fun vs G Q E => ∃ (v : V) (b : Bool), vs = [v] ∧ J G v b ∧ (b = true → ∀ G', Same G G' → Q .non G') ∧ (b = false → ∀ d G', Same G G' → G d = none → G' d = some (.xd [("value", v)]) → E (.ref C) (some d) G')
def spChkV2 (C : Addr) : Sp := fun vs G Q E => ∃ (u v : V) (a b : Bool), vs = [u, v] ∧ Val G u a ∧ Val G v b ∧ (a = true → b = true → ∀ G', Same G G' → Q .non G') ∧ (a = false → ∀ d G', Same G G' → G d = none → G' d = some (.xd [("value", u)]) → E (.ref C) (some d) G') ∧
  (a = true → b = false → ∀ d G', Same G G' → G d = none → G' d = some (.xd [("value", v)]) → E (.ref C) (some d) G')
/-- it is refused with C(v) -/
abbrev Ref (C : Addr) (v : V) (G : Hp) (E : XK) : Prop := ∀ d G', Same G G' → G d = none → G' d = some (.xd [("value", v)]) → E (.ref C) (some d) G'
theorem Ref.later {C : Addr} {v : V} {G G1 : Hp} {E : XK} (r : Ref C v G E) (s : Same G G1) : Ref C v G1 E := fun d G' s' n e => r d G' (s.trans s') (s.free n) e
def spR1 (C : Addr) : Sp := fun vs G _ E => ∃ v : V, vs = [v] ∧ Val G v false ∧ Ref C v G E
def spR2 (C : Addr) : Sp := fun vs G _ E => ∃ (u v : V) (a b : Bool), vs = [u, v] ∧ Val G u a ∧ Val G v b ∧ ((a = false ∧ Ref C u G E) ∨ (a = true ∧ b = false ∧ Ref C v G E))
abbrev IsN (G : Hp) (v : V) (b : Bool) : Prop := ∃ k, Kd G v k ∧ isI v = b
def spRV (CL CN : Addr) : Sp := fun vs G _ E => ∃ u v : V, vs = [u, v] ∧ ((Val G u false ∧ Ref CL u G E) ∨ (Val G u true ∧ IsN G v false ∧ Ref CN v G E))
def spRN (C : Addr) : Sp := fun vs G _ E => ∃ u v : V, vs = [u, v] ∧ ((IsN G u false ∧ Ref C u G E) ∨ (IsN G u true ∧ IsN G v false ∧ Ref C v G E))
/-- a line without numbers -/
def NoNums (G : Hp) (v : V) : Prop := ∃ (j : Bool) (a : Addr), v = .ref a ∧ Hs G j a []
def spR0 (CL CZ : Addr) : Sp := fun vs G _ E => ∃ v : V, vs = [v] ∧ ((Val G v false ∧ Ref CL v G E) ∨ (Val G v true ∧ NoNums G v ∧ ∀ G', Same G G' → E (.ref CZ) none G'))
/-- a new list -/
def NewLs (G : Hp) (xs : List V) (Q : VK) : Prop := ∀ r G', Same G G' → G r = none → G' r = some (.lst xs) → Q (.ref r) G'
theorem NewLs.go {G G1 : Hp} {xs : List V} {Q : VK} (q : NewLs G xs Q) (s : Same G G1) : NewLs G1 xs Q := fun r G' s' n e => q r G' (s.trans s') (s.free n) e
/-- the lambda at f is heard: what comes back is Q's -/
def Hears (K : PySem.W.Frag) (CL CN CZ CT : Addr) (sp : Hp → VK → XK → Prop) (G : Hp) (Q : VK) : Prop :=
  (∃ v t, Refuses G CL [("value", v)] sp ∧ Sh K G v t ∧ NewLs G [.str "line", .str t, .bl true] Q) ∨ (∃ v t, Refuses G CN [("value", v)] sp ∧ Sh K G v t ∧ NewLs G [.str "number", .str t, .bl true] Q) ∨
  (Refuses0 G CZ sp ∧ NewLs G [.str "zero", .bl true] Q) ∨ (∃ u v, Refuses G CT [("limit", v), ("what", u)] sp ∧ NewLs G [u, v, .bl true] Q) ∨ (Lets G sp ∧ NewLs G [.str "let"] Q)
def spHeard (P : Program) (w : World) (K : PySem.W.Frag) (mg : Str → Option Value) (base : Heap) (CL CN CZ CT : Addr) (k : Nat) : Sp := fun vs G Q _ => ∃ (f : Addr) (sp : Hp → VK → XK → Prop), vs = [.ref f] ∧ Act P w K mg base k f G sp ∧ Hears K CL CN CZ CT sp G Q
/-- a list of numbers, words and truths, as data -/
def Plain (K : PySem.W.Frag) (es : List V) : Prop := ∃ ds, (∀ G, DpAll K G es ds) ∧ SeqAt.shaped (.list ds) = true ∧ PyData.eqv (.list ds) (.list ds) = true
def spAre (P : Program) (w : World) (K : PySem.W.Frag) (mg : Str → Option Value) (base : Heap) (CL CN CZ CT : Addr) (k : Nat) : Sp := fun vs G Q _ => ∃ (l dl : Addr) (fs : List Addr) (es : List V), vs = [.ref l, .ref dl] ∧ G l = some (.lst (fs.map V.ref)) ∧ G dl = some (.lst es) ∧ Plain K es ∧
  (∀ f ∈ fs, ∃ sp, Act P w K mg base k f G sp ∧ ∀ G' Q', Same G G' → NewLs G' es Q' → Hears K CL CN CZ CT sp G' Q') ∧ ∀ G', Same G G' → Q (.bl true) G'
/-- refused for either line, or for want of numbers in the second -/
def spRZ (CL CZ : Addr) : Sp := fun vs G Q E => ∃ (u v : V) (a b : Bool), vs = [u, v] ∧ Val G u a ∧ Val G v b ∧ ((a = false ∧ Ref CL u G E) ∨ (a = true ∧ b = false ∧ Ref CL v G E) ∨ (a = true ∧ b = true ∧ NoNums G v ∧ ∀ G', Same G G' → E (.ref CZ) none G') ∨
  (a = true ∧ b = true ∧ ∃ (k1 k2 : Bool) (r1 r2 : Addr) (d : List Int), u = .ref r1 ∧ v = .ref r2 ∧ At k1 G r1 [] ∧ At k2 G r2 d ∧ d ≠ [] ∧ d.length ≤ 900 ∧ ∀ r G', Same G G' → Q (.ref r) G'))
/-- nothing, divided -/
def spPDiv0 : Sp := fun vs G Q _ => ∃ (k1 k2 : Bool) (r1 r2 : Addr) (d : List Int), vs = [.ref r1, .ref r2] ∧ At k1 G r1 [] ∧ At k2 G r2 d ∧ d ≠ [] ∧ d.length ≤ 900 ∧ ∀ r G', Same G G' → Q (.ref r) G'
/-- the table of two numbers, and its determinant -/
def spSyl0 : Sp := fun vs G Q _ => ∃ (a b : Addr) (x y : Int), vs = [.ref a, .ref b, .int 0] ∧ G a = some (.lst [.int x]) ∧ G b = some (.lst [.int y]) ∧ ∀ r G', Same G G' → G' r = some (.lst []) → Q (.ref r) G'
def spDet0 : Sp := fun vs G Q _ => ∃ a : Addr, vs = [.ref a] ∧ G a = some (.lst []) ∧ ∀ G', Same G G' → Q (.int 1) G'
/-- .. in the first or in the second -/
def spRZ2 (CL CZ : Addr) : Sp := fun vs G Q E => ∃ (u v : V) (a b : Bool), vs = [u, v] ∧ Val G u a ∧ Val G v b ∧ ((a = false ∧ Ref CL u G E) ∨ (a = true ∧ b = false ∧ Ref CL v G E) ∨ (a = true ∧ b = true ∧ (NoNums G u ∨ (NoNums G v ∧ ∃ j a xs, u = .ref a ∧ Hs G j a xs)) ∧ ∀ G', Same G G' → E (.ref CZ) none G') ∨
  (a = true ∧ b = true ∧ ∃ (r1 r2 : Addr) (x y : Int), u = .ref r1 ∧ v = .ref r2 ∧ G r1 = some (.lst [.int x]) ∧ G r2 = some (.lst [.int y]) ∧ ∀ G', Same G G' → Q (.int 1) G'))
/-- refused: no line, or of no fit degree, or with another end -/
def spRM (CL : Addr) : Sp := fun vs G _ E => ∃ v : V, vs = [v] ∧ (Val G v false ∨ ∃ (j : Bool) (a : Addr) (p : List Int), v = .ref a ∧ Val G v true ∧ At j G a p ∧ (p.length < 2 ∨ 5 < p.length ∨ co p (p.length - 1) ≠ 1)) ∧ Ref CL v G E
/-- refused, too long, or let -/
def spRT (CL CT : Addr) : Sp := fun vs G Q E => ∃ (u v : V) (a b : Bool), vs = [u, v] ∧ Val G u a ∧ Val G v b ∧ ((a = false ∧ Ref CL u G E) ∨ (a = true ∧ b = false ∧ Ref CL v G E) ∨ (a = true ∧ b = true ∧ ∃ (k1 k2 : Bool) (r1 r2 : Addr) (p q : List Int), u = .ref r1 ∧ v = .ref r2 ∧ At k1 G r1 p ∧ At k2 G r2 q ∧
  p.length ≤ 100 ∧ q.length ≤ 100 ∧ Bd big p ∧ Bd big q ∧ ((13 < (mulF p q).length ∧ ∀ d G', Same G G' → G d = none → G' d = some (.xd [("limit", .int 12), ("what", .str "degree")]) → E (.ref CT) (some d) G') ∨ ((mulF p q).length ≤ 13 ∧ ∀ r G', Same G G' → Q (.ref r) G'))))
/-- once heard, it gives es -/
def Says (K : PySem.W.Frag) (CL CN CZ CT : Addr) (es : List V) : Hp → (Hp → VK → XK → Prop) → Prop := fun G sp => ∀ G' Q', Same G G' → NewLs G' es Q' → Hears K CL CN CZ CT sp G' Q'
section
variable {P : Program} {w : World} {mg : Str → Option Value} {base : Heap} {K : PySem.W.Frag} {CL CN CZ CT : Addr} {H : Hp} {rd : Hp → VK → XK → Prop}
theorem says_line {v : V} {t : Str} (r : Refuses (noT H) CL [("value", v)] rd) (hs : Sh K (noT H) v t) : ∀ (cl : List (Str × Addr)) (G G1 : Hp), Same (noT H) G → (∀ y b, cl.lookup y = some b → G b = none) → Same G G1 → Says K CL CN CZ CT [.str "line", .str t, .bl true] G1 (under cl rd) :=
  fun _ _ _ s0 z s1 _ _ s' q' => .inl ⟨v, t, (refuses_under z (r.later s0)).later (s1.trans s'), hs.same (s0.trans (s1.trans s')), q'⟩
theorem says_number {v : V} {t : Str} (r : Refuses (noT H) CN [("value", v)] rd) (hs : Sh K (noT H) v t) : ∀ (cl : List (Str × Addr)) (G G1 : Hp), Same (noT H) G → (∀ y b, cl.lookup y = some b → G b = none) → Same G G1 → Says K CL CN CZ CT [.str "number", .str t, .bl true] G1 (under cl rd) :=
  fun _ _ _ s0 z s1 _ _ s' q' => .inr (.inl ⟨v, t, (refuses_under z (r.later s0)).later (s1.trans s'), hs.same (s0.trans (s1.trans s')), q'⟩)
theorem says_zero (r : Refuses0 (noT H) CZ rd) : ∀ (cl : List (Str × Addr)) (G G1 : Hp), Same (noT H) G → (∀ y b, cl.lookup y = some b → G b = none) → Same G G1 → Says K CL CN CZ CT [.str "zero", .bl true] G1 (under cl rd) :=
  fun _ _ _ s0 z s1 _ _ s' q' => .inr (.inr (.inl ⟨(refuses0_under z (r.later s0)).later (s1.trans s'), q'⟩))
theorem says_limit {u v : V} (r : Refuses (noT H) CT [("limit", v), ("what", u)] rd) : ∀ (cl : List (Str × Addr)) (G G1 : Hp), Same (noT H) G → (∀ y b, cl.lookup y = some b → G b = none) → Same G G1 → Says K CL CN CZ CT [u, v, .bl true] G1 (under cl rd) :=
  fun _ _ _ s0 z s1 _ _ s' q' => .inr (.inr (.inr (.inl ⟨u, v, (refuses_under z (r.later s0)).later (s1.trans s'), q'⟩)))
theorem says_let (r : Lets (noT H) rd) : ∀ (cl : List (Str × Addr)) (G G1 : Hp), Same (noT H) G → (∀ y b, cl.lookup y = some b → G b = none) → Same G G1 → Says K CL CN CZ CT [.str "let"] G1 (under cl rd) :=
  fun _ _ _ s0 z s1 _ _ s' q' => .inr (.inr (.inr (.inr ⟨(lets_under z (r.later s0)).later (s1.trans s'), q'⟩)))
/-- _law_are of lambdas that all say what is due -/
theorem over_are {X : Cx} {caps : List (Str × Nat)} {vals : List (Nat × V)} {τ : L2.St} {T : List (Addr × Str)} {G : Hp} {l dl : Addr} {n : Nat} {es : List V} {Q : VK} (kp : Kept T H l n (Heeds P w K mg base 7 X caps vals H (Says K CL CN CZ CT es)) G) (pl : Plain K es)
    (hv : ∀ i v, (i, v) ∈ vals → τ[i]? = some (some v)) (q : ∀ G', LamX.ExtN H G' → LamX.Tabs T G' → Q (.bl true) G') (ndl : G dl = none) :
    ∀ ov, OvFor X caps τ (upd G dl (.lst es)) ov → spAre P w K mg base CL CN CZ CT 7 [.ref l, .ref dl] (lay ov (upd G dl (.lst es))) (fun v G2 => (∀ b u, ov b = some u → G2 b = some u) → Q v (cut ov G2)) E0 := by
  obtain ⟨fs, L, _, oks⟩ := kp
  intro ov hov
  have S1 : Same G (upd G dl (.lst es)) := Same.put ndl
  have edl : upd G dl (.lst es) dl = some (.lst es) := upd_same
  have tb : LamX.Tabs T (upd G dl (.lst es)) := tabs_put L.tab (.inl ndl)
  generalize upd G dl (.lst es) = G2 at S1 edl tb hov ⊢
  have SL : Same G2 (lay ov G2) := lay_keeps hov.new
  have el : G l = some (.lst ((fs.map (·.1)).map V.ref)) := by rw [List.map_map]; exact L.lst
  refine ⟨l, dl, fs.map (·.1), es, rfl, SL _ _ (S1 _ _ el), SL _ _ edl, pl, fun g hg => ?_, fun G' s' keep => ?_⟩
  · obtain ⟨x, hx, rfl⟩ := List.mem_map.mp hg
    exact oks x hx τ _ ov x.1 ((ext_same L.ext).trans S1) hov hv (S1 _ _ (L.at_ x hx).1) (S1 _ _ (L.at_ x hx).2)
  · have c1 := cut_keeps hov.new s'
    exact q _ (fun b o e no => c1 b o (S1 _ _ (L.ext b o e no))) (tb.ext fun b o e => c1 b o e)
end
theorem plain_two {K : PySem.W.Frag} {a t : Str} (ha : PyData.strOk a = true) (ht : PyData.strOk t = true) : Plain K [.str a, .str t, .bl true] := by
  refine ⟨[.str a, .str t, .bool true], fun G => .cons (.str _) (.cons (.str _) (.cons (.bl _) .nil)), ?_, ?_⟩
  · unfold SeqAt.shaped; simp [PyData.canLay0, PyData.canLayAll0, PyData.depth, PyData.depthAll, ha, ht]
  · exact SeqAt.eqv_refl _ (by simp [PyData.canLay0, PyData.canLayAll0, ha, ht])
theorem ok__law_pot {P : Program} {w : World} {K : PySem.W.Frag}
    {mg : Str → Option Value} {base : Heap} (T : Top K mg) {CL CN CZ CT : Addr} (X : Exc K mg CL CN CZ CT) :
    Cl P w K mg base CX0 1 "_law_pot" s__law_pot ["_law_script", "_law_k"] (spPot K) := by
  refine T.d__law_pot.cl fun f fd F => body_0 F S__law_pot (fun vs H Q E h => by obtain ⟨_, _, _, rfl, _⟩ := h; rfl) ?_
  intro cdv A out s H vs Q E hG hr h
  obtain ⟨a, ns, k, rfl, hS, k0, k1, q⟩ := h
  refine ⟨_, (pss_cons (ps_set (i := 2) S__law_pot.nd rfl (Or.inl rfl) (pe_ifExp (pt_cmpR op_lt (pv 1) (pe_callB call_len_seq (by rfl) T.n_len PySem.boot_len (pa_cons (pv 0) pa_nil)) (nomark _)) (pe_callB call_abs (by rfl) T.n_abs (by decide +kernel) (pa_cons (pe_ix ix_list (pv 0) (pv 1) (fun _ _ => rfl)) pa_nil)) (pe_op op_add (pe_op op_mulX pe_int (pv 1)) pe_int)))
    (pss_one (ps_ret (pe_lst (pa_cons (pe_callB (call_max2 rfl) (by rfl) T.n_max (by decide +kernel) (pa_cons pe_int (pa_cons (pe_op op_sub (pv 2) (pe_op op_pow pe_int pe_int)) pa_nil))) (pa_cons (pe_op op_add (pe_op op_mod (pe_callTy call_int1 (by rfl) T.n_int (by decide +kernel) (pa_cons (pe_op op_add (pe_op op_add (pe_op op_mulX (pe_op op_mod (pe_callTy call_int1 (by rfl) T.n_int (by decide +kernel) (pa_cons (pv 2) pa_nil)) pe_int) pe_int) (pe_op op_mulX pe_int (pv 1))) pe_int) pa_nil)) pe_int) pe_int) pa_nil)))))), ?_⟩
  have lenE : ((ns.map V.int).length : Int) = ns.length := by rw [List.length_map]
  have e18 : (10 : Int) ^ (18 : Int).toNat = 1000000000000000000 := by decide
  refine ⟨_, rfl, _, rfl, a, _, rfl, .inl hS, _, _, rfl, rfl, _, rfl, ite2 (fun c => ?_) (fun c => ?_)⟩
  · have c0 : k < ((ns.map V.int).length : Int) := of_decide_eq_true c
    have c1 : k.toNat < ns.length := by omega
    have g : atI (ns.map V.int) k = some (.int ns[k.toNat]) := by
      have z := atI_nat (xs := ns.map V.int) (j := k.toNat) (v := .int ns[k.toNat]) (by
        rw [List.getElem?_map, List.getElem?_eq_getElem c1]; rfl)
      rwa [Int.toNat_of_nonneg k0] at z
    refine ⟨_, rfl, _, rfl, a, _, k, _, rfl, rfl, hS, g, _, rfl, ?_⟩
    refine ⟨_, rfl, _, _, rfl, rfl, ⟨by decide, by decide, by decide⟩, _, _, rfl, rfl, _, _, rfl, _, rfl, .inl ⟨_, rfl, _, _, rfl, rfl, (by show (0 : Int) < 2147483549; decide), _, _, rfl, rfl, mulx_ok (a := 32) (b := 20) (by omega) (by decide) (by decide), _, rfl, _, _, rfl, rfl, mulx_ok (a := 20) (b := 20) (by decide) (by omega) (by decide), _, _, rfl, rfl, _, _, rfl, rfl, .inl ⟨_, rfl, _, _, rfl, rfl, (by show (0 : Int) < 2147483563; decide), _, _, rfl, rfl, (by show 2 ≤ sizeLine; decide), fun p np => ?_⟩⟩⟩
    refine q _ p (Same.put np) np ⟨_, _, upd_same, ?_, ?_, ?_⟩
    · split <;> omega
    · omega
    · omega
  · refine ⟨_, rfl, _, _, rfl, rfl, mulx_ok (a := 20) (b := 20) (by decide) (by omega) (by decide), _, _, rfl, rfl, ?_⟩
    refine ⟨_, rfl, _, _, rfl, rfl, ⟨by decide, by decide, by decide⟩, _, _, rfl, rfl, _, _, rfl, _, rfl, .inl ⟨_, rfl, _, _, rfl, rfl, (by show (0 : Int) < 2147483549; decide), _, _, rfl, rfl, mulx_ok (a := 32) (b := 20) (by omega) (by decide) (by decide), _, rfl, _, _, rfl, rfl, mulx_ok (a := 20) (b := 20) (by decide) (by omega) (by decide), _, _, rfl, rfl, _, _, rfl, rfl, .inl ⟨_, rfl, _, _, rfl, rfl, (by show (0 : Int) < 2147483563; decide), _, _, rfl, rfl, (by show 2 ≤ sizeLine; decide), fun p np => ?_⟩⟩⟩
    refine q _ p (Same.put np) np ⟨_, _, upd_same, ?_, ?_, ?_⟩
    · split <;> omega
    · omega
    · omega
theorem ok__law_draw {P : Program} {w : World} {K : PySem.W.Frag}
    {mg : Str → Option Value} {base : Heap} (T : Top K mg) {CL CN CZ CT : Addr} (X : Exc K mg CL CN CZ CT) :
    Cl P w K mg base CX0 1 "_law_draw" s__law_draw ["_law_pot_here", "_law_many"] (spDraw) := by
  refine T.d__law_draw.cl fun f fd F => body_0 F S__law_draw (fun vs H Q E h => by obtain ⟨_, _, rfl, _⟩ := h; rfl) ?_
  intro cdv A out s H vs Q E hG hr h
  obtain ⟨a, m, rfl, ⟨P, R, hp, h0, h1, h2⟩, m0, m1, q⟩ := h
  refine ⟨_, (pss_cons (ps_if (pt_cmpR op_gt (pe_ix ix_list (pv 0) pe_int (fun _ _ => rfl)) pe_int (nomark _))
      (pss_cons (ps_asg (pe_callB call_divmodW (by rfl) T.n_divmod (by decide +kernel) (pa_cons (pe_ix ix_list (pv 0) pe_int (fun _ _ => rfl)) (pa_cons (pv 1) pa_nil))) (pg_tup rfl (pgs_cons (pg_sub (pv 0) pe_int set_list) (pgs_cons (pg_name (i := 2) S__law_draw.nd rfl (Or.inl rfl)) pgs_nil))))
    (pss_one (ps_ret (pv 2))))
      pss_nil)
    (pss_cons (ps_asg (pe_op op_mod (pe_callTy call_int1 (by rfl) T.n_int (by decide +kernel) (pa_cons (pe_op op_add (pe_op op_mulX (pe_ix ix_list (pv 0) pe_int (fun _ _ => rfl)) pe_int) pe_int) pa_nil)) pe_int) (pg_sub (pv 0) pe_int set_list))
    (pss_one (ps_ret (pe_op op_mod (pe_callTy call_int1 (by rfl) T.n_int (by decide +kernel) (pa_cons (pe_op op_fdivN (pe_op op_mod (pe_callTy call_int1 (by rfl) T.n_int (by decide +kernel) (pa_cons (pe_op op_mulX (pe_ix ix_list (pv 0) pe_int (fun _ _ => rfl)) (pe_ix ix_list (pv 0) pe_int (fun _ _ => rfl))) pa_nil)) pe_int) pe_int) pa_nil)) (pv 1)))))), ?_⟩
  refine ⟨_, rfl, a, _, 0, _, rfl, rfl, SqL.of hp, atI_nat (j := 0) rfl, _, _, rfl, rfl, _, rfl, ite2 (fun c => ?_) (fun c => ?_)⟩
  · have c0 : 0 < P := of_decide_eq_true c
    refine ⟨_, rfl, a, _, 0, _, rfl, rfl, SqL.of hp, atI_nat (j := 0) rfl, _, rfl, _, _, rfl, ⟨m0, PyProof.noPylong_small (by omega)⟩, fun p np => ?_⟩
    have pa : a ≠ p := ne_of_none hp np
    refine ⟨p, _, rfl, SqT.of upd_same, rfl, _, _, rfl, _, rfl, a, _, 0, 0, rfl, rfl, (upd_ne pa).trans hp, rfl, _, _, rfl, rfl, _, rfl, ?_⟩
    refine q _ _ (fun b o n e => ?_) ⟨P / m, R, upd_same, Int.ediv_nonneg h0 (by omega), h1, h2⟩ (Int.emod_nonneg P (by omega)) (Int.emod_lt_of_pos P m0)
    rw [upd_ne n, upd_ne (ne_of_none e np)]
    exact e
  · refine ⟨_, rfl, a, _, 1, _, rfl, rfl, SqL.of hp, atI_nat (j := 1) rfl, _, _, rfl, rfl, mulx_ok (a := 31) (b := 20) (by omega) (by decide) (by decide), _, _, rfl, rfl, .inl ⟨_, rfl, _, _, rfl, rfl, (by show (0 : Int) < 2147483563; decide), _, rfl, a, _, 1, 1, rfl, rfl, hp, rfl, ?_⟩⟩
    have r0 := Int.emod_nonneg (R * 40014 + 1109) (show (2147483563 : Int) ≠ 0 by decide)
    have r1 := Int.emod_lt_of_pos (R * 40014 + 1109) (show (0 : Int) < 2147483563 by decide)
    refine ⟨_, rfl, a, _, 1, _, rfl, rfl, SqL.of upd_same, atI_nat (j := 1) rfl, _, rfl, a, _, 1, _, rfl, rfl, SqL.of upd_same, atI_nat (j := 1) rfl, _, _, rfl, rfl, mulx_ok (a := 31) (b := 31) (by omega) (by omega) (by decide), .inl ⟨_, rfl, _, _, rfl, rfl, (by show (0 : Int) < 2147483587; decide), _, _, rfl, rfl, ⟨by decide, by decide⟩, .inl ⟨_, rfl, _, rfl, _, _, rfl, rfl, m0, ?_⟩⟩⟩
    exact q _ _ (fun b o n e => (upd_ne n).trans e) ⟨P, (R * 40014 + 1109) % 2147483563, upd_same, h0, r0, by omega⟩ (Int.emod_nonneg _ (by omega)) (Int.emod_lt_of_pos _ m0)
theorem ok_is_integer {P : Program} {w : World} {K : PySem.W.Frag}
    {mg : Str → Option Value} {base : Heap} (T : Top K mg) {CL CN CZ CT : Addr} (X : Exc K mg CL CN CZ CT) :
    Cl P w K mg base CX0 1 "is_integer" s_is_integer ["value"] (spIsInt) := by
  refine T.d_is_integer.cl fun f fd F => body_0 F S_is_integer (fun vs H Q E h => by obtain ⟨_, _, rfl, _⟩ := h; rfl) ?_
  intro cdv A out s H vs Q E hG hr h
  obtain ⟨v, k, rfl, kd, q⟩ := h
  refine ⟨_, (pss_one (ps_ret (pe_and (pe_callB call_isi (by rfl) T.n_isinstance (by decide +kernel) (pa_cons (pv 0) (pa_cons (pe_bltn (v := .ty "int") (u := .type "int") (by rfl) T.n_int (by decide +kernel) rfl) pa_nil))) (pe_one (pe_not (pe_callB call_isi (by rfl) T.n_isinstance (by decide +kernel) (pa_cons (pv 0) (pa_cons (pe_bltn (v := .ty "bool") (u := .type "bool") (by rfl) T.n_bool (by decide +kernel) rfl) pa_nil)))))))), ?_⟩
  rw [kd.isI] at q
  refine ⟨_, rfl, _, _, _, _, _, rfl, .ty _, kd.ty, kit_int kd, _, rfl, ite2 (fun c => ?_) (fun c => ?_)⟩
  · refine ⟨_, rfl, _, _, _, _, _, rfl, .ty _, kd.ty, kit_bool kd, _, rfl, ?_⟩
    rw [c] at q
    exact q
  · rw [Bool.eq_false_iff.mpr c] at q
    exact q
theorem ok_is_list {P : Program} {w : World} {K : PySem.W.Frag}
    {mg : Str → Option Value} {base : Heap} (T : Top K mg) {CL CN CZ CT : Addr} (X : Exc K mg CL CN CZ CT) :
    Cl P w K mg base CX0 1 "is_list" s_is_list ["value"] (spIsList) := by
  refine T.d_is_list.cl fun f fd F => body_0 F S_is_list (fun vs H Q E h => by obtain ⟨_, _, rfl, _⟩ := h; rfl) ?_
  intro cdv A out s H vs Q E hG hr h
  obtain ⟨v, k, rfl, kd, q⟩ := h
  refine ⟨_, (pss_one (ps_ret (pe_callB call_isiT (by rfl) T.n_isinstance (by decide +kernel) (pa_cons (pv 0) (pa_cons (pe_tup (pa_cons (pe_bltn (v := .ty "list") (u := .type "list") (by rfl) T.n_list (by decide +kernel) rfl) (pa_cons (pe_bltn (v := .ty "tuple") (u := .type "tuple") (by rfl) T.n_tuple (by decide +kernel) rfl) pa_nil))) pa_nil))))), ?_⟩
  refine ⟨_, rfl, (by show 2 ≤ sizeLine; decide), fun p np => ?_⟩
  refine ⟨v, p, _, _, _, _, rfl, upd_same, .cons (.ty _) (.cons (.ty _) .nil), (kd.same (Same.put np)).ty, kit_lt kd, q _ (Same.put np)⟩
theorem ok_is_line {P : Program} {w : World} {K : PySem.W.Frag}
    {mg : Str → Option Value} {base : Heap} (T : Top K mg) {CL CN CZ CT : Addr} (X : Exc K mg CL CN CZ CT)
    (C_is_integer : Cl P w K mg base CX0 1 "is_integer" s_is_integer ["value"] (spIsInt))
    (C_is_list : Cl P w K mg base CX0 1 "is_list" s_is_list ["value"] (spIsList)) :
    Cl P w K mg base CX0 2 "is_line" s_is_line ["value"] (spIsLine) := by
  obtain ⟨_, c_LINE_DEGREE⟩ := T.c_LINE_DEGREE
  refine T.d_is_line.cl fun f fd F => body_0 F S_is_line (fun vs H Q E h => by obtain ⟨_, _, rfl, _⟩ := h; rfl) ?_
  intro cdv A out s H vs Q E hG hr h
  obtain ⟨v, b, rfl, hv, q⟩ := h
  cases hv with
  | oth kd e =>
    refine ⟨_, (pss_cons (ps_if ((pw_or (pt_not (pt_val (pe_u C_is_list hG hr (by decide) (by rfl) pass0 (pa_cons (pv 0) pa_nil)))) (pw_or1 (pt_cmpR op_gt (pe_callB call_len_seq (by rfl) T.n_len PySem.boot_len (pa_cons (pv 0) pa_nil)) (pe_op op_add (pe_glob (v := .int 12) (by rfl) c_LINE_DEGREE ⟨_, rfl⟩) pe_int) (nomark _))))).pt
      (pss_one (ps_ret pe_bl))
      pss_nil)
    (pss_cons (ps_if (pt_not (pt_val (pe_callB (cr_all rfl) (by rfl) T.n_all (by decide +kernel) (pa_cons (pe_lc (own := [("number", 1)]) (g := gName 1) (tt := tYes) rfl S_is_line.nd (pi_list (pv 0)) (blkOk_by (N := ["value", "number"]) (sc := defScope s_is_line) (by decide +kernel)) (fun _ _ _ _ _ => (pg_name (i := 1) S_is_line.nd rfl (Or.inl rfl))) (fun _ _ _ _ _ => pts_nil) (fun _ _ _ _ _ => (pe_u C_is_integer hG hr (by decide) (by rfl) pass0 (pa_cons (pv 1) pa_nil)))) pa_nil))))
      (pss_one (ps_ret pe_bl))
      pss_nil)
    (pss_one (ps_ret (pe_or (pe_cmpR op_eq (pe_callB call_len_seq (by rfl) T.n_len PySem.boot_len (pa_cons (pv 0) pa_nil)) pe_int (nomark _)) (pe_one (pe_cmpR op_ne (pe_ix ix_list (pv 0) (pe_un un_neg pe_int) (fun _ _ => rfl)) pe_int (nomark _)))))))), ?_⟩
    exact ⟨_, rfl, _, _, rfl, kd, fun H1 s1 => ⟨_, rfl, ifT (by rw [e]; rfl) (iteT (q H1 s1))⟩⟩
  | @lst a xs e hK hz =>
    refine ⟨_, (pss_cons (ps_if ((pw_or (pt_not (pt_val (pe_u C_is_list hG hr (by decide) (by rfl) pass0 (pa_cons (pv 0) pa_nil)))) (pw_or1 (pt_cmpR op_gt (pe_callB call_len_seq (by rfl) T.n_len PySem.boot_len (pa_cons (pv 0) pa_nil)) (pe_op op_add (pe_glob (v := .int 12) (by rfl) c_LINE_DEGREE ⟨_, rfl⟩) pe_int) (nomark _))))).pt
      (pss_one (ps_ret pe_bl))
      pss_nil)
    (pss_cons (ps_if (pt_not (pt_val (pe_callB (cr_all rfl) (by rfl) T.n_all (by decide +kernel) (pa_cons (pe_lc (own := [("number", 1)]) (g := gName 1) (tt := tYes) rfl S_is_line.nd (pi_list (pv 0)) (blkOk_by (N := ["value", "number"]) (sc := defScope s_is_line) (by decide +kernel)) (fun _ _ _ _ _ => (pg_name (i := 1) S_is_line.nd rfl (Or.inl rfl))) (fun _ _ _ _ _ => pts_nil) (fun _ _ _ _ _ => (pe_u C_is_integer hG hr (by decide) (by rfl) pass0 (pa_cons (pv 1) pa_nil)))) pa_nil))))
      (pss_one (ps_ret pe_bl))
      pss_nil)
    (pss_one (ps_ret (pe_or (pe_cmpR op_eq (pe_callB call_len_seq (by rfl) T.n_len PySem.boot_len (pa_cons (pv 0) pa_nil)) pe_int (nomark _)) (pe_one (pe_cmpR op_ne (pe_ix ix_list (pv 0) (pe_un un_neg pe_int) (fun _ _ => rfl)) pe_int (nomark _)))))))), ?_⟩
    refine ⟨_, rfl, _, _, rfl, .lst e, fun H1 s1 => ⟨_, rfl, iteF ?_⟩⟩
    refine ⟨_, rfl, a, xs, rfl, .inl (SqL.of (s1 _ _ e)), _, _, rfl, rfl, _, _, rfl, rfl, _, rfl, ite2 (fun c => ?_) (fun c => ?_)⟩
    · have c0 : (12 : Int) + 1 < xs.length := of_decide_eq_true c
      rw [lineB_long (by omega)] at q
      exact q H1 s1
    have hl : xs.length ≤ 13 := by
      have c0 : ¬ (12 : Int) + 1 < xs.length := fun z => c (decide_eq_true z)
      omega
    have eA : H1 a = some (.lst xs) := s1 _ _ e
    refine ⟨_, rfl, a, rfl, ⟨_, SqL.of eA⟩, fun D nD => ?_⟩
    refine lc_list (K := K) (xs := xs) (fun i H' => Same H1 H' ∧ H' D = some (.lst ((xs.take i).map fun x => V.bl (isI x)))) ⟨Same.put nD, upd_same⟩ (fun i H' _ z => SqL.of (z.1 _ _ eA)) ?_ ?_
    · rintro i x H' hx ⟨s2, eD⟩
      obtain ⟨kx, hk⟩ := hK x (List.mem_of_getElem? hx)
      refine ⟨rfl, ?_⟩
      refine yesT ?_
      refine ⟨_, rfl, x, kx, rfl, (hk.same s1).same s2, _, eD, small1000 (by rw [List.length_map, List.length_take]; omega), ?_, ?_⟩
      · intro b o eb
        rw [upd_ne (ne_of_none eb nD)]
        exact s2 _ _ eb
      · rw [upd_same, take_snoc hx, List.map_append]; rfl
    rintro H2 ⟨s2, eD⟩
    rw [List.take_length] at eD
    have eB : H2 D = some (.lst ((xs.map isI).map V.bl)) := by rw [eD, List.map_map]; rfl
    have eA2 : H2 a = some (.lst xs) := s2 _ _ eA
    refine ⟨D, xs.map isI, rfl, SqL.of eB, _, rfl, ?_⟩
    rw [all_id]
    match hA : xs.all isI with
    | false =>
      rw [lineB_odd hA] at q
      exact iteT (q H2 (s1.trans s2))
    | true =>
      refine iteF ?_
      refine ⟨_, rfl, a, xs, rfl, .inl (SqL.of eA2), rfl, _, rfl, ite2 (fun c => ?_) (fun c => ?_)⟩
      · have c0 : (xs.length : Int) = 0 := V.int.inj (of_decide_eq_true c)
        have hn : xs = [] := List.length_eq_zero_iff.mp (by omega)
        subst hn
        exact q H2 (s1.trans s2)
      · have hn : xs ≠ [] := fun z => by
          subst z
          exact c (decide_eq_true rfl)
        obtain ⟨v, g1, g2, g3⟩ := last_look hl hA hn
        refine ⟨_, rfl, _, rfl, a, xs, -1, v, rfl, rfl, SqL.of eA2, g1, g2, ?_⟩
        rw [g3]
        exact q H2 (s1.trans s2)
  | @tup a xs e hK hz =>
    refine ⟨_, (pss_cons (ps_if ((pw_or (pt_not (pt_val (pe_u C_is_list hG hr (by decide) (by rfl) pass0 (pa_cons (pv 0) pa_nil)))) (pw_or1 (pt_cmpR op_gt (pe_callB call_len_seq (by rfl) T.n_len PySem.boot_len (pa_cons (pv 0) pa_nil)) (pe_op op_add (pe_glob (v := .int 12) (by rfl) c_LINE_DEGREE ⟨_, rfl⟩) pe_int) (nomark _))))).pt
      (pss_one (ps_ret pe_bl))
      pss_nil)
    (pss_cons (ps_if (pt_not (pt_val (pe_callB (cr_all rfl) (by rfl) T.n_all (by decide +kernel) (pa_cons (pe_lc (own := [("number", 1)]) (g := gName 1) (tt := tYes) rfl S_is_line.nd (pi_tup (pv 0)) (blkOk_by (N := ["value", "number"]) (sc := defScope s_is_line) (by decide +kernel)) (fun _ _ _ _ _ => (pg_name (i := 1) S_is_line.nd rfl (Or.inl rfl))) (fun _ _ _ _ _ => pts_nil) (fun _ _ _ _ _ => (pe_u C_is_integer hG hr (by decide) (by rfl) pass0 (pa_cons (pv 1) pa_nil)))) pa_nil))))
      (pss_one (ps_ret pe_bl))
      pss_nil)
    (pss_one (ps_ret (pe_or (pe_cmpR op_eq (pe_callB call_len_seq (by rfl) T.n_len PySem.boot_len (pa_cons (pv 0) pa_nil)) pe_int (nomark _)) (pe_one (pe_cmpR op_ne (pe_ix ix_tup (pv 0) (pe_un un_neg pe_int) (fun _ _ => rfl)) pe_int (nomark _)))))))), ?_⟩
    refine ⟨_, rfl, _, _, rfl, .tup e, fun H1 s1 => ⟨_, rfl, iteF ?_⟩⟩
    refine ⟨_, rfl, a, xs, rfl, .inr (SqT.of (s1 _ _ e)), _, _, rfl, rfl, _, _, rfl, rfl, _, rfl, ite2 (fun c => ?_) (fun c => ?_)⟩
    · have c0 : (12 : Int) + 1 < xs.length := of_decide_eq_true c
      rw [lineB_long (by omega)] at q
      exact q H1 s1
    have hl : xs.length ≤ 13 := by
      have c0 : ¬ (12 : Int) + 1 < xs.length := fun z => c (decide_eq_true z)
      omega
    have eA : H1 a = some (.tup xs) := s1 _ _ e
    refine ⟨_, rfl, a, rfl, ⟨_, SqT.of eA⟩, fun D nD => ?_⟩
    refine lc_tup (K := K) (xs := xs) (fun i H' => Same H1 H' ∧ H' D = some (.lst ((xs.take i).map fun x => V.bl (isI x)))) ⟨Same.put nD, upd_same⟩ (fun i H' _ z => SqT.of (z.1 _ _ eA)) ?_ ?_
    · rintro i x H' hx ⟨s2, eD⟩
      obtain ⟨kx, hk⟩ := hK x (List.mem_of_getElem? hx)
      refine ⟨rfl, ?_⟩
      refine yesT ?_
      refine ⟨_, rfl, x, kx, rfl, (hk.same s1).same s2, _, eD, small1000 (by rw [List.length_map, List.length_take]; omega), ?_, ?_⟩
      · intro b o eb
        rw [upd_ne (ne_of_none eb nD)]
        exact s2 _ _ eb
      · rw [upd_same, take_snoc hx, List.map_append]; rfl
    rintro H2 ⟨s2, eD⟩
    rw [List.take_length] at eD
    have eB : H2 D = some (.lst ((xs.map isI).map V.bl)) := by rw [eD, List.map_map]; rfl
    have eA2 : H2 a = some (.tup xs) := s2 _ _ eA
    refine ⟨D, xs.map isI, rfl, SqL.of eB, _, rfl, ?_⟩
    rw [all_id]
    match hA : xs.all isI with
    | false =>
      rw [lineB_odd hA] at q
      exact iteT (q H2 (s1.trans s2))
    | true =>
      refine iteF ?_
      refine ⟨_, rfl, a, xs, rfl, .inr (SqT.of eA2), rfl, _, rfl, ite2 (fun c => ?_) (fun c => ?_)⟩
      · have c0 : (xs.length : Int) = 0 := V.int.inj (of_decide_eq_true c)
        have hn : xs = [] := List.length_eq_zero_iff.mp (by omega)
        subst hn
        exact q H2 (s1.trans s2)
      · have hn : xs ≠ [] := fun z => by
          subst z
          exact c (decide_eq_true rfl)
        obtain ⟨v, g1, g2, g3⟩ := last_look hl hA hn
        refine ⟨_, rfl, _, rfl, a, xs, -1, v, rfl, rfl, SqT.of eA2, g1, g2, ?_⟩
        rw [g3]
        exact q H2 (s1.trans s2)
theorem ok_poly_times {P : Program} {w : World} {K : PySem.W.Frag}
    {mg : Str → Option Value} {base : Heap} (T : Top K mg) {CL CN CZ CT : Addr} (X : Exc K mg CL CN CZ CT) :
    Cl P w K mg base CX0 1 "poly_times" s_poly_times ["one", "two"] (spPTimes) := by
  refine T.d_poly_times.cl fun f fd F => body_0 F S_poly_times (fun vs H Q E h => by obtain ⟨_, _, _, _, _, _, rfl, _⟩ := h; rfl) ?_
  intro cdv A out s H vs Q E hG hr h
  obtain ⟨k, j, a, b, p, r, rfl, ha, hb, hl, hm, hP, hR, q⟩ := h
  refine ⟨_, (pss_cons (ps_if ((pw_or (pt_cmpR op_eq (pe_callB call_len_seq (by rfl) T.n_len PySem.boot_len (pa_cons (pv 0) pa_nil)) pe_int (nomark _)) (pw_or1 (pt_cmpR op_eq (pe_callB call_len_seq (by rfl) T.n_len PySem.boot_len (pa_cons (pv 1) pa_nil)) pe_int (nomark _))))).pt
      (pss_one (ps_ret (pe_lst pa_nil)))
      pss_nil)
    (pss_cons (ps_set (i := 2) S_poly_times.nd rfl (Or.inl rfl) (pe_op op_rep (pe_lst (pa_cons pe_int pa_nil)) (pe_op op_sub (pe_op op_add (pe_callB call_len_seq (by rfl) T.n_len PySem.boot_len (pa_cons (pv 0) pa_nil)) (pe_callB call_len_seq (by rfl) T.n_len PySem.boot_len (pa_cons (pv 1) pa_nil))) pe_int)))
    (pss_cons (ps_for PassesOwn.never rfl (pi_enumS (by rfl) T.n_enumerate (pa_cons (pv 0) pa_nil)) (pg_tup rfl (pgs_cons (pg_name (i := 3) S_poly_times.nd rfl (Or.inl rfl)) (pgs_cons (pg_name (i := 4) S_poly_times.nd rfl (Or.inl rfl)) pgs_nil)))
      (pss_one (ps_for PassesOwn.never rfl (pi_enumS (by rfl) T.n_enumerate (pa_cons (pv 1) pa_nil)) (pg_tup rfl (pgs_cons (pg_name (i := 5) S_poly_times.nd rfl (Or.inl rfl)) (pgs_cons (pg_name (i := 6) S_poly_times.nd rfl (Or.inl rfl)) pgs_nil)))
      (pss_one (ps_augS (pv 2) (pe_op op_add (pv 3) (pv 5)) get_L (pe_op op_mulX (pv 4) (pv 6)) ip_add set_list)))))
    (pss_one (ps_ret (pv 2)))))), ?_⟩
  refine ⟨_, rfl, a, _, rfl, ha.sq.or, rfl, _, rfl, ?_⟩
  rw [List.length_map]
  have none0 : p = [] ∨ r = [] → ∀ t, H t = none → Q (.ref t) (upd H t (.lst [])) := fun e t nt => q _ t (Same.put nt) nt (by rw [upd_same, mulF, if_pos e]; rfl)
  refine ite2 (fun c => iteT ⟨(by show 0 ≤ sizeLine; decide), none0 (.inl (List.length_eq_zero_iff.mp (by have := V.int.inj (of_decide_eq_true c); omega)))⟩) (fun c => ?_)
  have hp : p ≠ [] := fun z => c (by subst z; rfl)
  refine ⟨_, rfl, b, _, rfl, hb.sq.or, rfl, _, rfl, ?_⟩
  rw [List.length_map]
  refine ite2 (fun c => ⟨(by show 0 ≤ sizeLine; decide), none0 (.inr (List.length_eq_zero_iff.mp (by have := V.int.inj (of_decide_eq_true c); omega)))⟩) (fun c => ?_)
  have hr0 : r ≠ [] := fun z => c (by subst z; rfl)
  have lp : 0 < p.length := List.length_pos_iff.mpr hp
  have lr : 0 < r.length := List.length_pos_iff.mpr hr0
  refine ⟨(by show 1 ≤ sizeLine; decide), fun t nt => ?_⟩
  have s1 : Same H (upd H t (.lst [.int 0])) := Same.put nt
  refine ⟨_, rfl, a, _, rfl, (ha.same s1).sq.or, _, rfl, b, _, rfl, (hb.same s1).sq.or, _, _, rfl, rfl, _, _, rfl, rfl, ?_⟩
  rw [List.length_map, List.length_map]
  refine ⟨t, _, _, rfl, rfl, upd_same, (by omega), (by omega), (by show 1 * ((p.length : Int) + r.length - 1).toNat ≤ sizeLine; exact Nat.le_of_lt (small1000 (by omega))), ?_⟩
  rw [show ((p.length : Int) + r.length - 1).toNat = p.length + r.length - 1 by omega, rep0]
  intro o no
  have s2 : Same H (upd (upd H t (.lst [.int 0])) o (.lst ((List.replicate (p.length + r.length - 1) (0 : Int)).map V.int))) := s1.trans (Same.put no)
  have nH : H o = none := s1.free no
  refine ⟨_, rfl, k, a, _, rfl, (ha.same s2).sq, ?_⟩
  refine for_enumS (K := K) (xs := p.map V.int) (fun i σ H' => ∃ (R : List Int) (y3 y4 y5 y6 : Option V), σ = [some (.ref a), some (.ref b), some (.ref o), y3, y4, y5, y6] ∧
    Same H H' ∧ H' o = some (.lst (R.map V.int)) ∧ R.length = p.length + r.length - 1 ∧ ∀ t, t < R.length → co R t = cv (co (p.take i)) (co r) t) ?_ ?_ ?_ ?_
  · exact ⟨_, none, none, none, none, rfl, s2, upd_same, List.length_replicate, fun t _ => by rw [co_rep, List.take_zero, co_nil, cv_zero]⟩
  · rintro i σ H' _ ⟨R, y3, y4, y5, y6, rfl, s3, _⟩
    exact (ha.same s3).sq
  · rintro i x T σ H' hx ⟨R, y3, y4, y5, y6, rfl, s3, eo, lR, hR2⟩ nT
    obtain ⟨rfl, li⟩ := int_at hx
    refine ⟨T, _, rfl, SqT.of upd_same, rfl, _, _, rfl, _, _, rfl, rfl, ?_⟩
    have s4 := s3.trans (Same.put (o := .tup [.int (i : Nat), .int (co p i)]) nT)
    refine ⟨_, rfl, j, b, _, rfl, (hb.same s4).sq, ?_⟩
    refine for_enumS (K := K) (xs := r.map V.int) (fun m σ H' => ∃ (R : List Int) (y5 y6 : Option V), σ = [some (.ref a), some (.ref b), some (.ref o), some (.int (i : Nat)), some (.int (co p i)), y5, y6] ∧
      Same H H' ∧ H' o = some (.lst (R.map V.int)) ∧ R.length = p.length + r.length - 1 ∧ ∀ t, t < R.length → co R t = row p r i m t) ?_ ?_ ?_ ?_
    · exact ⟨R, y5, y6, rfl, s4, Same.put nT _ _ eo, lR, fun t ht => by rw [row_0]; exact hR2 t ht⟩
    · rintro m σ H' _ ⟨R, y5, y6, rfl, s3, _⟩
      exact (hb.same s3).sq
    · rintro m y U σ H' hy ⟨R, y5, y6, rfl, s5, eo, lR, hR3⟩ nU
      obtain ⟨rfl, lm⟩ := int_at hy
      have eo2 := Same.put (o := .tup [.int (m : Nat), .int (co r m)]) nU _ _ eo
      have s6 := s5.trans (Same.put (o := .tup [.int (m : Nat), .int (co r m)]) nU)
      obtain ⟨g1, g2⟩ := set_int (p := R) (i := i + m) (by omega) (co R (i + m) + co p i * co r m)
      refine ⟨U, _, rfl, SqT.of upd_same, rfl, _, _, rfl, _, _, rfl, rfl, ?_⟩
      refine ⟨_, rfl, _, rfl, _, rfl, _, _, rfl, rfl, o, _, i + m, _, rfl, rfl, SqL.of eo2, at_int (by omega), _, rfl, _, rfl, _, _, rfl, rfl, mulx_big (hP.co i) (hR.co m), _, _, rfl, rfl, o, _, _, _, rfl, rfl, eo2, g1, ?_⟩
      rw [g2]
      refine ⟨R.set (i + m) (co R (i + m) + co p i * co r m), _, _, rfl, Same.ov nH s6, upd_same, by rw [List.length_set]; exact lR, fun t ht => ?_⟩
      rw [List.length_set] at ht
      rw [co_set (by omega), row_s, hR3 _ (by omega)]
      by_cases e : t = i + m
      · rw [if_pos e, if_pos e, e]
      · rw [if_neg e, if_neg e, hR3 _ ht]
    · rintro σ H' ⟨R, y5, y6, rfl, s5, eo, lR, hR3⟩
      rw [List.length_map] at hR3
      exact ⟨R, _, _, _, _, rfl, s5, eo, lR, fun t ht => by rw [hR3 t ht, row_end li]⟩
  · rintro σ H' ⟨R, y3, y4, y5, y6, rfl, s3, eo, lR, hR2⟩
    rw [List.length_map, List.take_length] at hR2
    refine ⟨_, rfl, ?_⟩
    rw [← mul_tab hp hr0 lR hR2] at q
    exact q _ o s3 nH eo
theorem ok_check_line {P : Program} {w : World} {K : PySem.W.Frag}
    {mg : Str → Option Value} {base : Heap} (T : Top K mg) {CL CN CZ CT : Addr} (X : Exc K mg CL CN CZ CT)
    (C_is_line : Cl P w K mg base CX0 2 "is_line" s_is_line ["value"] (spIsLine)) :
    Cl P w K mg base (L2.CX P w) 3 "check_line" s_check_line ["line"] (spChkV CL Val) := by
  refine T.d_check_line.cl fun f fd F => body_X F S_check_line (fun vs H Q E h => by obtain ⟨_, _, rfl, _⟩ := h; rfl) ?_
  intro cdv A out s H vs Q E hG hr h
  have tk := takes_of (X := cxOf (L2.CX P w) P w K mg base ["line"] "check_line" (defScope s_check_line) f cdv A out s H E) rfl rfl rfl rfl
  have hx : Passes (L2.CX P w) (cxOf (L2.CX P w) P w K mg base ["line"] "check_line" (defScope s_check_line) f cdv A out s H E) E := passes_call tk fun _ _ _ _ h => h
  obtain ⟨v, b, rfl, hv, q1, q2⟩ := h
  refine ⟨_, (pss_one (ps_if (pt_not (pt_val (pe_u C_is_line hG hr (by decide) (by rfl) pass0 (pa_cons (pv 0) pa_nil))))
      (pss_one (ps_refuse (i := 0) X.vl S_L rfl (Or.inl rfl) (Or.inl rfl) rfl tk hr (by decide) (by rfl) rfl (Or.inl rfl)))
      pss_nil)), ?_⟩
  refine ⟨_, rfl, v, b, rfl, hv, fun H1 s1 => ⟨_, rfl, ?_⟩⟩
  cases b with
  | true => exact iteF (q1 rfl H1 s1)
  | false => exact iteT ⟨v, rfl, fun d G' s n e => q2 rfl d G' (s1.trans s) (s1.free n) e⟩
theorem ok_check_lines {P : Program} {w : World} {K : PySem.W.Frag}
    {mg : Str → Option Value} {base : Heap} (T : Top K mg) {CL CN CZ CT : Addr} (X : Exc K mg CL CN CZ CT)
    (C_check_line : Cl P w K mg base (L2.CX P w) 3 "check_line" s_check_line ["line"] (spChkV CL Val)) :
    Cl P w K mg base (L2.CX P w) 4 "check_lines" s_check_lines ["line", "other"] (spChkV2 CL) := by
  refine T.d_check_lines.cl fun f fd F => body_X F S_check_lines (fun vs H Q E h => by obtain ⟨_, _, _, _, rfl, _⟩ := h; rfl) ?_
  intro cdv A out s H vs Q E hG hr h
  have tk := takes_of (X := cxOf (L2.CX P w) P w K mg base ["line", "other"] "check_lines" (defScope s_check_lines) f cdv A out s H E) rfl rfl rfl rfl
  have hx : Passes (L2.CX P w) (cxOf (L2.CX P w) P w K mg base ["line", "other"] "check_lines" (defScope s_check_lines) f cdv A out s H E) E := passes_call tk fun _ _ _ _ h => h
  obtain ⟨u, v, a, b, rfl, hu, hv, q1, q2, q3⟩ := h
  refine ⟨_, (pss_cons (ps_expr (pe_u C_check_line hG hr (by decide) (by rfl) hx (pa_cons (pv 0) pa_nil)))
    (pss_one (ps_expr (pe_u C_check_line hG hr (by decide) (by rfl) hx (pa_cons (pv 1) pa_nil))))), ?_⟩
  refine ⟨_, rfl, u, a, rfl, hu, fun ha H1 s1 => ?_, fun ha d G' s n e => q2 ha d G' s n e⟩
  exact ⟨_, rfl, v, b, rfl, hv.same s1, fun hb H2 s2 => q1 ha hb H2 (s1.trans s2), fun hb d G' s n e => q3 ha hb d G' (s1.trans s) (s1.free n) e⟩
theorem ok_check_number {P : Program} {w : World} {K : PySem.W.Frag}
    {mg : Str → Option Value} {base : Heap} (T : Top K mg) {CL CN CZ CT : Addr} (X : Exc K mg CL CN CZ CT)
    (C_is_integer : Cl P w K mg base CX0 1 "is_integer" s_is_integer ["value"] (spIsInt)) :
    Cl P w K mg base (L2.CX P w) 3 "check_number" s_check_number ["number"] (spChkV CN IsN) := by
  refine T.d_check_number.cl fun f fd F => body_X F S_check_number (fun vs H Q E h => by obtain ⟨_, _, rfl, _⟩ := h; rfl) ?_
  intro cdv A out s H vs Q E hG hr h
  have tk := takes_of (X := cxOf (L2.CX P w) P w K mg base ["number"] "check_number" (defScope s_check_number) f cdv A out s H E) rfl rfl rfl rfl
  have hx : Passes (L2.CX P w) (cxOf (L2.CX P w) P w K mg base ["number"] "check_number" (defScope s_check_number) f cdv A out s H E) E := passes_call tk fun _ _ _ _ h => h
  obtain ⟨v, b, rfl, ⟨k, hv, eb⟩, q1, q2⟩ := h
  refine ⟨_, (pss_one (ps_if (pt_not (pt_val (pe_u C_is_integer hG hr (by decide) (by rfl) pass0 (pa_cons (pv 0) pa_nil))))
      (pss_one (ps_refuse (i := 0) X.vn S_N rfl (Or.inl rfl) (Or.inl rfl) rfl tk hr (by decide) (by rfl) rfl (Or.inl rfl)))
      pss_nil)), ?_⟩
  refine ⟨_, rfl, v, k, rfl, hv, ⟨_, rfl, ?_⟩⟩
  rw [eb]
  cases b with
  | true => exact iteF (q1 rfl H (Same.refl _))
  | false => exact iteT ⟨v, rfl, q2 rfl⟩
theorem ok__check_not_nought {P : Program} {w : World} {K : PySem.W.Frag}
    {mg : Str → Option Value} {base : Heap} (T : Top K mg) {CL CN CZ CT : Addr} (X : Exc K mg CL CN CZ CT)
    (C_check_line : Cl P w K mg base (L2.CX P w) 3 "check_line" s_check_line ["line"] (spChkV CL Val)) :
    Cl P w K mg base (L2.CX P w) 4 "_check_not_nought" s__check_not_nought ["line"] (spR0 CL CZ) := by
  refine T.d__check_not_nought.cl fun f fd F => body_X F S__check_not_nought (fun vs H Q E h => by obtain ⟨_, rfl, _⟩ := h; rfl) ?_
  intro cdv A out s H vs Q E hG hr h
  have tk := takes_of (X := cxOf (L2.CX P w) P w K mg base ["line"] "_check_not_nought" (defScope s__check_not_nought) f cdv A out s H E) rfl rfl rfl rfl
  have hx : Passes (L2.CX P w) (cxOf (L2.CX P w) P w K mg base ["line"] "_check_not_nought" (defScope s__check_not_nought) f cdv A out s H E) E := passes_call tk fun _ _ _ _ h => h
  obtain ⟨v, rfl, h⟩ := h
  refine ⟨_, (pss_cons (ps_expr (pe_u C_check_line hG hr (by decide) (by rfl) hx (pa_cons (pv 0) pa_nil)))
    (pss_one (ps_if (pt_cmpR op_eq (pe_callB call_len_seq (by rfl) T.n_len PySem.boot_len (pa_cons (pv 0) pa_nil)) pe_int (nomark _))
      (pss_one (ps_raise rfl tk (pmk_x0 PySem.F.excBase_RuntimeError X.zo X.zm X.zk (raises_own X.zs X.zt) (by rfl))))
      pss_nil))), ?_⟩
  rcases h with ⟨hv, r⟩ | ⟨hv, ⟨j, a, rfl, hs⟩, r⟩
  · exact ⟨_, rfl, v, false, rfl, hv, (fun z => by cases z), fun _ => r⟩
  · refine ⟨_, rfl, .ref a, true, rfl, hv, fun _ H1 s1 => ?_, fun z => by cases z⟩
    exact ⟨_, rfl, a, [], rfl, (SqJ (K := K) (same_sq s1 hs)).or, rfl, _, rfl, iteT (r H1 s1)⟩
theorem ok_degree {P : Program} {w : World} {K : PySem.W.Frag}
    {mg : Str → Option Value} {base : Heap} (T : Top K mg) {CL CN CZ CT : Addr} (X : Exc K mg CL CN CZ CT)
    (C_check_line : Cl P w K mg base (L2.CX P w) 3 "check_line" s_check_line ["line"] (spChkV CL Val)) :
    Cl P w K mg base (L2.CX P w) 4 "degree" s_degree ["line"] (spR1 CL) := by
  refine T.d_degree.cl fun f fd F => body_X F S_degree (fun vs H Q E h => by obtain ⟨_, rfl, _⟩ := h; rfl) ?_
  intro cdv A out s H vs Q E hG hr h
  have tk := takes_of (X := cxOf (L2.CX P w) P w K mg base ["line"] "degree" (defScope s_degree) f cdv A out s H E) rfl rfl rfl rfl
  have hx : Passes (L2.CX P w) (cxOf (L2.CX P w) P w K mg base ["line"] "degree" (defScope s_degree) f cdv A out s H E) E := passes_call tk fun _ _ _ _ h => h
  obtain ⟨v, rfl, hv, r⟩ := h
  exact ⟨_, (pss_cons (ps_expr (pe_u C_check_line hG hr (by decide) (by rfl) hx (pa_cons (pv 0) pa_nil))) pss_never), _, rfl, v, false, rfl, hv, (fun z => by cases z), fun _ => r⟩
theorem ok_line_slope {P : Program} {w : World} {K : PySem.W.Frag}
    {mg : Str → Option Value} {base : Heap} (T : Top K mg) {CL CN CZ CT : Addr} (X : Exc K mg CL CN CZ CT)
    (C_check_line : Cl P w K mg base (L2.CX P w) 3 "check_line" s_check_line ["line"] (spChkV CL Val)) :
    Cl P w K mg base (L2.CX P w) 4 "line_slope" s_line_slope ["line"] (spR1 CL) := by
  refine T.d_line_slope.cl fun f fd F => body_X F S_line_slope (fun vs H Q E h => by obtain ⟨_, rfl, _⟩ := h; rfl) ?_
  intro cdv A out s H vs Q E hG hr h
  have tk := takes_of (X := cxOf (L2.CX P w) P w K mg base ["line"] "line_slope" (defScope s_line_slope) f cdv A out s H E) rfl rfl rfl rfl
  have hx : Passes (L2.CX P w) (cxOf (L2.CX P w) P w K mg base ["line"] "line_slope" (defScope s_line_slope) f cdv A out s H E) E := passes_call tk fun _ _ _ _ h => h
  obtain ⟨v, rfl, hv, r⟩ := h
  exact ⟨_, (pss_cons (ps_expr (pe_u C_check_line hG hr (by decide) (by rfl) hx (pa_cons (pv 0) pa_nil))) pss_never), _, rfl, v, false, rfl, hv, (fun z => by cases z), fun _ => r⟩
theorem ok_plain_line {P : Program} {w : World} {K : PySem.W.Frag}
    {mg : Str → Option Value} {base : Heap} (T : Top K mg) {CL CN CZ CT : Addr} (X : Exc K mg CL CN CZ CT)
    (C_check_line : Cl P w K mg base (L2.CX P w) 3 "check_line" s_check_line ["line"] (spChkV CL Val)) :
    Cl P w K mg base (L2.CX P w) 4 "plain_line" s_plain_line ["line"] (spR1 CL) := by
  refine T.d_plain_line.cl fun f fd F => body_X F S_plain_line (fun vs H Q E h => by obtain ⟨_, rfl, _⟩ := h; rfl) ?_
  intro cdv A out s H vs Q E hG hr h
  have tk := takes_of (X := cxOf (L2.CX P w) P w K mg base ["line"] "plain_line" (defScope s_plain_line) f cdv A out s H E) rfl rfl rfl rfl
  have hx : Passes (L2.CX P w) (cxOf (L2.CX P w) P w K mg base ["line"] "plain_line" (defScope s_plain_line) f cdv A out s H E) E := passes_call tk fun _ _ _ _ h => h
  obtain ⟨v, rfl, hv, r⟩ := h
  exact ⟨_, (pss_cons (ps_expr (pe_u C_check_line hG hr (by decide) (by rfl) hx (pa_cons (pv 0) pa_nil))) pss_never), _, rfl, v, false, rfl, hv, (fun z => by cases z), fun _ => r⟩
theorem ok_line_sum {P : Program} {w : World} {K : PySem.W.Frag}
    {mg : Str → Option Value} {base : Heap} (T : Top K mg) {CL CN CZ CT : Addr} (X : Exc K mg CL CN CZ CT)
    (C_check_lines : Cl P w K mg base (L2.CX P w) 4 "check_lines" s_check_lines ["line", "other"] (spChkV2 CL)) :
    Cl P w K mg base (L2.CX P w) 5 "line_sum" s_line_sum ["line", "other"] (spR2 CL) := by
  refine T.d_line_sum.cl fun f fd F => body_X F S_line_sum (fun vs H Q E h => by obtain ⟨_, _, _, _, rfl, _⟩ := h; rfl) ?_
  intro cdv A out s H vs Q E hG hr h
  have tk := takes_of (X := cxOf (L2.CX P w) P w K mg base ["line", "other"] "line_sum" (defScope s_line_sum) f cdv A out s H E) rfl rfl rfl rfl
  have hx : Passes (L2.CX P w) (cxOf (L2.CX P w) P w K mg base ["line", "other"] "line_sum" (defScope s_line_sum) f cdv A out s H E) E := passes_call tk fun _ _ _ _ h => h
  obtain ⟨u, v, a, b, rfl, hu, hv, h⟩ := h
  refine ⟨_, (pss_cons (ps_expr (pe_u C_check_lines hG hr (by decide) (by rfl) hx (pa_cons (pv 0) (pa_cons (pv 1) pa_nil)))) pss_never), ?_⟩
  refine ⟨_, rfl, _, rfl, u, v, a, b, rfl, hu, hv, fun ha hb => ?_, fun ha => ?_, fun ha hb => ?_⟩
  · rcases h with ⟨z, _⟩ | ⟨_, z, _⟩
    · rw [z] at ha; cases ha
    · rw [z] at hb; cases hb
  · rcases h with ⟨_, r⟩ | ⟨z, _⟩
    · exact r
    · rw [z] at ha; cases ha
  · rcases h with ⟨z, _⟩ | ⟨_, _, r⟩
    · rw [z] at ha; cases ha
    · exact r
theorem ok_line_less {P : Program} {w : World} {K : PySem.W.Frag}
    {mg : Str → Option Value} {base : Heap} (T : Top K mg) {CL CN CZ CT : Addr} (X : Exc K mg CL CN CZ CT)
    (C_check_lines : Cl P w K mg base (L2.CX P w) 4 "check_lines" s_check_lines ["line", "other"] (spChkV2 CL)) :
    Cl P w K mg base (L2.CX P w) 5 "line_less" s_line_less ["line", "other"] (spR2 CL) := by
  refine T.d_line_less.cl fun f fd F => body_X F S_line_less (fun vs H Q E h => by obtain ⟨_, _, _, _, rfl, _⟩ := h; rfl) ?_
  intro cdv A out s H vs Q E hG hr h
  have tk := takes_of (X := cxOf (L2.CX P w) P w K mg base ["line", "other"] "line_less" (defScope s_line_less) f cdv A out s H E) rfl rfl rfl rfl
  have hx : Passes (L2.CX P w) (cxOf (L2.CX P w) P w K mg base ["line", "other"] "line_less" (defScope s_line_less) f cdv A out s H E) E := passes_call tk fun _ _ _ _ h => h
  obtain ⟨u, v, a, b, rfl, hu, hv, h⟩ := h
  refine ⟨_, (pss_cons (ps_expr (pe_u C_check_lines hG hr (by decide) (by rfl) hx (pa_cons (pv 0) (pa_cons (pv 1) pa_nil)))) pss_never), ?_⟩
  refine ⟨_, rfl, _, rfl, u, v, a, b, rfl, hu, hv, fun ha hb => ?_, fun ha => ?_, fun ha hb => ?_⟩
  · rcases h with ⟨z, _⟩ | ⟨_, z, _⟩
    · rw [z] at ha; cases ha
    · rw [z] at hb; cases hb
  · rcases h with ⟨_, r⟩ | ⟨z, _⟩
    · exact r
    · rw [z] at ha; cases ha
  · rcases h with ⟨z, _⟩ | ⟨_, _, r⟩
    · rw [z] at ha; cases ha
    · exact r
theorem ok_line_common {P : Program} {w : World} {K : PySem.W.Frag}
    {mg : Str → Option Value} {base : Heap} (T : Top K mg) {CL CN CZ CT : Addr} (X : Exc K mg CL CN CZ CT)
    (C_check_lines : Cl P w K mg base (L2.CX P w) 4 "check_lines" s_check_lines ["line", "other"] (spChkV2 CL)) :
    Cl P w K mg base (L2.CX P w) 5 "line_common" s_line_common ["line", "other"] (spR2 CL) := by
  refine T.d_line_common.cl fun f fd F => body_X F S_line_common (fun vs H Q E h => by obtain ⟨_, _, _, _, rfl, _⟩ := h; rfl) ?_
  intro cdv A out s H vs Q E hG hr h
  have tk := takes_of (X := cxOf (L2.CX P w) P w K mg base ["line", "other"] "line_common" (defScope s_line_common) f cdv A out s H E) rfl rfl rfl rfl
  have hx : Passes (L2.CX P w) (cxOf (L2.CX P w) P w K mg base ["line", "other"] "line_common" (defScope s_line_common) f cdv A out s H E) E := passes_call tk fun _ _ _ _ h => h
  obtain ⟨u, v, a, b, rfl, hu, hv, h⟩ := h
  refine ⟨_, (pss_cons (ps_expr (pe_u C_check_lines hG hr (by decide) (by rfl) hx (pa_cons (pv 0) (pa_cons (pv 1) pa_nil)))) pss_never), ?_⟩
  refine ⟨_, rfl, _, rfl, u, v, a, b, rfl, hu, hv, fun ha hb => ?_, fun ha => ?_, fun ha hb => ?_⟩
  · rcases h with ⟨z, _⟩ | ⟨_, z, _⟩
    · rw [z] at ha; cases ha
    · rw [z] at hb; cases hb
  · rcases h with ⟨_, r⟩ | ⟨z, _⟩
    · exact r
    · rw [z] at ha; cases ha
  · rcases h with ⟨z, _⟩ | ⟨_, _, r⟩
    · rw [z] at ha; cases ha
    · exact r
theorem ok_line_value {P : Program} {w : World} {K : PySem.W.Frag}
    {mg : Str → Option Value} {base : Heap} (T : Top K mg) {CL CN CZ CT : Addr} (X : Exc K mg CL CN CZ CT)
    (C_check_line : Cl P w K mg base (L2.CX P w) 3 "check_line" s_check_line ["line"] (spChkV CL Val))
    (C_check_number : Cl P w K mg base (L2.CX P w) 3 "check_number" s_check_number ["number"] (spChkV CN IsN)) :
    Cl P w K mg base (L2.CX P w) 4 "line_value" s_line_value ["line", "number"] (spRV CL CN) := by
  refine T.d_line_value.cl fun f fd F => body_X F S_line_value (fun vs H Q E h => by obtain ⟨_, _, rfl, _⟩ := h; rfl) ?_
  intro cdv A out s H vs Q E hG hr h
  have tk := takes_of (X := cxOf (L2.CX P w) P w K mg base ["line", "number"] "line_value" (defScope s_line_value) f cdv A out s H E) rfl rfl rfl rfl
  have hx : Passes (L2.CX P w) (cxOf (L2.CX P w) P w K mg base ["line", "number"] "line_value" (defScope s_line_value) f cdv A out s H E) E := passes_call tk fun _ _ _ _ h => h
  obtain ⟨u, v, rfl, h⟩ := h
  refine ⟨_, (pss_cons (ps_expr (pe_u C_check_line hG hr (by decide) (by rfl) hx (pa_cons (pv 0) pa_nil))) (pss_cons (ps_expr (pe_u C_check_number hG hr (by decide) (by rfl) hx (pa_cons (pv 1) pa_nil))) pss_never)), ?_⟩
  rcases h with ⟨hu, r⟩ | ⟨hu, ⟨k, hv, e⟩, r⟩
  · exact ⟨_, rfl, u, false, rfl, hu, (fun z => by cases z), fun _ => r⟩
  · exact ⟨_, rfl, u, true, rfl, hu, (fun _ H1 s1 => ⟨_, rfl, v, false, rfl, ⟨k, hv.same s1, e⟩, (fun z => by cases z), fun _ => r.later s1⟩), fun z => by cases z⟩
theorem ok_greatest {P : Program} {w : World} {K : PySem.W.Frag}
    {mg : Str → Option Value} {base : Heap} (T : Top K mg) {CL CN CZ CT : Addr} (X : Exc K mg CL CN CZ CT)
    (C_check_number : Cl P w K mg base (L2.CX P w) 3 "check_number" s_check_number ["number"] (spChkV CN IsN)) :
    Cl P w K mg base (L2.CX P w) 4 "greatest" s_greatest ["number", "other"] (spRN CN) := by
  refine T.d_greatest.cl fun f fd F => body_X F S_greatest (fun vs H Q E h => by obtain ⟨_, _, rfl, _⟩ := h; rfl) ?_
  intro cdv A out s H vs Q E hG hr h
  have tk := takes_of (X := cxOf (L2.CX P w) P w K mg base ["number", "other"] "greatest" (defScope s_greatest) f cdv A out s H E) rfl rfl rfl rfl
  have hx : Passes (L2.CX P w) (cxOf (L2.CX P w) P w K mg base ["number", "other"] "greatest" (defScope s_greatest) f cdv A out s H E) E := passes_call tk fun _ _ _ _ h => h
  obtain ⟨u, v, rfl, h⟩ := h
  refine ⟨_, (pss_cons (ps_expr (pe_u C_check_number hG hr (by decide) (by rfl) hx (pa_cons (pv 0) pa_nil))) (pss_cons (ps_expr (pe_u C_check_number hG hr (by decide) (by rfl) hx (pa_cons (pv 1) pa_nil))) pss_never)), ?_⟩
  rcases h with ⟨hu, r⟩ | ⟨hu, ⟨k, hv, e⟩, r⟩
  · exact ⟨_, rfl, u, false, rfl, hu, (fun z => by cases z), fun _ => r⟩
  · exact ⟨_, rfl, u, true, rfl, hu, (fun _ H1 s1 => ⟨_, rfl, v, false, rfl, ⟨k, hv.same s1, e⟩, (fun z => by cases z), fun _ => r.later s1⟩), fun z => by cases z⟩
theorem ok_plain_parts {P : Program} {w : World} {K : PySem.W.Frag}
    {mg : Str → Option Value} {base : Heap} (T : Top K mg) {CL CN CZ CT : Addr} (X : Exc K mg CL CN CZ CT)
    (C__check_not_nought : Cl P w K mg base (L2.CX P w) 4 "_check_not_nought" s__check_not_nought ["line"] (spR0 CL CZ)) :
    Cl P w K mg base (L2.CX P w) 5 "plain_parts" s_plain_parts ["line"] (spR0 CL CZ) := by
  refine T.d_plain_parts.cl fun f fd F => body_X F S_plain_parts (fun vs H Q E h => by obtain ⟨_, rfl, _⟩ := h; rfl) ?_
  intro cdv A out s H vs Q E hG hr h
  have tk := takes_of (X := cxOf (L2.CX P w) P w K mg base ["line", "whole", "often", "once", "found", "times", "later", "part"] "plain_parts" (defScope s_plain_parts) f cdv A out s H E) rfl rfl rfl rfl
  have hx : Passes (L2.CX P w) (cxOf (L2.CX P w) P w K mg base ["line", "whole", "often", "once", "found", "times", "later", "part"] "plain_parts" (defScope s_plain_parts) f cdv A out s H E) E := passes_call tk fun _ _ _ _ h => h
  obtain ⟨v, rfl, h⟩ := h
  exact ⟨_, (pss_cons (ps_expr (pe_u C__check_not_nought hG hr (by decide) (by rfl) hx (pa_cons (pv 0) pa_nil))) pss_never), _, rfl, v, rfl, h⟩
theorem ok_whole_roots {P : Program} {w : World} {K : PySem.W.Frag}
    {mg : Str → Option Value} {base : Heap} (T : Top K mg) {CL CN CZ CT : Addr} (X : Exc K mg CL CN CZ CT)
    (C__check_not_nought : Cl P w K mg base (L2.CX P w) 4 "_check_not_nought" s__check_not_nought ["line"] (spR0 CL CZ)) :
    Cl P w K mg base (L2.CX P w) 5 "whole_roots" s_whole_roots ["line"] (spR0 CL CZ) := by
  refine T.d_whole_roots.cl fun f fd F => body_X F S_whole_roots (fun vs H Q E h => by obtain ⟨_, rfl, _⟩ := h; rfl) ?_
  intro cdv A out s H vs Q E hG hr h
  have tk := takes_of (X := cxOf (L2.CX P w) P w K mg base ["line"] "whole_roots" (defScope s_whole_roots) f cdv A out s H E) rfl rfl rfl rfl
  have hx : Passes (L2.CX P w) (cxOf (L2.CX P w) P w K mg base ["line"] "whole_roots" (defScope s_whole_roots) f cdv A out s H E) E := passes_call tk fun _ _ _ _ h => h
  obtain ⟨v, rfl, h⟩ := h
  exact ⟨_, (pss_cons (ps_expr (pe_u C__check_not_nought hG hr (by decide) (by rfl) hx (pa_cons (pv 0) pa_nil))) pss_never), _, rfl, v, rfl, h⟩
theorem ok_monic_parts {P : Program} {w : World} {K : PySem.W.Frag}
    {mg : Str → Option Value} {base : Heap} (T : Top K mg) {CL CN CZ CT : Addr} (X : Exc K mg CL CN CZ CT)
    (C_is_line : Cl P w K mg base CX0 2 "is_line" s_is_line ["value"] (spIsLine)) :
    Cl P w K mg base (L2.CX P w) 4 "monic_parts" s_monic_parts ["line"] (spRM CL) := by
  obtain ⟨_, c_MONIC_DEGREE⟩ := T.c_MONIC_DEGREE
  refine T.d_monic_parts.cl fun f fd F => body_X F S_monic_parts (fun vs H Q E h => by obtain ⟨_, rfl, _⟩ := h; rfl) ?_
  intro cdv A out s H vs Q E hG hr h
  have tk := takes_of (X := cxOf (L2.CX P w) P w K mg base ["line", "rest", "found", "root"] "monic_parts" (defScope s_monic_parts) f cdv A out s H E) rfl rfl rfl rfl
  have hx : Passes (L2.CX P w) (cxOf (L2.CX P w) P w K mg base ["line", "rest", "found", "root"] "monic_parts" (defScope s_monic_parts) f cdv A out s H E) E := passes_call tk fun _ _ _ _ h => h
  obtain ⟨v, rfl, h, r⟩ := h
  refine ⟨_, (pss_cons (ps_if ((pw_or (pt_not (pt_val (pe_u C_is_line hG hr (by decide) (by rfl) pass0 (pa_cons (pv 0) pa_nil)))) (pw_or (pt_cmpR op_lt (pe_callB call_len_seq (by rfl) T.n_len PySem.boot_len (pa_cons (pv 0) pa_nil)) pe_int (nomark _)) (pw_or (pt_cmpR op_gt (pe_callB call_len_seq (by rfl) T.n_len PySem.boot_len (pa_cons (pv 0) pa_nil)) (pe_op op_add (pe_glob (v := .int 4) (by rfl) c_MONIC_DEGREE ⟨_, rfl⟩) pe_int) (nomark _)) (pw_or1 (pt_cmpR op_ne (pe_ix ix_sq (pv 0) (pe_un un_neg pe_int) (fun _ _ => rfl)) pe_int (nomark _))))))).pt
      (pss_one (ps_refuse (i := 0) X.vl S_L rfl (Or.inl rfl) (Or.inl rfl) rfl tk hr (by decide) (by rfl) rfl (Or.inl rfl)))
      pss_nil) pss_never), ?_⟩
  rcases h with hv | ⟨j, a, p, rfl, hv, hp, h⟩
  · exact ⟨_, rfl, v, false, rfl, hv, fun H1 s1 => ⟨_, rfl, iteT (iteT ⟨v, rfl, r.later s1⟩)⟩⟩
  · refine ⟨_, rfl, .ref a, true, rfl, hv, fun H1 s1 => ⟨_, rfl, iteF ?_⟩⟩
    have hp1 := hp.same s1
    refine ⟨_, rfl, a, _, rfl, hp1.sq.or, _, _, rfl, rfl, _, rfl, ite2 (fun c => iteT ⟨_, rfl, r.later s1⟩) (fun c => ?_)⟩
    have l2 : ¬ p.length < 2 := fun z => c (decide_eq_true (by rw [List.length_map]; omega))
    refine ⟨_, rfl, a, _, rfl, hp1.sq.or, _, _, rfl, rfl, _, _, rfl, rfl, _, rfl, ite2 (fun c => iteT ⟨_, rfl, r.later s1⟩) (fun c => ?_)⟩
    have l5 : ¬ 5 < p.length := fun z => c (decide_eq_true (by rw [List.length_map]; show (4 : Int) + 1 < _; omega))
    have hn : p ≠ [] := fun z => by rw [z] at l2; simp at l2
    have h1 : co p (p.length - 1) ≠ 1 := by
      rcases h with z | z | z
      · exact absurd z l2
      · exact absurd z l5
      · exact z
    refine ⟨_, rfl, _, rfl, j, a, _, -1, _, rfl, rfl, hp1.sq, atI_end hn, rfl, _, rfl, ite2 (fun _ => ⟨_, rfl, r.later s1⟩) (fun c => absurd ?_ h1)⟩
    have c : ¬ (!decide (V.int (co p (p.length - 1)) = V.int 1)) = true := c
    simpa using c
theorem ok_line_times {P : Program} {w : World} {K : PySem.W.Frag}
    {mg : Str → Option Value} {base : Heap} (T : Top K mg) {CL CN CZ CT : Addr} (X : Exc K mg CL CN CZ CT)
    (C_check_lines : Cl P w K mg base (L2.CX P w) 4 "check_lines" s_check_lines ["line", "other"] (spChkV2 CL))
    (C_poly_times : Cl P w K mg base CX0 1 "poly_times" s_poly_times ["one", "two"] (spPTimes)) :
    Cl P w K mg base (L2.CX P w) 5 "line_times" s_line_times ["line", "other"] (spRT CL CT) := by
  obtain ⟨_, c_LINE_DEGREE⟩ := T.c_LINE_DEGREE
  refine T.d_line_times.cl fun f fd F => body_X F S_line_times (fun vs H Q E h => by obtain ⟨_, _, _, _, rfl, _⟩ := h; rfl) ?_
  intro cdv A out s H vs Q E hG hr h
  have tk := takes_of (X := cxOf (L2.CX P w) P w K mg base ["line", "other", "product"] "line_times" (defScope s_line_times) f cdv A out s H E) rfl rfl rfl rfl
  have hx : Passes (L2.CX P w) (cxOf (L2.CX P w) P w K mg base ["line", "other", "product"] "line_times" (defScope s_line_times) f cdv A out s H E) E := passes_call tk fun _ _ _ _ h => h
  obtain ⟨u, v, a, b, rfl, hu, hv, h⟩ := h
  refine ⟨_, (pss_cons (ps_expr (pe_u C_check_lines hG hr (by decide) (by rfl) hx (pa_cons (pv 0) (pa_cons (pv 1) pa_nil))))
    (pss_cons (ps_set (i := 2) S_line_times.nd rfl (Or.inl rfl) (pe_u C_poly_times hG hr (by decide) (by rfl) pass0 (pa_cons (pv 0) (pa_cons (pv 1) pa_nil))))
    (pss_cons (ps_if (pt_cmpR op_gt (pe_callB call_len_seq (by rfl) T.n_len PySem.boot_len (pa_cons (pv 2) pa_nil)) (pe_op op_add (pe_glob (v := .int 12) (by rfl) c_LINE_DEGREE ⟨_, rfl⟩) pe_int) (nomark _))
      (pss_one (ps_refuse2 (u := .str "degree") (v := .int 12) X.vt S_T rfl (Or.inl rfl) (Or.inl rfl) (Or.inl rfl) rfl tk hr (by decide) (by rfl) pe_str (pe_glob (by rfl) c_LINE_DEGREE ⟨_, rfl⟩) (by rfl) (by rfl)))
      pss_nil)
    (pss_one (ps_ret (pv 2)))))), ?_⟩
  refine ⟨_, rfl, _, rfl, u, v, a, b, rfl, hu, hv, fun ha hb H1 s1 => ?_, fun ha => ?_, fun ha hb => ?_⟩
  · rcases h with ⟨z, _⟩ | ⟨_, z, _⟩ | ⟨_, _, k1, k2, r1, r2, p, q, rfl, rfl, hp, hq, lp, lq, bp, bq, h⟩
    · rw [z] at ha; cases ha
    · rw [z] at hb; cases hb
    · refine ⟨_, rfl, _, rfl, k1, k2, r1, r2, p, q, rfl, hp.same s1, hq.same s1, by omega, by omega, bp, bq, fun H2 m s2 nm em => ?_⟩
      have s3 := s1.trans s2
      refine ⟨_, rfl, m, _, rfl, .inl (SqL.of em), _, _, rfl, rfl, _, _, rfl, rfl, _, rfl, ite2 (fun c => ?_) (fun c => ?_)⟩
      · have c : (12 : Int) + 1 < (((mulF p q).map V.int).length : Int) := of_decide_eq_true c
        rw [List.length_map] at c
        rcases h with ⟨_, r⟩ | ⟨l, _⟩
        · exact fun d G' s n e => r d G' (s3.trans s) (s3.free n) e
        · omega
      · have c : ¬ (12 : Int) + 1 < (((mulF p q).map V.int).length : Int) := fun z => c (decide_eq_true z)
        rw [List.length_map] at c
        rcases h with ⟨l, _⟩ | ⟨_, r⟩
        · omega
        · exact ⟨_, rfl, r m H2 s3⟩
  · rcases h with ⟨_, r⟩ | ⟨z, _⟩ | ⟨z, _⟩
    · exact r
    · rw [z] at ha; cases ha
    · rw [z] at ha; cases ha
  · rcases h with ⟨z, _⟩ | ⟨_, _, r⟩ | ⟨_, z, _⟩
    · rw [z] at ha; cases ha
    · exact r
    · rw [z] at hb; cases hb
theorem ok_poly_divided {P : Program} {w : World} {K : PySem.W.Frag}
    {mg : Str → Option Value} {base : Heap} (T : Top K mg) {CL CN CZ CT : Addr} (X : Exc K mg CL CN CZ CT) :
    Cl P w K mg base CX0 1 "poly_divided" s_poly_divided ["one", "two"] (spPDiv0) := by
  refine T.d_poly_divided.cl fun f fd F => body_0 F S_poly_divided (fun vs H Q E h => by obtain ⟨_, _, _, _, _, rfl, _⟩ := h; rfl) ?_
  intro cdv A out s H vs Q E hG hr h
  obtain ⟨kk, jj, a, b, d, rfl, ha, hb, hd, hl, q⟩ := h
  refine ⟨_, (pss_cons (ps_par (i := 2) (j := 3) rfl S_poly_divided.nd rfl rfl (by decide) rfl rfl (pa_cons pe_int (pa_cons (pe_callTy call_list_of (by rfl) T.n_list (by decide +kernel) (pa_cons (pv 0) pa_nil)) pa_nil)) (by rfl))
    (pss_cons (ps_set (i := 4) S_poly_divided.nd rfl (Or.inl rfl) (pe_op op_rep (pe_lst (pa_cons pe_int pa_nil)) (pe_callB (call_max2 rfl) (by rfl) T.n_max (by decide +kernel) (pa_cons pe_int (pa_cons (pe_op op_add (pe_op op_sub (pe_callB call_len_seq (by rfl) T.n_len PySem.boot_len (pa_cons (pv 0) pa_nil)) (pe_callB call_len_seq (by rfl) T.n_len PySem.boot_len (pa_cons (pv 1) pa_nil))) pe_int) pa_nil)))))
    (pss_cons (ps_set (i := 5) S_poly_divided.nd rfl (Or.inl rfl) (pe_ix ix_sq (pv 1) (pe_un un_neg pe_int) (fun _ _ => rfl)))
    (pss_cons (ps_while PassesOwn.never (pt_cmpR op_ge (pe_callB call_len_seq (by rfl) T.n_len PySem.boot_len (pa_cons (pv 3) pa_nil)) (pe_callB call_len_seq (by rfl) T.n_len PySem.boot_len (pa_cons (pv 1) pa_nil)) (nomark _)) pss_never)
    (pss_one (ps_ret (pe_tup (pa_cons (pv 2) (pa_cons (pv 4) (pa_cons (pv 3) pa_nil)))))))))), ?_⟩
  have sz : ∀ {n : Nat}, n ≤ 1000 → n ≤ sizeLine := fun h => Nat.le_of_lt (small1000 h)
  have ld : 0 < d.length := List.length_pos_iff.mpr hd
  refine ⟨_, rfl, a, _, rfl, ha.sq.or, fun o no => ⟨_, _, rfl, ?_⟩⟩
  have s1 : Same H (upd H o (.lst (([] : List Int).map V.int))) := Same.put no
  refine ⟨sz (by decide : 1 ≤ 1000), fun t1 nt1 => ?_⟩
  have s2 := s1.trans (Same.put (o := .lst [.int 0]) nt1)
  refine ⟨_, rfl, a, _, rfl, (ha.same s2).sq.or, _, rfl, b, _, rfl, (hb.same s2).sq.or, _, _, rfl, rfl, _, _, rfl, rfl, _, _, rfl, ?_⟩
  rw [List.length_map, List.length_map, show (if (([] : List Int).length : Int) - d.length + 1 > 0 then (([] : List Int).length : Int) - d.length + 1 else 0) = 0 from if_neg (by simp only [List.length_nil]; omega)]
  refine ⟨t1, _, _, rfl, rfl, upd_same, by decide, by decide, sz (by decide : 0 ≤ 1000), ?_⟩
  intro u0 nu0
  have s3 := s2.trans (Same.put (o := .lst ((List.replicate (0 : Int).toNat [V.int 0]).flatten)) nu0)
  have ho3 : At false _ o [] := Same.put (o := .lst ((List.replicate (0 : Int).toNat [V.int 0]).flatten)) nu0 _ _ (Same.put (o := .lst [.int 0]) nt1 _ _ upd_same)
  generalize upd (upd (upd H o (.lst (([] : List Int).map V.int))) t1 (.lst [.int 0])) u0 _ = H3 at s3 ho3 ⊢
  refine ⟨_, rfl, _, rfl, jj, b, _, -1, _, rfl, rfl, (hb.same s3).sq, atI_end hd, ?_⟩
  refine ⟨fun w σ H' => σ = [some (.ref a), some (.ref b), some (.int 1), some (.ref o), some (.ref u0), some (.int (co d (d.length - 1))), none, none, none, none] ∧ H' = H3, ⟨0, rfl, rfl⟩, ?_⟩
  rintro w σ H' ⟨rfl, rfl⟩
  refine ⟨_, rfl, o, _, rfl, ho3.sq.or, _, rfl, b, _, rfl, (hb.same s3).sq.or, _, _, rfl, rfl, _, rfl, ?_⟩
  rw [List.length_map, List.length_map]
  refine ite2 (fun c1 => ?_) (fun c1 => ?_)
  · have c2 : (d.length : Int) ≤ (([] : List Int).length : Int) := of_decide_eq_true c1
    simp only [List.length_nil] at c2
    omega
  · exact ⟨_, rfl, _, rfl, _, rfl, sz (by decide : 3 ≤ 1000), fun T nT => q _ _ (s3.trans (Same.put nT))⟩
theorem ok_sylvester {P : Program} {w : World} {K : PySem.W.Frag}
    {mg : Str → Option Value} {base : Heap} (T : Top K mg) {CL CN CZ CT : Addr} (X : Exc K mg CL CN CZ CT) :
    Cl P w K mg base CX0 1 "sylvester" s_sylvester ["one", "two", "nought"] (spSyl0) := by
  refine T.d_sylvester.cl fun f fd F => body_0 F S_sylvester (fun vs H Q E h => by obtain ⟨_, _, _, _, rfl, _⟩ := h; rfl) ?_
  intro cdv A out s H vs Q E hG hr h
  obtain ⟨a, b, x, y, rfl, ha, hb, q⟩ := h
  refine ⟨_, (pss_cons (ps_asg (pe_tup (pa_cons (pe_op op_sub (pe_callB call_len_seq (by rfl) T.n_len PySem.boot_len (pa_cons (pv 0) pa_nil)) pe_int) (pa_cons (pe_op op_sub (pe_callB call_len_seq (by rfl) T.n_len PySem.boot_len (pa_cons (pv 1) pa_nil)) pe_int) pa_nil))) (pg_tup rfl (pgs_cons (pg_name (i := 3) S_sylvester.nd rfl (Or.inr rfl)) (pgs_cons (pg_name (i := 4) S_sylvester.nd rfl (Or.inr rfl)) pgs_nil))))
    (pss_cons (ps_setLc (i := 5) (own := [("i", 7)]) (g := gName 7) (tt := tYes) rfl S_sylvester.nd rfl rfl (sw_true rfl rfl rfl (by decide +kernel)) (pi_range1 (by rfl) T.n_range (pa_cons (pv 4) pa_nil)) (blkOk_by (N := ["one", "two", "nought", "m", "n", "above", "below", "i"]) (sc := defScope s_sylvester) (by decide +kernel)) (fun _ _ _ _ _ => (pg_name (i := 7) S_sylvester.nd rfl (Or.inl rfl))) (fun _ _ _ _ _ => pts_nil) (fun _ _ _ _ _ => pe_nope))
    (pss_cons (ps_setLc (i := 6) (own := [("i", 7)]) (g := gName 7) (tt := tYes) rfl S_sylvester.nd rfl rfl (sw_true rfl rfl rfl (by decide +kernel)) (pi_range1 (by rfl) T.n_range (pa_cons (pv 3) pa_nil)) (blkOk_by (N := ["one", "two", "nought", "m", "n", "above", "below", "i"]) (sc := defScope s_sylvester) (by decide +kernel)) (fun _ _ _ _ _ => (pg_name (i := 7) S_sylvester.nd rfl (Or.inl rfl))) (fun _ _ _ _ _ => pts_nil) (fun _ _ _ _ _ => pe_nope))
    (pss_one (ps_ret (pe_op op_cat (pv 5) (pv 6))))))), ?_⟩
  have sz : ∀ {n : Nat}, n ≤ 1000 → n ≤ sizeLine := fun h => Nat.le_of_lt (small1000 h)
  refine ⟨_, rfl, a, _, rfl, .inl (SqL.of ha), _, _, rfl, rfl, _, rfl, b, _, rfl, .inl (SqL.of hb), _, _, rfl, rfl, sz (by decide : 2 ≤ 1000), fun t1 nt1 => ?_⟩
  have s1 : Same H (upd H t1 (.tup [.int 0, .int 0])) := Same.put nt1
  generalize hg : upd H t1 _ = H1
  have et : H1 t1 = some (.tup [.int 0, .int 0]) := by rw [← hg]; exact upd_same
  have s2 : Same H H1 := by rw [← hg]; exact s1
  refine ⟨t1, _, rfl, SqT.of et, rfl, _, _, rfl, _, _, rfl, rfl, ?_⟩
  refine ⟨_, rfl, 0, rfl, by decide, by decide, fun D nD => ?_⟩
  refine lc_range (lo := 0) (n := (0 : Int).toNat) (te := fun _ _ _ => False) (fun i H' => Same H1 H' ∧ H' D = some (.lst [])) ⟨Same.put nD, upd_same⟩ (fun i H' hi => absurd hi (Nat.not_lt_zero _)) ?_
  rintro H2 ⟨s3, eD⟩
  refine ⟨_, rfl, 0, rfl, by decide, by decide, fun D2 nD2 => ?_⟩
  refine lc_range (lo := 0) (n := (0 : Int).toNat) (te := fun _ _ _ => False) (fun i H' => Same H2 H' ∧ H' D2 = some (.lst [])) ⟨Same.put nD2, upd_same⟩ (fun i H' hi => absurd hi (Nat.not_lt_zero _)) ?_
  rintro H3 ⟨s4, eD2⟩
  exact ⟨_, rfl, _, rfl, D, D2, _, _, rfl, rfl, s4 _ _ eD, eD2, sz (by decide : 0 ≤ 1000), fun r nr => q r _ (s2.trans (s3.trans (s4.trans (Same.put nr)))) upd_same⟩
theorem ok_determinant {P : Program} {w : World} {K : PySem.W.Frag}
    {mg : Str → Option Value} {base : Heap} (T : Top K mg) {CL CN CZ CT : Addr} (X : Exc K mg CL CN CZ CT) :
    Cl P w K mg base CX0 1 "determinant" s_determinant ["rows"] (spDet0) := by
  refine T.d_determinant.cl fun f fd F => body_0 F S_determinant (fun vs H Q E h => by obtain ⟨_, rfl, _⟩ := h; rfl) ?_
  intro cdv A out s H vs Q E hG hr h
  obtain ⟨a, rfl, ha, q⟩ := h
  refine ⟨_, (pss_cons (ps_set (i := 1) S_determinant.nd rfl (Or.inr rfl) (pe_callTy call_list_of (by rfl) T.n_list (by decide +kernel) (pa_cons (pv 0) pa_nil)))
    (pss_cons (ps_asg (pe_tup (pa_cons pe_int (pa_cons pe_int pa_nil))) (pg_tup rfl (pgs_cons (pg_name (i := 2) S_determinant.nd rfl (Or.inl rfl)) (pgs_cons (pg_name (i := 3) S_determinant.nd rfl (Or.inl rfl)) pgs_nil))))
    (pss_cons (ps_for PassesOwn.never rfl (pi_range1 (by rfl) T.n_range (pa_cons (pe_callB call_len_seq (by rfl) T.n_len PySem.boot_len (pa_cons (pv 1) pa_nil)) pa_nil)) (pg_name (i := 4) S_determinant.nd rfl (Or.inr rfl)) pss_never)
    (pss_one (ps_ret (pe_op op_mulX (pv 2) (pv 3))))))), ?_⟩
  have sz : ∀ {n : Nat}, n ≤ 1000 → n ≤ sizeLine := fun h => Nat.le_of_lt (small1000 h)
  refine ⟨_, rfl, a, _, rfl, .inl (SqL.of ha), fun o no => ?_⟩
  have s1 : Same H (upd H o (.lst [])) := Same.put no
  refine ⟨sz (by decide : 2 ≤ 1000), fun t1 nt1 => ?_⟩
  have s2 := s1.trans (Same.put (o := .tup [.int 1, .int 1]) nt1)
  have eo : upd (upd H o (.lst [])) t1 (.tup [.int 1, .int 1]) o = some (.lst []) := Same.put nt1 _ _ upd_same
  have et : upd (upd H o (.lst [])) t1 (.tup [.int 1, .int 1]) t1 = some (.tup [.int 1, .int 1]) := upd_same
  generalize upd (upd H o (.lst [])) t1 (.tup [.int 1, .int 1]) = H1 at s2 eo et ⊢
  refine ⟨t1, _, rfl, SqT.of et, rfl, _, _, rfl, _, _, rfl, rfl, ?_⟩
  refine ⟨_, rfl, o, _, rfl, .inl (SqL.of eo), 0, rfl, by decide, by decide, ?_⟩
  refine for_range (n := 0) (fun i σ H' => σ = [some (.ref a), some (.ref o), some (.int 1), some (.int 1), none, none, none] ∧ H' = H1) ⟨rfl, rfl⟩ (fun i σ H' hi => absurd hi (Nat.not_lt_zero _)) ?_
  rintro σ H' ⟨rfl, rfl⟩
  exact ⟨_, rfl, _, rfl, _, _, rfl, rfl, mulx_big (int_big (by decide)) (int_big (by decide)), q _ s2⟩
theorem ok_line_divided {P : Program} {w : World} {K : PySem.W.Frag}
    {mg : Str → Option Value} {base : Heap} (T : Top K mg) {CL CN CZ CT : Addr} (X : Exc K mg CL CN CZ CT)
    (C_check_lines : Cl P w K mg base (L2.CX P w) 4 "check_lines" s_check_lines ["line", "other"] (spChkV2 CL))
    (C_poly_divided : Cl P w K mg base CX0 1 "poly_divided" s_poly_divided ["one", "two"] (spPDiv0)) :
    Cl P w K mg base (L2.CX P w) 5 "line_divided" s_line_divided ["line", "other"] (spRZ CL CZ) := by
  refine T.d_line_divided.cl fun f fd F => body_X F S_line_divided (fun vs H Q E h => by obtain ⟨_, _, _, _, rfl, _⟩ := h; rfl) ?_
  intro cdv A out s H vs Q E hG hr h
  have tk := takes_of (X := cxOf (L2.CX P w) P w K mg base ["line", "other"] "line_divided" (defScope s_line_divided) f cdv A out s H E) rfl rfl rfl rfl
  have hx : Passes (L2.CX P w) (cxOf (L2.CX P w) P w K mg base ["line", "other"] "line_divided" (defScope s_line_divided) f cdv A out s H E) E := passes_call tk fun _ _ _ _ h => h
  obtain ⟨u, v, a, b, rfl, hu, hv, h⟩ := h
  refine ⟨_, (pss_cons (ps_expr (pe_u C_check_lines hG hr (by decide) (by rfl) hx (pa_cons (pv 0) (pa_cons (pv 1) pa_nil)))) (pss_cons (ps_if (pt_cmpR op_eq (pe_callB call_len_seq (by rfl) T.n_len PySem.boot_len (pa_cons (pv 1) pa_nil)) pe_int (nomark _)) (pss_one (ps_raise rfl tk (pmk_x0 PySem.F.excBase_RuntimeError X.zo X.zm X.zk (raises_own X.zs X.zt) (by rfl)))) pss_nil) (pss_one (ps_ret (pe_u C_poly_divided hG hr (by decide) (by rfl) pass0 (pa_cons (pv 0) (pa_cons (pv 1) pa_nil))))))), ?_⟩
  refine ⟨_, rfl, _, rfl, u, v, a, b, rfl, hu, hv, fun ha hb H1 s1 => ?_, fun ha => ?_, fun ha hb => ?_⟩
  · rcases h with ⟨z, _⟩ | ⟨_, z, _⟩ | ⟨_, _, ⟨j, m, rfl, hm⟩, r⟩ | ⟨_, _, k1, k2, r1, r2, d, rfl, rfl, h1, h2, hd, hl, r⟩
    · rw [z] at ha; cases ha
    · rw [z] at hb; cases hb
    · exact ⟨_, rfl, m, [], rfl, (SqJ (K := K) (same_sq s1 hm)).or, rfl, _, rfl, iteT (r H1 s1)⟩
    · refine ⟨_, rfl, r2, _, rfl, (h2.same s1).sq.or, rfl, _, rfl, ite2 (fun c => ?_) (fun c => ?_)⟩
      · have c2 : V.int ((d.map V.int).length : Int) = V.int 0 := of_decide_eq_true c
        have c := V.int.inj c2
        rw [List.length_map] at c
        exact absurd (List.length_eq_zero_iff.mp (by omega)) hd
      · exact ⟨_, rfl, _, rfl, k1, k2, r1, r2, d, rfl, h1.same s1, h2.same s1, hd, hl, fun r' G' s => r r' G' (s1.trans s)⟩
  · rcases h with ⟨_, r⟩ | ⟨z, _⟩ | ⟨z, _⟩ | ⟨z, _⟩
    · exact r
    · rw [z] at ha; cases ha
    · rw [z] at ha; cases ha
    · rw [z] at ha; cases ha
  · rcases h with ⟨z, _⟩ | ⟨_, _, r⟩ | ⟨_, z, _⟩ | ⟨_, z, _⟩
    · rw [z] at ha; cases ha
    · exact r
    · rw [z] at hb; cases hb
    · rw [z] at hb; cases hb
theorem ok_resultant {P : Program} {w : World} {K : PySem.W.Frag}
    {mg : Str → Option Value} {base : Heap} (T : Top K mg) {CL CN CZ CT : Addr} (X : Exc K mg CL CN CZ CT)
    (C_check_lines : Cl P w K mg base (L2.CX P w) 4 "check_lines" s_check_lines ["line", "other"] (spChkV2 CL))
    (C_determinant : Cl P w K mg base CX0 1 "determinant" s_determinant ["rows"] (spDet0))
    (C_sylvester : Cl P w K mg base CX0 1 "sylvester" s_sylvester ["one", "two", "nought"] (spSyl0)) :
    Cl P w K mg base (L2.CX P w) 5 "resultant" s_resultant ["line", "other"] (spRZ2 CL CZ) := by
  refine T.d_resultant.cl fun f fd F => body_X F S_resultant (fun vs H Q E h => by obtain ⟨_, _, _, _, rfl, _⟩ := h; rfl) ?_
  intro cdv A out s H vs Q E hG hr h
  have tk := takes_of (X := cxOf (L2.CX P w) P w K mg base ["line", "other"] "resultant" (defScope s_resultant) f cdv A out s H E) rfl rfl rfl rfl
  have hx : Passes (L2.CX P w) (cxOf (L2.CX P w) P w K mg base ["line", "other"] "resultant" (defScope s_resultant) f cdv A out s H E) E := passes_call tk fun _ _ _ _ h => h
  obtain ⟨u, v, a, b, rfl, hu, hv, h⟩ := h
  refine ⟨_, (pss_cons (ps_expr (pe_u C_check_lines hG hr (by decide) (by rfl) hx (pa_cons (pv 0) (pa_cons (pv 1) pa_nil)))) (pss_cons (ps_if (pw_or (pt_cmpR op_eq (pe_callB call_len_seq (by rfl) T.n_len PySem.boot_len (pa_cons (pv 0) pa_nil)) pe_int (nomark _)) (pw_or1 (pt_cmpR op_eq (pe_callB call_len_seq (by rfl) T.n_len PySem.boot_len (pa_cons (pv 1) pa_nil)) pe_int (nomark _)))).pt (pss_one (ps_raise rfl tk (pmk_x0 PySem.F.excBase_RuntimeError X.zo X.zm X.zk (raises_own X.zs X.zt) (by rfl)))) pss_nil) (pss_one (ps_ret (pe_u C_determinant hG hr (by decide) (by rfl) pass0 (pa_cons (pe_u C_sylvester hG hr (by decide) (by rfl) pass0 (pa_cons (pv 0) (pa_cons (pv 1) (pa_cons pe_int pa_nil)))) pa_nil)))))), ?_⟩
  refine ⟨_, rfl, _, rfl, u, v, a, b, rfl, hu, hv, fun ha hb H1 s1 => ?_, fun ha => ?_, fun ha hb => ?_⟩
  · rcases h with ⟨z, _⟩ | ⟨_, z, _⟩ | ⟨_, _, k, r⟩ | ⟨_, _, r1, r2, x, y, rfl, rfl, h1, h2, r⟩
    · rw [z] at ha; cases ha
    · rw [z] at hb; cases hb
    · rcases k with ⟨j, m, rfl, hm⟩ | ⟨⟨j, m, rfl, hm⟩, j', m', xs, rfl, hm'⟩
      · exact ⟨_, rfl, m, [], rfl, (SqJ (K := K) (same_sq s1 hm)).or, rfl, _, rfl, iteT (iteT (r H1 s1))⟩
      · refine ⟨_, rfl, m', xs, rfl, (SqJ (K := K) (same_sq s1 hm')).or, rfl, _, rfl, ite2 (fun c => iteT (r H1 s1)) (fun c => ?_)⟩
        exact ⟨_, rfl, m, [], rfl, (SqJ (K := K) (same_sq s1 hm)).or, rfl, _, rfl, iteT (r H1 s1)⟩
    · refine ⟨_, rfl, r1, _, rfl, .inl (SqL.of (s1 _ _ h1)), rfl, _, rfl, iteF ?_⟩
      refine ⟨_, rfl, r2, _, rfl, .inl (SqL.of (s1 _ _ h2)), rfl, _, rfl, iteF ?_⟩
      refine ⟨_, rfl, _, rfl, r1, r2, x, y, rfl, s1 _ _ h1, s1 _ _ h2, fun m G' s e => ?_⟩
      exact ⟨m, rfl, e, fun G2 s2 => r G2 (s1.trans (s.trans s2))⟩
  · rcases h with ⟨_, r⟩ | ⟨z, _⟩ | ⟨z, _⟩ | ⟨z, _⟩
    · exact r
    · rw [z] at ha; cases ha
    · rw [z] at ha; cases ha
    · rw [z] at ha; cases ha
  · rcases h with ⟨z, _⟩ | ⟨_, _, r⟩ | ⟨_, z, _⟩ | ⟨_, z, _⟩
    · rw [z] at ha; cases ha
    · exact r
    · rw [z] at hb; cases hb
    · rw [z] at hb; cases hb
theorem ok__law_heard {P : Program} {w : World} {K : PySem.W.Frag}
    {mg : Str → Option Value} {base : Heap} (T : Top K mg) {CL CN CZ CT : Addr} (X : Exc K mg CL CN CZ CT) :
    Cl P w K mg base CX0 8 "_law_heard" s__law_heard ["_law_call"] (spHeard P w K mg base CL CN CZ CT 7) := by
  refine T.d__law_heard.cl fun f fd F => body_0 F S__law_heard (fun vs H Q E h => by obtain ⟨_, _, rfl, _⟩ := h; rfl) ?_
  intro cdv A out s H vs Q E hG hr h
  obtain ⟨f0, sp, rfl, ac, q⟩ := h
  obtain ⟨aE, mE, kLE, kNE⟩ := X.cE
  obtain ⟨aS, mS, kZS⟩ := X.cS
  obtain ⟨aM, mM, kTM⟩ := X.cM
  have hu := hu64 hr
  refine ⟨_, (pss_cons (ps_tries rfl rfl S__law_heard.nd takes_none5 (fun W qn xe tk _ => (pss_one (ps_expr (show PE _ _ (tAct P w K mg base 7 0 (WE W)) from pe_act (k := 7) (i := 0) (E := WE W) (fun τ => passAt tk τ) hG hr (by decide) rfl (Or.inl rfl)))))
      (.named (i := 1) rfl rfl ⟨by rfl, by decide, .inl X.vl.m⟩ (fun a oe cls d qn hz hf => (pss_one (ps_ret (pe_lst (pa_cons pe_str (pa_cons (pe_callB (call_shownK (K := K) rfl hG hu) (by rfl) T.n_repr (by decide +kernel) (pa_cons (pe_xf X.xfL X.vL hz hf (pv 1)) pa_nil)) (pa_cons (pe_and (pe_callB (call_isX hz hf) (by rfl) T.n_isinstance (by decide +kernel) (pa_cons (pv 1) (pa_cons (pe_glob (v := .ref aE) (by rfl) mE rfl) pa_nil))) (pe_one (pe_callB (call_isX hz hf) (by rfl) T.n_isinstance (by decide +kernel) (pa_cons (pv 1) (pa_cons (pe_bltn (v := .ty "ValueError") (u := .type "ValueError") (by rfl) T.n_ValueError (by decide +kernel) rfl) pa_nil))))) pa_nil)))))))
      (.named (i := 1) rfl rfl ⟨by rfl, by decide, .inl X.vn.m⟩ (fun a oe cls d qn hz hf => (pss_one (ps_ret (pe_lst (pa_cons pe_str (pa_cons (pe_callB (call_shownK (K := K) rfl hG hu) (by rfl) T.n_repr (by decide +kernel) (pa_cons (pe_xf X.xfN X.vN hz hf (pv 1)) pa_nil)) (pa_cons (pe_callB (call_isX hz hf) (by rfl) T.n_isinstance (by decide +kernel) (pa_cons (pv 1) (pa_cons (pe_glob (v := .ref aE) (by rfl) mE rfl) pa_nil))) pa_nil)))))))
      (.named (i := 1) rfl rfl ⟨by rfl, by decide, .inl X.zm⟩ (fun a oe cls d qn hz hf => (pss_one (ps_ret (pe_lst (pa_cons pe_str (pa_cons (pe_callB (call_isX hz hf) (by rfl) T.n_isinstance (by decide +kernel) (pa_cons (pv 1) (pa_cons (pe_glob (v := .ref aS) (by rfl) mS rfl) pa_nil))) pa_nil))))))
      (.named (i := 1) rfl rfl ⟨by rfl, by decide, .inl X.vt.m⟩ (fun a oe cls d qn hz hf => (pss_one (ps_ret (pe_lst (pa_cons (pe_xf X.xfT X.vW hz hf (pv 1)) (pa_cons (pe_xf X.xfT X.vM hz hf (pv 1)) (pa_cons (pe_callB (call_isX hz hf) (by rfl) T.n_isinstance (by decide +kernel) (pa_cons (pv 1) (pa_cons (pe_glob (v := .ref aM) (by rfl) mM rfl) pa_nil))) pa_nil)))))))
      .none)))))
    (pss_one (ps_ret (pe_lst (pa_cons pe_str pa_nil))))), ?_⟩
  have sz : ∀ {n : Nat}, n ≤ 1000 → n ≤ sizeLine := fun h => Nat.le_of_lt (small1000 h)
  refine ⟨f0, sp, rfl, ac, ?_⟩
  rcases q with ⟨v, t, r, hv, q⟩ | ⟨v, t, r, hv, q⟩ | ⟨r, q⟩ | ⟨u, v, r, q⟩ | ⟨r, q⟩
  · refine r _ _ _ (Same.refl _) fun d G' s1 nd e => ?_
    refine ⟨true, X.eLL, fun _ a na => ?_, fun z => by cases z⟩
    refine ⟨_, rfl, rfl, rfl, d, _, v, rfl, e, rfl, v, t, rfl, hv.same s1, ?_⟩
    refine ⟨_, rfl, CL, _, _, true, rfl, X.xqL, rfl, (fun u h => h), kLE, (fun dd ed => by cases ed; exact ⟨_, e⟩), ⟨true, rfl, ?_⟩⟩
    refine ⟨_, rfl, CL, _, _, true, rfl, X.xqL, rfl, (fun u h => h), X.cV, (fun dd ed => by cases ed; exact ⟨_, e⟩), ?_⟩
    exact ⟨sz (by decide : 3 ≤ 1000), fun l nl => q l _ (s1.trans (Same.put nl)) (s1.free nl) upd_same⟩
  · refine r _ _ _ (Same.refl _) fun d G' s1 nd e => ?_
    refine ⟨false, X.eNL, (fun z => by cases z), fun _ => ⟨true, X.eNN, fun _ a na => ?_, fun z => by cases z⟩⟩
    refine ⟨_, rfl, rfl, rfl, d, _, v, rfl, e, rfl, v, t, rfl, hv.same s1, ?_⟩
    refine ⟨_, rfl, CN, _, _, true, rfl, X.xqN, rfl, (fun u h => h), kNE, (fun dd ed => by cases ed; exact ⟨_, e⟩), ?_⟩
    exact ⟨sz (by decide : 3 ≤ 1000), fun l nl => q l _ (s1.trans (Same.put nl)) (s1.free nl) upd_same⟩
  · refine r _ _ _ (Same.refl _) fun G' s1 => ?_
    refine ⟨false, X.eZL, (fun z => by cases z), fun _ => ⟨false, X.eZN, (fun z => by cases z), fun _ => ⟨true, X.eZZ, fun _ a na => ?_, fun z => by cases z⟩⟩⟩
    refine ⟨_, rfl, CZ, _, _, true, rfl, X.xqZ, rfl, (fun u h => h), kZS, (fun dd ed => by cases ed), ?_⟩
    exact ⟨sz (by decide : 2 ≤ 1000), fun l nl => q l _ (s1.trans (Same.put nl)) (s1.free nl) upd_same⟩
  · refine r _ _ _ (Same.refl _) fun d G' s1 nd e => ?_
    refine ⟨false, X.eTL, (fun z => by cases z), fun _ => ⟨false, X.eTN, (fun z => by cases z), fun _ => ⟨false, X.eTZ, (fun z => by cases z), fun _ => ⟨true, X.eTT, fun _ a na => ?_, fun z => by cases z⟩⟩⟩⟩
    refine ⟨_, rfl, rfl, rfl, d, _, u, rfl, e, rfl, _, rfl, rfl, rfl, d, _, v, rfl, e, rfl, ?_⟩
    refine ⟨_, rfl, CT, _, _, true, rfl, X.xqT, rfl, (fun u h => h), kTM, (fun dd ed => by cases ed; exact ⟨_, e⟩), ?_⟩
    exact ⟨sz (by decide : 3 ≤ 1000), fun l nl => q l _ (s1.trans (Same.put nl)) (s1.free nl) upd_same⟩
  · refine r _ _ _ (Same.refl _) fun v G' s1 => ?_
    refine ⟨sz (by decide : 1 ≤ 1000), fun l nl => ?_⟩
    exact q l _ (s1.trans (Same.put nl)) (s1.free nl) upd_same
theorem ok__law_are {P : Program} {w : World} {K : PySem.W.Frag}
    {mg : Str → Option Value} {base : Heap} (T : Top K mg) {CL CN CZ CT : Addr} (X : Exc K mg CL CN CZ CT)
    (C__law_heard : Cl P w K mg base CX0 8 "_law_heard" s__law_heard ["_law_call"] (spHeard P w K mg base CL CN CZ CT 7)) :
    Cl P w K mg base CX0 9 "_law_are" s__law_are ["_law_calls", "_law_due"] (spAre P w K mg base CL CN CZ CT 7) := by
  refine T.d__law_are.cl fun f fd F => body_0 F S__law_are (fun vs H Q E h => by obtain ⟨_, _, _, _, rfl, _⟩ := h; rfl) ?_
  intro cdv A out s H vs Q E hG hr h
  obtain ⟨l, dl, fs, es, rfl, el, ed, ⟨ds, hds, sh, ev⟩, hf, q⟩ := h
  refine ⟨_, (pss_one (ps_ret (pe_cmpR (op_eqD (hu64 hr)) (pe_lc (own := [("_law_call", 2)]) (g := gName 2) (tt := _) rfl S__law_are.nd (pi_list (pv 0)) (blkOk_by (N := ["_law_calls", "_law_due", "_law_call"]) (sc := defScope s__law_are) (by decide +kernel)) (fun _ _ _ _ _ => (pg_name (i := 2) S__law_are.nd rfl (Or.inl rfl))) (fun _ _ _ _ _ => (pts_one (pt_cmpR (op_neDK (K := K) rfl (hu64 hr)) (pe_u C__law_heard hG hr (by decide) (by rfl) pass0 (pa_cons (pv 2) pa_nil)) (pv 1) (nomark _)))) (fun _ _ _ _ _ => (pv 2))) (pe_lst pa_nil) (nomark _)))), ?_⟩
  have sz : ∀ {n : Nat}, n ≤ 1000 → n ≤ sizeLine := fun h => Nat.le_of_lt (small1000 h)
  refine ⟨_, rfl, l, rfl, ⟨_, SqL.of el⟩, fun D nD => ?_⟩
  refine lc_list (K := K) (xs := fs.map V.ref) (fun i H' => Same H H' ∧ H' D = some (.lst [])) ⟨Same.put nD, upd_same⟩ (fun i H' _ z => SqL.of (z.1 _ _ el)) ?_ ?_
  · rintro i x H' hx ⟨s1, eD⟩
    obtain ⟨f0, fm, rfl⟩ := List.mem_map.mp (List.mem_of_getElem? hx)
    obtain ⟨sp, ac, hear⟩ := hf f0 fm
    refine ⟨rfl, ?_⟩
    refine ⟨_, rfl, f0, sp, rfl, ac.same s1, hear _ _ s1 fun r H1 s2 nr er => ?_⟩
    have s3 := s1.trans s2
    refine ⟨_, rfl, .list ds, .list ds, .lst (SqL.of er) (hds _), .lst (SqL.of (s3 _ _ ed)) (hds _), sh, sh, ?_⟩
    rw [ev]
    exact ⟨false, rfl, s3, s2 _ _ eD⟩
  rintro H1 ⟨s1, eD⟩
  refine ⟨sz (by decide : 0 ≤ 1000), fun e ne => ?_⟩
  refine ⟨.list [], .list [], .lst (SqL.of (Same.put ne _ _ eD)) .nil, .lst (SqL.of upd_same) .nil, by decide, by decide, ?_⟩
  exact q _ (s1.trans (Same.put ne))
def same1 {α : Type} : List α → List α
  | [x] => [x]
  | _ => []
theorem same1_rel : ∀ {zs : List V} {ws : List Value}, Vals zs ws → Vals (same1 zs) (same1 ws)
  | _, _, .nil => .nil
  | _, _, .cons r1 .nil => .cons r1 .nil
  | _, _, .cons _ (.cons _ _) => .nil
def turn2 {α : Type} : List α → List α
  | [x, y] => [y, x]
  | _ => []
theorem turn2_rel : ∀ {zs : List V} {ws : List Value}, Vals zs ws → Vals (turn2 zs) (turn2 ws)
  | _, _, .nil => .nil
  | _, _, .cons _ .nil => .nil
  | _, _, .cons r1 (.cons r2 .nil) => .cons r2 (.cons r1 .nil)
  | _, _, .cons _ (.cons _ (.cons _ _)) => .nil
theorem kw_line_value_number_line {K : PySem.W.Frag} {f : Addr} {fd : FuncData} (F : Fun K "line_value" "line_value" s_line_value f fd) :
    KwB K fd ["line", "number"] ["number", "line"] turn2 turn2 := by
  obtain ⟨oc, od, kV, doc, pm, an, cdv, ct, osl, rfl, _, _⟩ := F.ex
  exact ⟨fun s ws _ hl => match ws, hl with | [a, b], _ => .of_eq rfl, turn2_rel⟩
theorem kw_greatest_other_number {K : PySem.W.Frag} {f : Addr} {fd : FuncData} (F : Fun K "greatest" "greatest" s_greatest f fd) :
    KwB K fd ["number", "other"] ["other", "number"] turn2 turn2 := by
  obtain ⟨oc, od, kV, doc, pm, an, cdv, ct, osl, rfl, _, _⟩ := F.ex
  exact ⟨fun s ws _ hl => match ws, hl with | [a, b], _ => .of_eq rfl, turn2_rel⟩
theorem kw_line_slope_line {K : PySem.W.Frag} {f : Addr} {fd : FuncData} (F : Fun K "line_slope" "line_slope" s_line_slope f fd) :
    KwB K fd ["line"] ["line"] same1 same1 := by
  obtain ⟨oc, od, kV, doc, pm, an, cdv, ct, osl, rfl, _, _⟩ := F.ex
  exact ⟨fun s ws _ hl => match ws, hl with | [a], _ => .of_eq rfl, same1_rel⟩
theorem kw_line_sum_other_line {K : PySem.W.Frag} {f : Addr} {fd : FuncData} (F : Fun K "line_sum" "line_sum" s_line_sum f fd) :
    KwB K fd ["line", "other"] ["other", "line"] turn2 turn2 := by
  obtain ⟨oc, od, kV, doc, pm, an, cdv, ct, osl, rfl, _, _⟩ := F.ex
  exact ⟨fun s ws _ hl => match ws, hl with | [a, b], _ => .of_eq rfl, turn2_rel⟩
theorem kw_whole_roots_line {K : PySem.W.Frag} {f : Addr} {fd : FuncData} (F : Fun K "whole_roots" "whole_roots" s_whole_roots f fd) :
    KwB K fd ["line"] ["line"] same1 same1 := by
  obtain ⟨oc, od, kV, doc, pm, an, cdv, ct, osl, rfl, _, _⟩ := F.ex
  exact ⟨fun s ws _ hl => match ws, hl with | [a], _ => .of_eq rfl, same1_rel⟩
theorem kw_line_times_other_line {K : PySem.W.Frag} {f : Addr} {fd : FuncData} (F : Fun K "line_times" "line_times" s_line_times f fd) :
    KwB K fd ["line", "other"] ["other", "line"] turn2 turn2 := by
  obtain ⟨oc, od, kV, doc, pm, an, cdv, ct, osl, rfl, _, _⟩ := F.ex
  exact ⟨fun s ws _ hl => match ws, hl with | [a, b], _ => .of_eq rfl, turn2_rel⟩
def behind {α : Type} : List α → List α → List α
  | [x], [y] => [x, y]
  | _, _ => []
theorem behind_rel : ∀ {vs zs : List V} {us ws : List Value}, Vals vs us → Vals zs ws → Vals (behind vs zs) (behind us ws)
  | _, _, _, _, .nil, _ => .nil
  | _, _, _, _, .cons _ .nil, .nil => .nil
  | _, _, _, _, .cons r1 .nil, .cons r2 .nil => .cons r1 (.cons r2 .nil)
  | _, _, _, _, .cons _ .nil, .cons _ (.cons _ _) => .nil
  | _, _, _, _, .cons _ (.cons _ _), _ => .nil
theorem mx_line_common_other {K : PySem.W.Frag} {f : Addr} {fd : FuncData} (F : Fun K "line_common" "line_common" s_line_common f fd) :
    MixB K fd ["line", "other"] 1 ["other"] behind behind := by
  obtain ⟨oc, od, kV, doc, pm, an, cdv, ct, osl, rfl, _, _⟩ := F.ex
  exact ⟨fun s us ws _ h1 h2 => match us, ws, h1, h2 with | [a], [b], _, _ => .of_eq rfl, behind_rel⟩
theorem kw_line_divided_other_line {K : PySem.W.Frag} {f : Addr} {fd : FuncData} (F : Fun K "line_divided" "line_divided" s_line_divided f fd) :
    KwB K fd ["line", "other"] ["other", "line"] turn2 turn2 := by
  obtain ⟨oc, od, kV, doc, pm, an, cdv, ct, osl, rfl, _, _⟩ := F.ex
  exact ⟨fun s ws _ hl => match ws, hl with | [a, b], _ => .of_eq rfl, turn2_rel⟩
abbrev sNum : Stmt := topS 64
abbrev lNum (i : Nat) : Expr := lamOf (stAt sNum i)
abbrev rd_Num_0 (CL CN CZ CT : Addr) (u_law_line u_law_odd : V) : Hp → VK → XK → Prop := fun G Q E => (tCall (spRV CL CN) [] E (tCons (tVar 0) (tCons (tVar 1) tNil))) (NdefX.startF ["_law_line", "_law_odd"] [] [some u_law_line, some u_law_odd]) G Q
theorem lam_Num_0 {P : Program} {w : World} {K : PySem.W.Frag} {mg : Str → Option Value} {base : Heap} {CL CN CZ CT : Addr} (C_line_value : Cl P w K mg base (L2.CX P w) 4 "line_value" s_line_value ["line", "number"] (spRV CL CN)) {f d : Addr} {q : Str} {cl : List (Str × Addr)} {u_law_line u_law_odd : V} :
    LOk P w K mg base (L2.CX P w) 7 f ⟨q, lamArgs (lNum 0), lamBody (lNum 0), lamScope (lNum 0), cl, d⟩ ["_law_line", "_law_odd"] [some u_law_line, some u_law_odd] (rd_Num_0 CL CN CZ CT u_law_line u_law_odd) := by
  refine lok_of (N := ["_law_line", "_law_odd"]) (NdefX.nscope_by (show NdefX.nscB ["_law_line", "_law_odd"] [] ["_law_line", "_law_odd"] (lamScope (lNum 0)) = true by decide +kernel)) (fun _ _ => rfl) ?_
  intro A below S G Q E hG hr hl z
  have tk := takes_of (X := NdefX.ncx (L2.CX P w) P w K mg base ["_law_line", "_law_odd"] (LF.nf ⟨q, lamArgs (lNum 0), lamBody (lNum 0), lamScope (lNum 0), cl, d⟩) f A below S G E) rfl rfl rfl rfl
  have hx : Passes (L2.CX P w) (NdefX.ncx (L2.CX P w) P w K mg base ["_law_line", "_law_odd"] (LF.nf ⟨q, lamArgs (lNum 0), lamBody (lNum 0), lamScope (lNum 0), cl, d⟩) f A below S G E) E := passes_call tk fun _ _ _ _ h => h
  exact ⟨_, (pe_u C_line_value hG hr (by decide) (by rfl) hx (pa_cons (pe_var (i := 0) rfl (Or.inr (Or.inr rfl))) (pa_cons (pe_var (i := 1) rfl (Or.inr (Or.inr rfl))) pa_nil))), z⟩
abbrev rd_Num_1 (CL CN CZ CT : Addr) (u_law_odd : V) : Hp → VK → XK → Prop := fun G Q E => (tCallU (spRV CL CN) turn2 E (tCons (tVar 0) (tCons (tLst tNil) tNil))) (NdefX.startF ["_law_odd"] [] [some u_law_odd]) G Q
theorem lam_Num_1 {P : Program} {w : World} {K : PySem.W.Frag} {mg : Str → Option Value} {base : Heap} {CL CN CZ CT : Addr} (C_line_value : Cl P w K mg base (L2.CX P w) 4 "line_value" s_line_value ["line", "number"] (spRV CL CN)) {f d : Addr} {q : Str} {cl : List (Str × Addr)} {u_law_odd : V} :
    LOk P w K mg base (L2.CX P w) 7 f ⟨q, lamArgs (lNum 1), lamBody (lNum 1), lamScope (lNum 1), cl, d⟩ ["_law_odd"] [some u_law_odd] (rd_Num_1 CL CN CZ CT u_law_odd) := by
  refine lok_of (N := ["_law_odd"]) (NdefX.nscope_by (show NdefX.nscB ["_law_odd"] [] ["_law_odd"] (lamScope (lNum 1)) = true by decide +kernel)) (fun _ _ => rfl) ?_
  intro A below S G Q E hG hr hl z
  have tk := takes_of (X := NdefX.ncx (L2.CX P w) P w K mg base ["_law_odd"] (LF.nf ⟨q, lamArgs (lNum 1), lamBody (lNum 1), lamScope (lNum 1), cl, d⟩) f A below S G E) rfl rfl rfl rfl
  have hx : Passes (L2.CX P w) (NdefX.ncx (L2.CX P w) P w K mg base ["_law_odd"] (LF.nf ⟨q, lamArgs (lNum 1), lamBody (lNum 1), lamScope (lNum 1), cl, d⟩) f A below S G E) E := passes_call tk fun _ _ _ _ h => h
  exact ⟨_, (pe_uk C_line_value kw_line_value_number_line hG hr (by decide) (by rfl) hx (pk_cons (pe_var (i := 0) rfl (Or.inr (Or.inr rfl))) (pk_cons (pe_lst pa_nil) pk_nil))), z⟩
abbrev rd_Num_2 (CL CN CZ CT : Addr) (u_law_odd : V) : Hp → VK → XK → Prop := fun G Q E => (tCall (spRN CN) [] E (tCons (tVar 0) (tCons (tC .non) tNil))) (NdefX.startF ["_law_odd"] [] [some u_law_odd]) G Q
theorem lam_Num_2 {P : Program} {w : World} {K : PySem.W.Frag} {mg : Str → Option Value} {base : Heap} {CL CN CZ CT : Addr} (C_greatest : Cl P w K mg base (L2.CX P w) 4 "greatest" s_greatest ["number", "other"] (spRN CN)) {f d : Addr} {q : Str} {cl : List (Str × Addr)} {u_law_odd : V} :
    LOk P w K mg base (L2.CX P w) 7 f ⟨q, lamArgs (lNum 2), lamBody (lNum 2), lamScope (lNum 2), cl, d⟩ ["_law_odd"] [some u_law_odd] (rd_Num_2 CL CN CZ CT u_law_odd) := by
  refine lok_of (N := ["_law_odd"]) (NdefX.nscope_by (show NdefX.nscB ["_law_odd"] [] ["_law_odd"] (lamScope (lNum 2)) = true by decide +kernel)) (fun _ _ => rfl) ?_
  intro A below S G Q E hG hr hl z
  have tk := takes_of (X := NdefX.ncx (L2.CX P w) P w K mg base ["_law_odd"] (LF.nf ⟨q, lamArgs (lNum 2), lamBody (lNum 2), lamScope (lNum 2), cl, d⟩) f A below S G E) rfl rfl rfl rfl
  have hx : Passes (L2.CX P w) (NdefX.ncx (L2.CX P w) P w K mg base ["_law_odd"] (LF.nf ⟨q, lamArgs (lNum 2), lamBody (lNum 2), lamScope (lNum 2), cl, d⟩) f A below S G E) E := passes_call tk fun _ _ _ _ h => h
  exact ⟨_, (pe_u C_greatest hG hr (by decide) (by rfl) hx (pa_cons (pe_var (i := 0) rfl (Or.inr (Or.inr rfl))) (pa_cons pe_non pa_nil))), z⟩
abbrev rd_Num_3 (CL CN CZ CT : Addr) (u_law_odd : V) : Hp → VK → XK → Prop := fun G Q E => (tCallU (spRN CN) turn2 E (tCons (tVar 0) (tCons (tC (.int 4)) tNil))) (NdefX.startF ["_law_odd"] [] [some u_law_odd]) G Q
theorem lam_Num_3 {P : Program} {w : World} {K : PySem.W.Frag} {mg : Str → Option Value} {base : Heap} {CL CN CZ CT : Addr} (C_greatest : Cl P w K mg base (L2.CX P w) 4 "greatest" s_greatest ["number", "other"] (spRN CN)) {f d : Addr} {q : Str} {cl : List (Str × Addr)} {u_law_odd : V} :
    LOk P w K mg base (L2.CX P w) 7 f ⟨q, lamArgs (lNum 3), lamBody (lNum 3), lamScope (lNum 3), cl, d⟩ ["_law_odd"] [some u_law_odd] (rd_Num_3 CL CN CZ CT u_law_odd) := by
  refine lok_of (N := ["_law_odd"]) (NdefX.nscope_by (show NdefX.nscB ["_law_odd"] [] ["_law_odd"] (lamScope (lNum 3)) = true by decide +kernel)) (fun _ _ => rfl) ?_
  intro A below S G Q E hG hr hl z
  have tk := takes_of (X := NdefX.ncx (L2.CX P w) P w K mg base ["_law_odd"] (LF.nf ⟨q, lamArgs (lNum 3), lamBody (lNum 3), lamScope (lNum 3), cl, d⟩) f A below S G E) rfl rfl rfl rfl
  have hx : Passes (L2.CX P w) (NdefX.ncx (L2.CX P w) P w K mg base ["_law_odd"] (LF.nf ⟨q, lamArgs (lNum 3), lamBody (lNum 3), lamScope (lNum 3), cl, d⟩) f A below S G E) E := passes_call tk fun _ _ _ _ h => h
  exact ⟨_, (pe_uk C_greatest kw_greatest_other_number hG hr (by decide) (by rfl) hx (pk_cons (pe_var (i := 0) rfl (Or.inr (Or.inr rfl))) (pk_cons pe_int pk_nil))), z⟩
theorem S__law_numbers_right : FnScope ["_law_odd", "_law_line", "_law_calls"] ["_law_odd", "_law_line"] (defScope sNum) :=
  ⟨rfl, rfl, rfl, by decide +kernel, rfl, by decide +kernel, by decide +kernel⟩
abbrev qNum : Str := "_law_numbers_right" ++ ".<locals>." ++ "<lambda>"
/-- the refused number, a line, what the number is shown as -/
def spNumR (K : PySem.W.Frag) (T : List (Addr × Str)) : Sp := fun vs G Q _ => ∃ (v u : V) (t : Str), vs = [v, u] ∧ PyData.strOk t = true ∧ IsN (noT G) v false ∧ Sh K (noT G) v t ∧ Val (noT G) u true ∧ LamX.Tabs T G ∧
  ∀ G', LamX.ExtN G G' → LamX.Tabs T G' → Q (.bl true) G'
theorem ok__law_numbers_right {P : Program} {w : World} {K : PySem.W.Frag} {mg : Str → Option Value} {base : Heap} (T : Top K mg) {CL CN CZ CT : Addr} (X : Exc K mg CL CN CZ CT) {TT : List (Addr × Str)} {c Pt : Addr}
    (D : DfC K mg "_law_numbers_right" sNum ["_law_odd", "_law_line"] c) (B : LamX.TabB base mg c Pt) (mem : (Pt, qNum) ∈ TT) (own : ∀ p ∈ TT, p.1 = Pt → p.2 = qNum)
    (C_line_value : Cl P w K mg base (L2.CX P w) 4 "line_value" s_line_value ["line", "number"] (spRV CL CN)) (C_greatest : Cl P w K mg base (L2.CX P w) 4 "greatest" s_greatest ["number", "other"] (spRN CN))
    (C__law_are : Cl P w K mg base CX0 9 "_law_are" s__law_are ["_law_calls", "_law_due"] (spAre P w K mg base CL CN CZ CT 7)) :
    Cl P w K mg base CX0 10 "_law_numbers_right" sNum ["_law_odd", "_law_line"] (spNumR K TT) := by
  refine D.cl S__law_numbers_right (fun vs H Q E h => by obtain ⟨_, _, _, rfl, _⟩ := h; rfl) ?_
  rintro f A out s H vs Q E hG hr ⟨v, u, t, rfl, hok, hv, hs, hl, tt, q⟩
  refine ⟨_, (PSs.nox (pss_cons (ps_set (i := 2) S__law_numbers_right.nd rfl (Or.inl rfl) (pe_lst (pa_cons (pe_lam B rfl mem own rfl (LamX.lamS_by (show LamX.lamSB (defScope sNum) (lamScope (lNum 0)) = true by decide +kernel))) pa_nil)))
    (pss_cons (ps_expr (pe_bm PySem.F.plainAttrs_list PySem.F.slot_list_append PySem.F.type_list_append mt_append (pv 2) (pa_cons (pe_lam B rfl mem own rfl (LamX.lamS_by (show LamX.lamSB (defScope sNum) (lamScope (lNum 1)) = true by decide +kernel))) pa_nil)))
    (pss_cons (ps_expr (pe_bm PySem.F.plainAttrs_list PySem.F.slot_list_append PySem.F.type_list_append mt_append (pv 2) (pa_cons (pe_lam B rfl mem own rfl (LamX.lamS_by (show LamX.lamSB (defScope sNum) (lamScope (lNum 2)) = true by decide +kernel))) pa_nil)))
    (pss_cons (ps_expr (pe_bm PySem.F.plainAttrs_list PySem.F.slot_list_append PySem.F.type_list_append mt_append (pv 2) (pa_cons (pe_lam B rfl mem own rfl (LamX.lamS_by (show LamX.lamSB (defScope sNum) (lamScope (lNum 3)) = true by decide +kernel))) pa_nil)))
    (pss_one (ps_ret (pe_over (caps := [("_law_odd", 0), ("_law_line", 1)]) C__law_are (fun _ => rfl) (fun y i m => by simp only [List.mem_cons, Prod.mk.injEq, List.not_mem_nil, or_false] at m; rcases m with ⟨rfl, rfl⟩ | ⟨rfl, rfl⟩ <;> exact ⟨rfl, .inl rfl⟩) hG hr (by decide) (by rfl) (pa_cons (pv 2) (pa_cons (pe_lst (pa_cons pe_str (pa_cons (pe_callB (call_shown hG (hu64 hr)) (by rfl) T.n_repr (by decide +kernel) (pa_cons (pv 0) pa_nil)) (pa_cons pe_bl pa_nil)))) pa_nil)))))))))), ?_⟩
  have sz : ∀ {n : Nat}, n ≤ 1000 → n ≤ sizeLine := fun h => Nat.le_of_lt (small1000 h)
  refine ⟨tt, fun f0 d0 G0 x0 n0 t0 _ ef0 ed0 => ⟨sz (by decide : 1 ≤ 1000), fun l nl => ?_⟩⟩
  have L0 := Lams.first (T := TT) x0 n0 t0 ef0 ed0 nl
  generalize upd G0 l (.lst [.ref f0]) = K0 at L0 ⊢
  clear x0 n0 t0 ef0 ed0 nl
  refine ⟨_, rfl, .inl ⟨rfl, _, SqL.of L0.lst⟩, L0.tab, fun f1 d1 G1 x1 n1 t1 _ ef1 ed1 => ?_⟩
  obtain ⟨el1, L1⟩ := L0.more x1 t1 ef1 ed1
  refine ⟨l, _, _, rfl, rfl, el1, sz (by decide : 2 ≤ 1000), ?_⟩
  change Ends.nx _ _ (upd G1 l (.lst ([V.ref f0] ++ [V.ref f1])))
  change Lams TT H l _ (upd G1 l (.lst ([V.ref f0] ++ [V.ref f1]))) at L1
  generalize upd G1 l (.lst ([V.ref f0] ++ [V.ref f1])) = K1 at L1 ⊢
  clear x1 t1 ef1 ed1 el1 L0
  refine ⟨_, rfl, .inl ⟨rfl, _, SqL.of L1.lst⟩, L1.tab, fun f2 d2 G2 x2 n2 t2 _ ef2 ed2 => ?_⟩
  obtain ⟨el2, L2⟩ := L1.more x2 t2 ef2 ed2
  refine ⟨l, _, _, rfl, rfl, el2, sz (by decide : 3 ≤ 1000), ?_⟩
  change Ends.nx _ _ (upd G2 l (.lst ([V.ref f0, .ref f1] ++ [V.ref f2])))
  change Lams TT H l _ (upd G2 l (.lst ([V.ref f0, .ref f1] ++ [V.ref f2]))) at L2
  generalize upd G2 l (.lst ([V.ref f0, .ref f1] ++ [V.ref f2])) = K2 at L2 ⊢
  clear x2 t2 ef2 ed2 el2 L1
  refine ⟨_, rfl, .inl ⟨rfl, _, SqL.of L2.lst⟩, L2.tab, fun f3 d3 G3 x3 n3 t3 _ ef3 ed3 => ?_⟩
  obtain ⟨el3, L3⟩ := L2.more x3 t3 ef3 ed3
  refine ⟨l, _, _, rfl, rfl, el3, sz (by decide : 4 ≤ 1000), ?_⟩
  change Ends.nx _ _ (upd G3 l (.lst ([V.ref f0, .ref f1, .ref f2] ++ [V.ref f3])))
  change Lams TT H l _ (upd G3 l (.lst ([V.ref f0, .ref f1, .ref f2] ++ [V.ref f3]))) at L3
  generalize upd G3 l (.lst ([V.ref f0, .ref f1, .ref f2] ++ [V.ref f3])) = K3 at L3 ⊢
  clear x3 t3 ef3 ed3 el3 L2
  have S0 : Same (noT H) K3 := ext_same L3.ext
  refine ⟨_, rfl, _, rfl, v, t, rfl, hs.same S0, sz (by decide : 3 ≤ 1000), fun dl ndl ov hov => ?_⟩
  have S1 : Same K3 (upd K3 dl (.lst [.str "number", .str t, .bl true])) := Same.put ndl
  have edl : upd K3 dl (.lst [.str "number", .str t, .bl true]) dl = some (.lst [.str "number", .str t, .bl true]) := upd_same
  have tab4 : LamX.Tabs TT (upd K3 dl (.lst [.str "number", .str t, .bl true])) := tabs_put L3.tab (.inl ndl)
  generalize upd K3 dl (.lst [.str "number", .str t, .bl true]) = G at S1 edl tab4 hov ⊢
  have SL : Same G (lay ov G) := lay_keeps hov.new
  have S2 : Same (noT H) G := S0.trans S1
  obtain ⟨kd, hvk, hve⟩ := hv
  have zc : ∀ {names : List (Str × NameKind)}, (∀ y ∈ names, y.2 = .free → ∃ d, (cxOf CX0 P w K mg base ["_law_odd", "_law_line", "_law_calls"] "_law_numbers_right" (defScope sNum) f (.ref c) A out s H E).env.cells.lookup y.1 = some d) →
      ∀ y b, (cloFrom (cxOf CX0 P w K mg base ["_law_odd", "_law_line", "_law_calls"] "_law_numbers_right" (defScope sNum) f (.ref c) A out s H E).env.cells names []).lookup y = some b → G b = none := fun hf y b e => by
    obtain ⟨ob, w', e1, _⟩ := hov.all y b (NdefX.clo_cm hf e)
    exact hov.new b _ e1
  refine ⟨l, dl, [f0, f1, f2, f3], _, rfl, SL _ _ (S1 _ _ L3.lst), SL _ _ edl, ⟨[.str "number", .str t, .bool true], fun G => .cons (.str _) (.cons (.str _) (.cons (.bl _) .nil)), ?_, ?_⟩, fun g hg => ?_, fun G' s' keep => ?_⟩
  · unfold SeqAt.shaped; simp [PyData.canLay0, PyData.canLayAll0, PyData.depth, PyData.depthAll, hok]; decide +kernel
  · exact SeqAt.eqv_refl _ (by simp [PyData.canLay0, PyData.canLayAll0, hok]; decide +kernel)
  · simp only [List.mem_cons, List.not_mem_nil, or_false] at hg
    rcases hg with rfl | rfl | rfl | rfl
    · refine ⟨under _ (rd_Num_0 CL CN CZ CT u v), ⟨_, _, [u, v], lamOk_of (vs := [u, v]) (lam_Num_0 C_line_value), SL _ _ (S1 _ _ (L3.at_ _ (.head _)).1), SL _ _ (S1 _ _ (L3.at_ _ (.head _)).2), cells_laid hov (free_cells (LamX.lamS_by (show LamX.lamSB (defScope sNum) (lamScope (lNum 0)) = true by decide +kernel)) (by decide +kernel)) rfl (fun j y e => ?_)⟩, fun G' Q' s' q' => .inr (.inl ⟨v, t, (refuses_under (zc (free_cells (LamX.lamS_by (show LamX.lamSB (defScope sNum) (lamScope (lNum 0)) = true by decide +kernel)) (by decide +kernel))) ?_).later (SL.trans s'), hs.same (S2.trans (SL.trans s')), q'⟩)⟩
      · match j, e with
        | 0, e => obtain rfl := Option.some.inj e; exact ⟨by decide +kernel, 1, by simp, fun w ew => by obtain rfl := Option.some.inj ew; rfl⟩
        | 1, e => obtain rfl := Option.some.inj e; exact ⟨by decide +kernel, 0, by simp, fun w ew => by obtain rfl := Option.some.inj ew; rfl⟩
        | j + 2, e => cases e
      · intro G1 Q1 E1 s1 h
        exact ⟨_, rfl, _, rfl, u, v, rfl, .inr ⟨hl.same (S2.trans s1), ⟨_, hvk.same (S2.trans s1), hve⟩, h⟩⟩
    · refine ⟨under _ (rd_Num_1 CL CN CZ CT v), ⟨_, _, [v], lamOk_of (vs := [v]) (lam_Num_1 C_line_value), SL _ _ (S1 _ _ (L3.at_ _ (.tail _ (.head _))).1), SL _ _ (S1 _ _ (L3.at_ _ (.tail _ (.head _))).2), cells_laid hov (free_cells (LamX.lamS_by (show LamX.lamSB (defScope sNum) (lamScope (lNum 1)) = true by decide +kernel)) (by decide +kernel)) rfl (fun j y e => ?_)⟩, fun G' Q' s' q' => .inr (.inl ⟨v, t, (refuses_under (zc (free_cells (LamX.lamS_by (show LamX.lamSB (defScope sNum) (lamScope (lNum 1)) = true by decide +kernel)) (by decide +kernel))) ?_).later (SL.trans s'), hs.same (S2.trans (SL.trans s')), q'⟩)⟩
      · match j, e with
        | 0, e => obtain rfl := Option.some.inj e; exact ⟨by decide +kernel, 0, by simp, fun w ew => by obtain rfl := Option.some.inj ew; rfl⟩
        | j + 1, e => cases e
      · intro G1 Q1 E1 s1 h
        have h : Ref CN v G1 E1 := h
        exact ⟨_, rfl, sz (by decide : 0 ≤ 1000), fun m nm => ⟨.ref m, v, rfl, .inr ⟨.lst (xs := []) upd_same (fun x hx => nomatch hx) (by decide), ⟨_, hvk.same ((S2.trans s1).trans (Same.put nm)), hve⟩, h.later (Same.put nm)⟩⟩⟩
    · refine ⟨under _ (rd_Num_2 CL CN CZ CT v), ⟨_, _, [v], lamOk_of (vs := [v]) (lam_Num_2 C_greatest), SL _ _ (S1 _ _ (L3.at_ _ (.tail _ (.tail _ (.head _)))).1), SL _ _ (S1 _ _ (L3.at_ _ (.tail _ (.tail _ (.head _)))).2), cells_laid hov (free_cells (LamX.lamS_by (show LamX.lamSB (defScope sNum) (lamScope (lNum 2)) = true by decide +kernel)) (by decide +kernel)) rfl (fun j y e => ?_)⟩, fun G' Q' s' q' => .inr (.inl ⟨v, t, (refuses_under (zc (free_cells (LamX.lamS_by (show LamX.lamSB (defScope sNum) (lamScope (lNum 2)) = true by decide +kernel)) (by decide +kernel))) ?_).later (SL.trans s'), hs.same (S2.trans (SL.trans s')), q'⟩)⟩
      · match j, e with
        | 0, e => obtain rfl := Option.some.inj e; exact ⟨by decide +kernel, 0, by simp, fun w ew => by obtain rfl := Option.some.inj ew; rfl⟩
        | j + 1, e => cases e
      · intro G1 Q1 E1 s1 h
        have h : Ref CN v G1 E1 := h
        exact ⟨_, rfl, v, .non, rfl, .inl ⟨⟨_, hvk.same (S2.trans s1), hve⟩, h⟩⟩
    · refine ⟨under _ (rd_Num_3 CL CN CZ CT v), ⟨_, _, [v], lamOk_of (vs := [v]) (lam_Num_3 C_greatest), SL _ _ (S1 _ _ (L3.at_ _ (.tail _ (.tail _ (.tail _ (.head _))))).1), SL _ _ (S1 _ _ (L3.at_ _ (.tail _ (.tail _ (.tail _ (.head _))))).2), cells_laid hov (free_cells (LamX.lamS_by (show LamX.lamSB (defScope sNum) (lamScope (lNum 3)) = true by decide +kernel)) (by decide +kernel)) rfl (fun j y e => ?_)⟩, fun G' Q' s' q' => .inr (.inl ⟨v, t, (refuses_under (zc (free_cells (LamX.lamS_by (show LamX.lamSB (defScope sNum) (lamScope (lNum 3)) = true by decide +kernel)) (by decide +kernel))) ?_).later (SL.trans s'), hs.same (S2.trans (SL.trans s')), q'⟩)⟩
      · match j, e with
        | 0, e => obtain rfl := Option.some.inj e; exact ⟨by decide +kernel, 0, by simp, fun w ew => by obtain rfl := Option.some.inj ew; rfl⟩
        | j + 1, e => cases e
      · intro G1 Q1 E1 s1 h
        have h : Ref CN v G1 E1 := h
        exact ⟨_, rfl, .int 4, v, rfl, .inr ⟨⟨_, .int 4, rfl⟩, ⟨_, hvk.same (S2.trans s1), hve⟩, h⟩⟩
  · have c1 := cut_keeps hov.new s'
    exact q _ (fun b o e no => c1 b o (S1 _ _ (L3.ext b o e no))) (tab4.ext fun b o e => c1 b o e)
abbrev sLin : Stmt := topS 63
abbrev lLin (i : Nat) : Expr := lamOf (stAt sLin i)
abbrev rd_Lin_0 (CL CN CZ CT : Addr) (u_law_odd : V) : Hp → VK → XK → Prop := fun G Q E => (tCall (spR1 CL) [] E (tCons (tVar 0) tNil)) (NdefX.startF ["_law_odd"] [] [some u_law_odd]) G Q
theorem lam_Lin_0 {P : Program} {w : World} {K : PySem.W.Frag} {mg : Str → Option Value} {base : Heap} {CL CN CZ CT : Addr} (C_degree : Cl P w K mg base (L2.CX P w) 4 "degree" s_degree ["line"] (spR1 CL)) {f d : Addr} {q : Str} {cl : List (Str × Addr)} {u_law_odd : V} :
    LOk P w K mg base (L2.CX P w) 7 f ⟨q, lamArgs (lLin 0), lamBody (lLin 0), lamScope (lLin 0), cl, d⟩ ["_law_odd"] [some u_law_odd] (rd_Lin_0 CL CN CZ CT u_law_odd) := by
  refine lok_of (N := ["_law_odd"]) (NdefX.nscope_by (show NdefX.nscB ["_law_odd"] [] ["_law_odd"] (lamScope (lLin 0)) = true by decide +kernel)) (fun _ _ => rfl) ?_
  intro A below S G Q E hG hr hl z
  have tk := takes_of (X := NdefX.ncx (L2.CX P w) P w K mg base ["_law_odd"] (LF.nf ⟨q, lamArgs (lLin 0), lamBody (lLin 0), lamScope (lLin 0), cl, d⟩) f A below S G E) rfl rfl rfl rfl
  have hx : Passes (L2.CX P w) (NdefX.ncx (L2.CX P w) P w K mg base ["_law_odd"] (LF.nf ⟨q, lamArgs (lLin 0), lamBody (lLin 0), lamScope (lLin 0), cl, d⟩) f A below S G E) E := passes_call tk fun _ _ _ _ h => h
  exact ⟨_, (pe_u C_degree hG hr (by decide) (by rfl) hx (pa_cons (pe_var (i := 0) rfl (Or.inr (Or.inr rfl))) pa_nil)), z⟩
abbrev rd_Lin_1 (CL CN CZ CT : Addr) (u_law_odd : V) : Hp → VK → XK → Prop := fun G Q E => (tCall (spRV CL CN) [] E (tCons (tVar 0) (tCons (tC .non) tNil))) (NdefX.startF ["_law_odd"] [] [some u_law_odd]) G Q
theorem lam_Lin_1 {P : Program} {w : World} {K : PySem.W.Frag} {mg : Str → Option Value} {base : Heap} {CL CN CZ CT : Addr} (C_line_value : Cl P w K mg base (L2.CX P w) 4 "line_value" s_line_value ["line", "number"] (spRV CL CN)) {f d : Addr} {q : Str} {cl : List (Str × Addr)} {u_law_odd : V} :
    LOk P w K mg base (L2.CX P w) 7 f ⟨q, lamArgs (lLin 1), lamBody (lLin 1), lamScope (lLin 1), cl, d⟩ ["_law_odd"] [some u_law_odd] (rd_Lin_1 CL CN CZ CT u_law_odd) := by
  refine lok_of (N := ["_law_odd"]) (NdefX.nscope_by (show NdefX.nscB ["_law_odd"] [] ["_law_odd"] (lamScope (lLin 1)) = true by decide +kernel)) (fun _ _ => rfl) ?_
  intro A below S G Q E hG hr hl z
  have tk := takes_of (X := NdefX.ncx (L2.CX P w) P w K mg base ["_law_odd"] (LF.nf ⟨q, lamArgs (lLin 1), lamBody (lLin 1), lamScope (lLin 1), cl, d⟩) f A below S G E) rfl rfl rfl rfl
  have hx : Passes (L2.CX P w) (NdefX.ncx (L2.CX P w) P w K mg base ["_law_odd"] (LF.nf ⟨q, lamArgs (lLin 1), lamBody (lLin 1), lamScope (lLin 1), cl, d⟩) f A below S G E) E := passes_call tk fun _ _ _ _ h => h
  exact ⟨_, (pe_u C_line_value hG hr (by decide) (by rfl) hx (pa_cons (pe_var (i := 0) rfl (Or.inr (Or.inr rfl))) (pa_cons pe_non pa_nil))), z⟩
abbrev rd_Lin_2 (CL CN CZ CT : Addr) (u_law_odd : V) : Hp → VK → XK → Prop := fun G Q E => (tCallU (spR1 CL) same1 E (tCons (tVar 0) tNil)) (NdefX.startF ["_law_odd"] [] [some u_law_odd]) G Q
theorem lam_Lin_2 {P : Program} {w : World} {K : PySem.W.Frag} {mg : Str → Option Value} {base : Heap} {CL CN CZ CT : Addr} (C_line_slope : Cl P w K mg base (L2.CX P w) 4 "line_slope" s_line_slope ["line"] (spR1 CL)) {f d : Addr} {q : Str} {cl : List (Str × Addr)} {u_law_odd : V} :
    LOk P w K mg base (L2.CX P w) 7 f ⟨q, lamArgs (lLin 2), lamBody (lLin 2), lamScope (lLin 2), cl, d⟩ ["_law_odd"] [some u_law_odd] (rd_Lin_2 CL CN CZ CT u_law_odd) := by
  refine lok_of (N := ["_law_odd"]) (NdefX.nscope_by (show NdefX.nscB ["_law_odd"] [] ["_law_odd"] (lamScope (lLin 2)) = true by decide +kernel)) (fun _ _ => rfl) ?_
  intro A below S G Q E hG hr hl z
  have tk := takes_of (X := NdefX.ncx (L2.CX P w) P w K mg base ["_law_odd"] (LF.nf ⟨q, lamArgs (lLin 2), lamBody (lLin 2), lamScope (lLin 2), cl, d⟩) f A below S G E) rfl rfl rfl rfl
  have hx : Passes (L2.CX P w) (NdefX.ncx (L2.CX P w) P w K mg base ["_law_odd"] (LF.nf ⟨q, lamArgs (lLin 2), lamBody (lLin 2), lamScope (lLin 2), cl, d⟩) f A below S G E) E := passes_call tk fun _ _ _ _ h => h
  exact ⟨_, (pe_uk C_line_slope kw_line_slope_line hG hr (by decide) (by rfl) hx (pk_cons (pe_var (i := 0) rfl (Or.inr (Or.inr rfl))) pk_nil)), z⟩
abbrev rd_Lin_3 (CL CN CZ CT : Addr) (u_law_odd : V) : Hp → VK → XK → Prop := fun G Q E => (tCall (spR1 CL) [] E (tCons (tVar 0) tNil)) (NdefX.startF ["_law_odd"] [] [some u_law_odd]) G Q
theorem lam_Lin_3 {P : Program} {w : World} {K : PySem.W.Frag} {mg : Str → Option Value} {base : Heap} {CL CN CZ CT : Addr} (C_plain_line : Cl P w K mg base (L2.CX P w) 4 "plain_line" s_plain_line ["line"] (spR1 CL)) {f d : Addr} {q : Str} {cl : List (Str × Addr)} {u_law_odd : V} :
    LOk P w K mg base (L2.CX P w) 7 f ⟨q, lamArgs (lLin 3), lamBody (lLin 3), lamScope (lLin 3), cl, d⟩ ["_law_odd"] [some u_law_odd] (rd_Lin_3 CL CN CZ CT u_law_odd) := by
  refine lok_of (N := ["_law_odd"]) (NdefX.nscope_by (show NdefX.nscB ["_law_odd"] [] ["_law_odd"] (lamScope (lLin 3)) = true by decide +kernel)) (fun _ _ => rfl) ?_
  intro A below S G Q E hG hr hl z
  have tk := takes_of (X := NdefX.ncx (L2.CX P w) P w K mg base ["_law_odd"] (LF.nf ⟨q, lamArgs (lLin 3), lamBody (lLin 3), lamScope (lLin 3), cl, d⟩) f A below S G E) rfl rfl rfl rfl
  have hx : Passes (L2.CX P w) (NdefX.ncx (L2.CX P w) P w K mg base ["_law_odd"] (LF.nf ⟨q, lamArgs (lLin 3), lamBody (lLin 3), lamScope (lLin 3), cl, d⟩) f A below S G E) E := passes_call tk fun _ _ _ _ h => h
  exact ⟨_, (pe_u C_plain_line hG hr (by decide) (by rfl) hx (pa_cons (pe_var (i := 0) rfl (Or.inr (Or.inr rfl))) pa_nil)), z⟩
abbrev rd_Lin_4 (CL CN CZ CT : Addr) (u_law_odd : V) : Hp → VK → XK → Prop := fun G Q E => (tCall (spR2 CL) [] E (tCons (tVar 0) (tCons (tC .non) tNil))) (NdefX.startF ["_law_odd"] [] [some u_law_odd]) G Q
theorem lam_Lin_4 {P : Program} {w : World} {K : PySem.W.Frag} {mg : Str → Option Value} {base : Heap} {CL CN CZ CT : Addr} (C_line_sum : Cl P w K mg base (L2.CX P w) 5 "line_sum" s_line_sum ["line", "other"] (spR2 CL)) {f d : Addr} {q : Str} {cl : List (Str × Addr)} {u_law_odd : V} :
    LOk P w K mg base (L2.CX P w) 7 f ⟨q, lamArgs (lLin 4), lamBody (lLin 4), lamScope (lLin 4), cl, d⟩ ["_law_odd"] [some u_law_odd] (rd_Lin_4 CL CN CZ CT u_law_odd) := by
  refine lok_of (N := ["_law_odd"]) (NdefX.nscope_by (show NdefX.nscB ["_law_odd"] [] ["_law_odd"] (lamScope (lLin 4)) = true by decide +kernel)) (fun _ _ => rfl) ?_
  intro A below S G Q E hG hr hl z
  have tk := takes_of (X := NdefX.ncx (L2.CX P w) P w K mg base ["_law_odd"] (LF.nf ⟨q, lamArgs (lLin 4), lamBody (lLin 4), lamScope (lLin 4), cl, d⟩) f A below S G E) rfl rfl rfl rfl
  have hx : Passes (L2.CX P w) (NdefX.ncx (L2.CX P w) P w K mg base ["_law_odd"] (LF.nf ⟨q, lamArgs (lLin 4), lamBody (lLin 4), lamScope (lLin 4), cl, d⟩) f A below S G E) E := passes_call tk fun _ _ _ _ h => h
  exact ⟨_, (pe_u C_line_sum hG hr (by decide) (by rfl) hx (pa_cons (pe_var (i := 0) rfl (Or.inr (Or.inr rfl))) (pa_cons pe_non pa_nil))), z⟩
abbrev rd_Lin_5 (CL CN CZ CT : Addr) (u_law_odd u_law_line : V) : Hp → VK → XK → Prop := fun G Q E => (tCallU (spR2 CL) turn2 E (tCons (tVar 0) (tCons (tVar 1) tNil))) (NdefX.startF ["_law_odd", "_law_line"] [] [some u_law_odd, some u_law_line]) G Q
theorem lam_Lin_5 {P : Program} {w : World} {K : PySem.W.Frag} {mg : Str → Option Value} {base : Heap} {CL CN CZ CT : Addr} (C_line_sum : Cl P w K mg base (L2.CX P w) 5 "line_sum" s_line_sum ["line", "other"] (spR2 CL)) {f d : Addr} {q : Str} {cl : List (Str × Addr)} {u_law_odd u_law_line : V} :
    LOk P w K mg base (L2.CX P w) 7 f ⟨q, lamArgs (lLin 5), lamBody (lLin 5), lamScope (lLin 5), cl, d⟩ ["_law_odd", "_law_line"] [some u_law_odd, some u_law_line] (rd_Lin_5 CL CN CZ CT u_law_odd u_law_line) := by
  refine lok_of (N := ["_law_odd", "_law_line"]) (NdefX.nscope_by (show NdefX.nscB ["_law_odd", "_law_line"] [] ["_law_odd", "_law_line"] (lamScope (lLin 5)) = true by decide +kernel)) (fun _ _ => rfl) ?_
  intro A below S G Q E hG hr hl z
  have tk := takes_of (X := NdefX.ncx (L2.CX P w) P w K mg base ["_law_odd", "_law_line"] (LF.nf ⟨q, lamArgs (lLin 5), lamBody (lLin 5), lamScope (lLin 5), cl, d⟩) f A below S G E) rfl rfl rfl rfl
  have hx : Passes (L2.CX P w) (NdefX.ncx (L2.CX P w) P w K mg base ["_law_odd", "_law_line"] (LF.nf ⟨q, lamArgs (lLin 5), lamBody (lLin 5), lamScope (lLin 5), cl, d⟩) f A below S G E) E := passes_call tk fun _ _ _ _ h => h
  exact ⟨_, (pe_uk C_line_sum kw_line_sum_other_line hG hr (by decide) (by rfl) hx (pk_cons (pe_var (i := 0) rfl (Or.inr (Or.inr rfl))) (pk_cons (pe_var (i := 1) rfl (Or.inr (Or.inr rfl))) pk_nil))), z⟩
abbrev rd_Lin_6 (CL CN CZ CT : Addr) (u_law_odd u_law_line : V) : Hp → VK → XK → Prop := fun G Q E => (tCall (spR2 CL) [] E (tCons (tVar 0) (tCons (tVar 1) tNil))) (NdefX.startF ["_law_odd", "_law_line"] [] [some u_law_odd, some u_law_line]) G Q
theorem lam_Lin_6 {P : Program} {w : World} {K : PySem.W.Frag} {mg : Str → Option Value} {base : Heap} {CL CN CZ CT : Addr} (C_line_less : Cl P w K mg base (L2.CX P w) 5 "line_less" s_line_less ["line", "other"] (spR2 CL)) {f d : Addr} {q : Str} {cl : List (Str × Addr)} {u_law_odd u_law_line : V} :
    LOk P w K mg base (L2.CX P w) 7 f ⟨q, lamArgs (lLin 6), lamBody (lLin 6), lamScope (lLin 6), cl, d⟩ ["_law_odd", "_law_line"] [some u_law_odd, some u_law_line] (rd_Lin_6 CL CN CZ CT u_law_odd u_law_line) := by
  refine lok_of (N := ["_law_odd", "_law_line"]) (NdefX.nscope_by (show NdefX.nscB ["_law_odd", "_law_line"] [] ["_law_odd", "_law_line"] (lamScope (lLin 6)) = true by decide +kernel)) (fun _ _ => rfl) ?_
  intro A below S G Q E hG hr hl z
  have tk := takes_of (X := NdefX.ncx (L2.CX P w) P w K mg base ["_law_odd", "_law_line"] (LF.nf ⟨q, lamArgs (lLin 6), lamBody (lLin 6), lamScope (lLin 6), cl, d⟩) f A below S G E) rfl rfl rfl rfl
  have hx : Passes (L2.CX P w) (NdefX.ncx (L2.CX P w) P w K mg base ["_law_odd", "_law_line"] (LF.nf ⟨q, lamArgs (lLin 6), lamBody (lLin 6), lamScope (lLin 6), cl, d⟩) f A below S G E) E := passes_call tk fun _ _ _ _ h => h
  exact ⟨_, (pe_u C_line_less hG hr (by decide) (by rfl) hx (pa_cons (pe_var (i := 0) rfl (Or.inr (Or.inr rfl))) (pa_cons (pe_var (i := 1) rfl (Or.inr (Or.inr rfl))) pa_nil))), z⟩
abbrev rd_Lin_7 (CL CN CZ CT : Addr) (u_law_line u_law_odd : V) : Hp → VK → XK → Prop := fun G Q E => (tCall (spR2 CL) [] E (tCons (tVar 0) (tCons (tVar 1) tNil))) (NdefX.startF ["_law_line", "_law_odd"] [] [some u_law_line, some u_law_odd]) G Q
theorem lam_Lin_7 {P : Program} {w : World} {K : PySem.W.Frag} {mg : Str → Option Value} {base : Heap} {CL CN CZ CT : Addr} (C_line_less : Cl P w K mg base (L2.CX P w) 5 "line_less" s_line_less ["line", "other"] (spR2 CL)) {f d : Addr} {q : Str} {cl : List (Str × Addr)} {u_law_line u_law_odd : V} :
    LOk P w K mg base (L2.CX P w) 7 f ⟨q, lamArgs (lLin 7), lamBody (lLin 7), lamScope (lLin 7), cl, d⟩ ["_law_line", "_law_odd"] [some u_law_line, some u_law_odd] (rd_Lin_7 CL CN CZ CT u_law_line u_law_odd) := by
  refine lok_of (N := ["_law_line", "_law_odd"]) (NdefX.nscope_by (show NdefX.nscB ["_law_line", "_law_odd"] [] ["_law_line", "_law_odd"] (lamScope (lLin 7)) = true by decide +kernel)) (fun _ _ => rfl) ?_
  intro A below S G Q E hG hr hl z
  have tk := takes_of (X := NdefX.ncx (L2.CX P w) P w K mg base ["_law_line", "_law_odd"] (LF.nf ⟨q, lamArgs (lLin 7), lamBody (lLin 7), lamScope (lLin 7), cl, d⟩) f A below S G E) rfl rfl rfl rfl
  have hx : Passes (L2.CX P w) (NdefX.ncx (L2.CX P w) P w K mg base ["_law_line", "_law_odd"] (LF.nf ⟨q, lamArgs (lLin 7), lamBody (lLin 7), lamScope (lLin 7), cl, d⟩) f A below S G E) E := passes_call tk fun _ _ _ _ h => h
  exact ⟨_, (pe_u C_line_less hG hr (by decide) (by rfl) hx (pa_cons (pe_var (i := 0) rfl (Or.inr (Or.inr rfl))) (pa_cons (pe_var (i := 1) rfl (Or.inr (Or.inr rfl))) pa_nil))), z⟩
abbrev rd_Lin_8 (CL CN CZ CT : Addr) (u_law_odd u_law_line : V) : Hp → VK → XK → Prop := fun G Q E => (tCall (spRT CL CT) [] E (tCons (tVar 0) (tCons (tVar 1) tNil))) (NdefX.startF ["_law_odd", "_law_line"] [] [some u_law_odd, some u_law_line]) G Q
theorem lam_Lin_8 {P : Program} {w : World} {K : PySem.W.Frag} {mg : Str → Option Value} {base : Heap} {CL CN CZ CT : Addr} (C_line_times : Cl P w K mg base (L2.CX P w) 5 "line_times" s_line_times ["line", "other"] (spRT CL CT)) {f d : Addr} {q : Str} {cl : List (Str × Addr)} {u_law_odd u_law_line : V} :
    LOk P w K mg base (L2.CX P w) 7 f ⟨q, lamArgs (lLin 8), lamBody (lLin 8), lamScope (lLin 8), cl, d⟩ ["_law_odd", "_law_line"] [some u_law_odd, some u_law_line] (rd_Lin_8 CL CN CZ CT u_law_odd u_law_line) := by
  refine lok_of (N := ["_law_odd", "_law_line"]) (NdefX.nscope_by (show NdefX.nscB ["_law_odd", "_law_line"] [] ["_law_odd", "_law_line"] (lamScope (lLin 8)) = true by decide +kernel)) (fun _ _ => rfl) ?_
  intro A below S G Q E hG hr hl z
  have tk := takes_of (X := NdefX.ncx (L2.CX P w) P w K mg base ["_law_odd", "_law_line"] (LF.nf ⟨q, lamArgs (lLin 8), lamBody (lLin 8), lamScope (lLin 8), cl, d⟩) f A below S G E) rfl rfl rfl rfl
  have hx : Passes (L2.CX P w) (NdefX.ncx (L2.CX P w) P w K mg base ["_law_odd", "_law_line"] (LF.nf ⟨q, lamArgs (lLin 8), lamBody (lLin 8), lamScope (lLin 8), cl, d⟩) f A below S G E) E := passes_call tk fun _ _ _ _ h => h
  exact ⟨_, (pe_u C_line_times hG hr (by decide) (by rfl) hx (pa_cons (pe_var (i := 0) rfl (Or.inr (Or.inr rfl))) (pa_cons (pe_var (i := 1) rfl (Or.inr (Or.inr rfl))) pa_nil))), z⟩
abbrev rd_Lin_9 (CL CN CZ CT : Addr) (u_law_odd : V) : Hp → VK → XK → Prop := fun G Q E => (tCallU (spRT CL CT) turn2 E (tCons (tVar 0) (tCons (tLst tNil) tNil))) (NdefX.startF ["_law_odd"] [] [some u_law_odd]) G Q
theorem lam_Lin_9 {P : Program} {w : World} {K : PySem.W.Frag} {mg : Str → Option Value} {base : Heap} {CL CN CZ CT : Addr} (C_line_times : Cl P w K mg base (L2.CX P w) 5 "line_times" s_line_times ["line", "other"] (spRT CL CT)) {f d : Addr} {q : Str} {cl : List (Str × Addr)} {u_law_odd : V} :
    LOk P w K mg base (L2.CX P w) 7 f ⟨q, lamArgs (lLin 9), lamBody (lLin 9), lamScope (lLin 9), cl, d⟩ ["_law_odd"] [some u_law_odd] (rd_Lin_9 CL CN CZ CT u_law_odd) := by
  refine lok_of (N := ["_law_odd"]) (NdefX.nscope_by (show NdefX.nscB ["_law_odd"] [] ["_law_odd"] (lamScope (lLin 9)) = true by decide +kernel)) (fun _ _ => rfl) ?_
  intro A below S G Q E hG hr hl z
  have tk := takes_of (X := NdefX.ncx (L2.CX P w) P w K mg base ["_law_odd"] (LF.nf ⟨q, lamArgs (lLin 9), lamBody (lLin 9), lamScope (lLin 9), cl, d⟩) f A below S G E) rfl rfl rfl rfl
  have hx : Passes (L2.CX P w) (NdefX.ncx (L2.CX P w) P w K mg base ["_law_odd"] (LF.nf ⟨q, lamArgs (lLin 9), lamBody (lLin 9), lamScope (lLin 9), cl, d⟩) f A below S G E) E := passes_call tk fun _ _ _ _ h => h
  exact ⟨_, (pe_uk C_line_times kw_line_times_other_line hG hr (by decide) (by rfl) hx (pk_cons (pe_var (i := 0) rfl (Or.inr (Or.inr rfl))) (pk_cons (pe_lst pa_nil) pk_nil))), z⟩
abbrev rd_Lin_10 (CL CN CZ CT : Addr) (u_law_odd : V) : Hp → VK → XK → Prop := fun G Q E => (tCall (spRZ CL CZ) [] E (tCons (tVar 0) (tCons (tLst tNil) tNil))) (NdefX.startF ["_law_odd"] [] [some u_law_odd]) G Q
theorem lam_Lin_10 {P : Program} {w : World} {K : PySem.W.Frag} {mg : Str → Option Value} {base : Heap} {CL CN CZ CT : Addr} (C_line_divided : Cl P w K mg base (L2.CX P w) 5 "line_divided" s_line_divided ["line", "other"] (spRZ CL CZ)) {f d : Addr} {q : Str} {cl : List (Str × Addr)} {u_law_odd : V} :
    LOk P w K mg base (L2.CX P w) 7 f ⟨q, lamArgs (lLin 10), lamBody (lLin 10), lamScope (lLin 10), cl, d⟩ ["_law_odd"] [some u_law_odd] (rd_Lin_10 CL CN CZ CT u_law_odd) := by
  refine lok_of (N := ["_law_odd"]) (NdefX.nscope_by (show NdefX.nscB ["_law_odd"] [] ["_law_odd"] (lamScope (lLin 10)) = true by decide +kernel)) (fun _ _ => rfl) ?_
  intro A below S G Q E hG hr hl z
  have tk := takes_of (X := NdefX.ncx (L2.CX P w) P w K mg base ["_law_odd"] (LF.nf ⟨q, lamArgs (lLin 10), lamBody (lLin 10), lamScope (lLin 10), cl, d⟩) f A below S G E) rfl rfl rfl rfl
  have hx : Passes (L2.CX P w) (NdefX.ncx (L2.CX P w) P w K mg base ["_law_odd"] (LF.nf ⟨q, lamArgs (lLin 10), lamBody (lLin 10), lamScope (lLin 10), cl, d⟩) f A below S G E) E := passes_call tk fun _ _ _ _ h => h
  exact ⟨_, (pe_u C_line_divided hG hr (by decide) (by rfl) hx (pa_cons (pe_var (i := 0) rfl (Or.inr (Or.inr rfl))) (pa_cons (pe_lst pa_nil) pa_nil))), z⟩
abbrev rd_Lin_11 (CL CN CZ CT : Addr) (u_law_line u_law_odd : V) : Hp → VK → XK → Prop := fun G Q E => (tCall (spRZ CL CZ) [] E (tCons (tVar 0) (tCons (tVar 1) tNil))) (NdefX.startF ["_law_line", "_law_odd"] [] [some u_law_line, some u_law_odd]) G Q
theorem lam_Lin_11 {P : Program} {w : World} {K : PySem.W.Frag} {mg : Str → Option Value} {base : Heap} {CL CN CZ CT : Addr} (C_line_divided : Cl P w K mg base (L2.CX P w) 5 "line_divided" s_line_divided ["line", "other"] (spRZ CL CZ)) {f d : Addr} {q : Str} {cl : List (Str × Addr)} {u_law_line u_law_odd : V} :
    LOk P w K mg base (L2.CX P w) 7 f ⟨q, lamArgs (lLin 11), lamBody (lLin 11), lamScope (lLin 11), cl, d⟩ ["_law_line", "_law_odd"] [some u_law_line, some u_law_odd] (rd_Lin_11 CL CN CZ CT u_law_line u_law_odd) := by
  refine lok_of (N := ["_law_line", "_law_odd"]) (NdefX.nscope_by (show NdefX.nscB ["_law_line", "_law_odd"] [] ["_law_line", "_law_odd"] (lamScope (lLin 11)) = true by decide +kernel)) (fun _ _ => rfl) ?_
  intro A below S G Q E hG hr hl z
  have tk := takes_of (X := NdefX.ncx (L2.CX P w) P w K mg base ["_law_line", "_law_odd"] (LF.nf ⟨q, lamArgs (lLin 11), lamBody (lLin 11), lamScope (lLin 11), cl, d⟩) f A below S G E) rfl rfl rfl rfl
  have hx : Passes (L2.CX P w) (NdefX.ncx (L2.CX P w) P w K mg base ["_law_line", "_law_odd"] (LF.nf ⟨q, lamArgs (lLin 11), lamBody (lLin 11), lamScope (lLin 11), cl, d⟩) f A below S G E) E := passes_call tk fun _ _ _ _ h => h
  exact ⟨_, (pe_u C_line_divided hG hr (by decide) (by rfl) hx (pa_cons (pe_var (i := 0) rfl (Or.inr (Or.inr rfl))) (pa_cons (pe_var (i := 1) rfl (Or.inr (Or.inr rfl))) pa_nil))), z⟩
abbrev rd_Lin_12 (CL CN CZ CT : Addr) (u_law_odd u_law_line : V) : Hp → VK → XK → Prop := fun G Q E => (tCall (spR2 CL) [] E (tCons (tVar 0) (tCons (tVar 1) tNil))) (NdefX.startF ["_law_odd", "_law_line"] [] [some u_law_odd, some u_law_line]) G Q
theorem lam_Lin_12 {P : Program} {w : World} {K : PySem.W.Frag} {mg : Str → Option Value} {base : Heap} {CL CN CZ CT : Addr} (C_line_common : Cl P w K mg base (L2.CX P w) 5 "line_common" s_line_common ["line", "other"] (spR2 CL)) {f d : Addr} {q : Str} {cl : List (Str × Addr)} {u_law_odd u_law_line : V} :
    LOk P w K mg base (L2.CX P w) 7 f ⟨q, lamArgs (lLin 12), lamBody (lLin 12), lamScope (lLin 12), cl, d⟩ ["_law_odd", "_law_line"] [some u_law_odd, some u_law_line] (rd_Lin_12 CL CN CZ CT u_law_odd u_law_line) := by
  refine lok_of (N := ["_law_odd", "_law_line"]) (NdefX.nscope_by (show NdefX.nscB ["_law_odd", "_law_line"] [] ["_law_odd", "_law_line"] (lamScope (lLin 12)) = true by decide +kernel)) (fun _ _ => rfl) ?_
  intro A below S G Q E hG hr hl z
  have tk := takes_of (X := NdefX.ncx (L2.CX P w) P w K mg base ["_law_odd", "_law_line"] (LF.nf ⟨q, lamArgs (lLin 12), lamBody (lLin 12), lamScope (lLin 12), cl, d⟩) f A below S G E) rfl rfl rfl rfl
  have hx : Passes (L2.CX P w) (NdefX.ncx (L2.CX P w) P w K mg base ["_law_odd", "_law_line"] (LF.nf ⟨q, lamArgs (lLin 12), lamBody (lLin 12), lamScope (lLin 12), cl, d⟩) f A below S G E) E := passes_call tk fun _ _ _ _ h => h
  exact ⟨_, (pe_u C_line_common hG hr (by decide) (by rfl) hx (pa_cons (pe_var (i := 0) rfl (Or.inr (Or.inr rfl))) (pa_cons (pe_var (i := 1) rfl (Or.inr (Or.inr rfl))) pa_nil))), z⟩
abbrev rd_Lin_13 (CL CN CZ CT : Addr) (u_law_line u_law_odd : V) : Hp → VK → XK → Prop := fun G Q E => (tCallM (spR2 CL) behind 1 1 E (tCons (tVar 0) tNil) (tCons (tVar 1) tNil)) (NdefX.startF ["_law_line", "_law_odd"] [] [some u_law_line, some u_law_odd]) G Q
theorem lam_Lin_13 {P : Program} {w : World} {K : PySem.W.Frag} {mg : Str → Option Value} {base : Heap} {CL CN CZ CT : Addr} (C_line_common : Cl P w K mg base (L2.CX P w) 5 "line_common" s_line_common ["line", "other"] (spR2 CL)) {f d : Addr} {q : Str} {cl : List (Str × Addr)} {u_law_line u_law_odd : V} :
    LOk P w K mg base (L2.CX P w) 7 f ⟨q, lamArgs (lLin 13), lamBody (lLin 13), lamScope (lLin 13), cl, d⟩ ["_law_line", "_law_odd"] [some u_law_line, some u_law_odd] (rd_Lin_13 CL CN CZ CT u_law_line u_law_odd) := by
  refine lok_of (N := ["_law_line", "_law_odd"]) (NdefX.nscope_by (show NdefX.nscB ["_law_line", "_law_odd"] [] ["_law_line", "_law_odd"] (lamScope (lLin 13)) = true by decide +kernel)) (fun _ _ => rfl) ?_
  intro A below S G Q E hG hr hl z
  have tk := takes_of (X := NdefX.ncx (L2.CX P w) P w K mg base ["_law_line", "_law_odd"] (LF.nf ⟨q, lamArgs (lLin 13), lamBody (lLin 13), lamScope (lLin 13), cl, d⟩) f A below S G E) rfl rfl rfl rfl
  have hx : Passes (L2.CX P w) (NdefX.ncx (L2.CX P w) P w K mg base ["_law_line", "_law_odd"] (LF.nf ⟨q, lamArgs (lLin 13), lamBody (lLin 13), lamScope (lLin 13), cl, d⟩) f A below S G E) E := passes_call tk fun _ _ _ _ h => h
  exact ⟨_, (pe_um C_line_common mx_line_common_other hG hr (by decide) (by rfl) hx (pa_cons (pe_var (i := 0) rfl (Or.inr (Or.inr rfl))) pa_nil) (pk_cons (pe_var (i := 1) rfl (Or.inr (Or.inr rfl))) pk_nil)), z⟩
abbrev rd_Lin_14 (CL CN CZ CT : Addr) (u_law_odd : V) : Hp → VK → XK → Prop := fun G Q E => (tCall (spRZ2 CL CZ) [] E (tCons (tVar 0) (tCons (tLst tNil) tNil))) (NdefX.startF ["_law_odd"] [] [some u_law_odd]) G Q
theorem lam_Lin_14 {P : Program} {w : World} {K : PySem.W.Frag} {mg : Str → Option Value} {base : Heap} {CL CN CZ CT : Addr} (C_resultant : Cl P w K mg base (L2.CX P w) 5 "resultant" s_resultant ["line", "other"] (spRZ2 CL CZ)) {f d : Addr} {q : Str} {cl : List (Str × Addr)} {u_law_odd : V} :
    LOk P w K mg base (L2.CX P w) 7 f ⟨q, lamArgs (lLin 14), lamBody (lLin 14), lamScope (lLin 14), cl, d⟩ ["_law_odd"] [some u_law_odd] (rd_Lin_14 CL CN CZ CT u_law_odd) := by
  refine lok_of (N := ["_law_odd"]) (NdefX.nscope_by (show NdefX.nscB ["_law_odd"] [] ["_law_odd"] (lamScope (lLin 14)) = true by decide +kernel)) (fun _ _ => rfl) ?_
  intro A below S G Q E hG hr hl z
  have tk := takes_of (X := NdefX.ncx (L2.CX P w) P w K mg base ["_law_odd"] (LF.nf ⟨q, lamArgs (lLin 14), lamBody (lLin 14), lamScope (lLin 14), cl, d⟩) f A below S G E) rfl rfl rfl rfl
  have hx : Passes (L2.CX P w) (NdefX.ncx (L2.CX P w) P w K mg base ["_law_odd"] (LF.nf ⟨q, lamArgs (lLin 14), lamBody (lLin 14), lamScope (lLin 14), cl, d⟩) f A below S G E) E := passes_call tk fun _ _ _ _ h => h
  exact ⟨_, (pe_u C_resultant hG hr (by decide) (by rfl) hx (pa_cons (pe_var (i := 0) rfl (Or.inr (Or.inr rfl))) (pa_cons (pe_lst pa_nil) pa_nil))), z⟩
abbrev rd_Lin_15 (CL CN CZ CT : Addr) (u_law_odd : V) : Hp → VK → XK → Prop := fun G Q E => (tCall (spRZ2 CL CZ) [] E (tCons (tLst tNil) (tCons (tVar 0) tNil))) (NdefX.startF ["_law_odd"] [] [some u_law_odd]) G Q
theorem lam_Lin_15 {P : Program} {w : World} {K : PySem.W.Frag} {mg : Str → Option Value} {base : Heap} {CL CN CZ CT : Addr} (C_resultant : Cl P w K mg base (L2.CX P w) 5 "resultant" s_resultant ["line", "other"] (spRZ2 CL CZ)) {f d : Addr} {q : Str} {cl : List (Str × Addr)} {u_law_odd : V} :
    LOk P w K mg base (L2.CX P w) 7 f ⟨q, lamArgs (lLin 15), lamBody (lLin 15), lamScope (lLin 15), cl, d⟩ ["_law_odd"] [some u_law_odd] (rd_Lin_15 CL CN CZ CT u_law_odd) := by
  refine lok_of (N := ["_law_odd"]) (NdefX.nscope_by (show NdefX.nscB ["_law_odd"] [] ["_law_odd"] (lamScope (lLin 15)) = true by decide +kernel)) (fun _ _ => rfl) ?_
  intro A below S G Q E hG hr hl z
  have tk := takes_of (X := NdefX.ncx (L2.CX P w) P w K mg base ["_law_odd"] (LF.nf ⟨q, lamArgs (lLin 15), lamBody (lLin 15), lamScope (lLin 15), cl, d⟩) f A below S G E) rfl rfl rfl rfl
  have hx : Passes (L2.CX P w) (NdefX.ncx (L2.CX P w) P w K mg base ["_law_odd"] (LF.nf ⟨q, lamArgs (lLin 15), lamBody (lLin 15), lamScope (lLin 15), cl, d⟩) f A below S G E) E := passes_call tk fun _ _ _ _ h => h
  exact ⟨_, (pe_u C_resultant hG hr (by decide) (by rfl) hx (pa_cons (pe_lst pa_nil) (pa_cons (pe_var (i := 0) rfl (Or.inr (Or.inr rfl))) pa_nil))), z⟩
abbrev rd_Lin_16 (CL CN CZ CT : Addr) (u_law_odd : V) : Hp → VK → XK → Prop := fun G Q E => (tCall (spR0 CL CZ) [] E (tCons (tVar 0) tNil)) (NdefX.startF ["_law_odd"] [] [some u_law_odd]) G Q
theorem lam_Lin_16 {P : Program} {w : World} {K : PySem.W.Frag} {mg : Str → Option Value} {base : Heap} {CL CN CZ CT : Addr} (C_plain_parts : Cl P w K mg base (L2.CX P w) 5 "plain_parts" s_plain_parts ["line"] (spR0 CL CZ)) {f d : Addr} {q : Str} {cl : List (Str × Addr)} {u_law_odd : V} :
    LOk P w K mg base (L2.CX P w) 7 f ⟨q, lamArgs (lLin 16), lamBody (lLin 16), lamScope (lLin 16), cl, d⟩ ["_law_odd"] [some u_law_odd] (rd_Lin_16 CL CN CZ CT u_law_odd) := by
  refine lok_of (N := ["_law_odd"]) (NdefX.nscope_by (show NdefX.nscB ["_law_odd"] [] ["_law_odd"] (lamScope (lLin 16)) = true by decide +kernel)) (fun _ _ => rfl) ?_
  intro A below S G Q E hG hr hl z
  have tk := takes_of (X := NdefX.ncx (L2.CX P w) P w K mg base ["_law_odd"] (LF.nf ⟨q, lamArgs (lLin 16), lamBody (lLin 16), lamScope (lLin 16), cl, d⟩) f A below S G E) rfl rfl rfl rfl
  have hx : Passes (L2.CX P w) (NdefX.ncx (L2.CX P w) P w K mg base ["_law_odd"] (LF.nf ⟨q, lamArgs (lLin 16), lamBody (lLin 16), lamScope (lLin 16), cl, d⟩) f A below S G E) E := passes_call tk fun _ _ _ _ h => h
  exact ⟨_, (pe_u C_plain_parts hG hr (by decide) (by rfl) hx (pa_cons (pe_var (i := 0) rfl (Or.inr (Or.inr rfl))) pa_nil)), z⟩
abbrev rd_Lin_17 (CL CN CZ CT : Addr) (u_law_odd : V) : Hp → VK → XK → Prop := fun G Q E => (tCallU (spR0 CL CZ) same1 E (tCons (tVar 0) tNil)) (NdefX.startF ["_law_odd"] [] [some u_law_odd]) G Q
theorem lam_Lin_17 {P : Program} {w : World} {K : PySem.W.Frag} {mg : Str → Option Value} {base : Heap} {CL CN CZ CT : Addr} (C_whole_roots : Cl P w K mg base (L2.CX P w) 5 "whole_roots" s_whole_roots ["line"] (spR0 CL CZ)) {f d : Addr} {q : Str} {cl : List (Str × Addr)} {u_law_odd : V} :
    LOk P w K mg base (L2.CX P w) 7 f ⟨q, lamArgs (lLin 17), lamBody (lLin 17), lamScope (lLin 17), cl, d⟩ ["_law_odd"] [some u_law_odd] (rd_Lin_17 CL CN CZ CT u_law_odd) := by
  refine lok_of (N := ["_law_odd"]) (NdefX.nscope_by (show NdefX.nscB ["_law_odd"] [] ["_law_odd"] (lamScope (lLin 17)) = true by decide +kernel)) (fun _ _ => rfl) ?_
  intro A below S G Q E hG hr hl z
  have tk := takes_of (X := NdefX.ncx (L2.CX P w) P w K mg base ["_law_odd"] (LF.nf ⟨q, lamArgs (lLin 17), lamBody (lLin 17), lamScope (lLin 17), cl, d⟩) f A below S G E) rfl rfl rfl rfl
  have hx : Passes (L2.CX P w) (NdefX.ncx (L2.CX P w) P w K mg base ["_law_odd"] (LF.nf ⟨q, lamArgs (lLin 17), lamBody (lLin 17), lamScope (lLin 17), cl, d⟩) f A below S G E) E := passes_call tk fun _ _ _ _ h => h
  exact ⟨_, (pe_uk C_whole_roots kw_whole_roots_line hG hr (by decide) (by rfl) hx (pk_cons (pe_var (i := 0) rfl (Or.inr (Or.inr rfl))) pk_nil)), z⟩
abbrev rd_Lin_18 (CL CN CZ CT : Addr) (u_law_odd : V) : Hp → VK → XK → Prop := fun G Q E => (tCall (spRM CL) [] E (tCons (tVar 0) tNil)) (NdefX.startF ["_law_odd"] [] [some u_law_odd]) G Q
theorem lam_Lin_18 {P : Program} {w : World} {K : PySem.W.Frag} {mg : Str → Option Value} {base : Heap} {CL CN CZ CT : Addr} (C_monic_parts : Cl P w K mg base (L2.CX P w) 4 "monic_parts" s_monic_parts ["line"] (spRM CL)) {f d : Addr} {q : Str} {cl : List (Str × Addr)} {u_law_odd : V} :
    LOk P w K mg base (L2.CX P w) 7 f ⟨q, lamArgs (lLin 18), lamBody (lLin 18), lamScope (lLin 18), cl, d⟩ ["_law_odd"] [some u_law_odd] (rd_Lin_18 CL CN CZ CT u_law_odd) := by
  refine lok_of (N := ["_law_odd"]) (NdefX.nscope_by (show NdefX.nscB ["_law_odd"] [] ["_law_odd"] (lamScope (lLin 18)) = true by decide +kernel)) (fun _ _ => rfl) ?_
  intro A below S G Q E hG hr hl z
  have tk := takes_of (X := NdefX.ncx (L2.CX P w) P w K mg base ["_law_odd"] (LF.nf ⟨q, lamArgs (lLin 18), lamBody (lLin 18), lamScope (lLin 18), cl, d⟩) f A below S G E) rfl rfl rfl rfl
  have hx : Passes (L2.CX P w) (NdefX.ncx (L2.CX P w) P w K mg base ["_law_odd"] (LF.nf ⟨q, lamArgs (lLin 18), lamBody (lLin 18), lamScope (lLin 18), cl, d⟩) f A below S G E) E := passes_call tk fun _ _ _ _ h => h
  exact ⟨_, (pe_u C_monic_parts hG hr (by decide) (by rfl) hx (pa_cons (pe_var (i := 0) rfl (Or.inr (Or.inr rfl))) pa_nil)), z⟩
theorem S__law_lines_right : FnScope ["_law_odd", "_law_line", "_law_calls"] ["_law_odd", "_law_line"] (defScope sLin) :=
  ⟨rfl, rfl, rfl, by decide +kernel, rfl, by decide +kernel, by decide +kernel⟩
abbrev qLin : Str := "_law_lines_right" ++ ".<locals>." ++ "<lambda>"
def spLinR (K : PySem.W.Frag) (T : List (Addr × Str)) : Sp := fun vs G Q _ => ∃ (v u : V) (t : Str), vs = [v, u] ∧ PyData.strOk t = true ∧ Val (noT G) v false ∧ Sh K (noT G) v t ∧ Val (noT G) u true ∧ LamX.Tabs T G ∧
  ∀ G', LamX.ExtN G G' → LamX.Tabs T G' → Q (.bl true) G'
theorem good_Lin_0 {P : Program} {w : World} {K : PySem.W.Frag} {mg : Str → Option Value} {base : Heap} {CL CN CZ CT : Addr} (C_degree : Cl P w K mg base (L2.CX P w) 4 "degree" s_degree ["line"] (spR1 CL)) {X : Cx} {m : Nat}
    (hX : X.env.cells = cellsFrom m (defScope sLin).names []) (hq : X.env.qual ++ "<lambda>" = qLin) {H : Hp} {v u : V} {t : Str} (hv : Val (noT H) v false) (hs : Sh K (noT H) v t) (hl : Val (noT H) u true) :
    ∀ d, Heeds P w K mg base 7 X [("_law_odd", 0), ("_law_line", 1)] [(0, v), (1, u)] H (Says K CL CN CZ CT [.str "line", .str t, .bl true]) (madeAt X (lamArgs (lLin 0)) (lamBody (lLin 0)) (lamScope (lLin 0)) d) := by
  have sz : ∀ {n : Nat}, n ≤ 1000 → n ≤ sizeLine := fun h => Nat.le_of_lt (small1000 h)
  refine good_mk (s := sLin) (l := lLin 0) (vs := [v]) (rd := rd_Lin_0 CL CN CZ CT v) hX hq (by decide +kernel) (by decide +kernel) (lam_Lin_0 C_degree) rfl (fun j y e => ?_) (says_line (v := v) ?_ hs)
  · match j, e with
    | 0, e => obtain rfl := Option.some.inj e; exact ⟨by decide +kernel, 0, by simp, fun w ew => by obtain rfl := Option.some.inj ew; simp⟩
    | j + 1, e => cases e
  · intro G1 Q1 E1 s2 h
    have h : Ref CL v G1 E1 := h
    exact ⟨_, rfl, v, rfl, hv.same s2, h⟩
theorem good_Lin_1 {P : Program} {w : World} {K : PySem.W.Frag} {mg : Str → Option Value} {base : Heap} {CL CN CZ CT : Addr} (C_line_value : Cl P w K mg base (L2.CX P w) 4 "line_value" s_line_value ["line", "number"] (spRV CL CN)) {X : Cx} {m : Nat}
    (hX : X.env.cells = cellsFrom m (defScope sLin).names []) (hq : X.env.qual ++ "<lambda>" = qLin) {H : Hp} {v u : V} {t : Str} (hv : Val (noT H) v false) (hs : Sh K (noT H) v t) (hl : Val (noT H) u true) :
    ∀ d, Heeds P w K mg base 7 X [("_law_odd", 0), ("_law_line", 1)] [(0, v), (1, u)] H (Says K CL CN CZ CT [.str "line", .str t, .bl true]) (madeAt X (lamArgs (lLin 1)) (lamBody (lLin 1)) (lamScope (lLin 1)) d) := by
  have sz : ∀ {n : Nat}, n ≤ 1000 → n ≤ sizeLine := fun h => Nat.le_of_lt (small1000 h)
  refine good_mk (s := sLin) (l := lLin 1) (vs := [v]) (rd := rd_Lin_1 CL CN CZ CT v) hX hq (by decide +kernel) (by decide +kernel) (lam_Lin_1 C_line_value) rfl (fun j y e => ?_) (says_line (v := v) ?_ hs)
  · match j, e with
    | 0, e => obtain rfl := Option.some.inj e; exact ⟨by decide +kernel, 0, by simp, fun w ew => by obtain rfl := Option.some.inj ew; simp⟩
    | j + 1, e => cases e
  · intro G1 Q1 E1 s2 h
    have h : Ref CL v G1 E1 := h
    exact ⟨_, rfl, v, .non, rfl, .inl ⟨hv.same s2, h⟩⟩
theorem good_Lin_2 {P : Program} {w : World} {K : PySem.W.Frag} {mg : Str → Option Value} {base : Heap} {CL CN CZ CT : Addr} (C_line_slope : Cl P w K mg base (L2.CX P w) 4 "line_slope" s_line_slope ["line"] (spR1 CL)) {X : Cx} {m : Nat}
    (hX : X.env.cells = cellsFrom m (defScope sLin).names []) (hq : X.env.qual ++ "<lambda>" = qLin) {H : Hp} {v u : V} {t : Str} (hv : Val (noT H) v false) (hs : Sh K (noT H) v t) (hl : Val (noT H) u true) :
    ∀ d, Heeds P w K mg base 7 X [("_law_odd", 0), ("_law_line", 1)] [(0, v), (1, u)] H (Says K CL CN CZ CT [.str "line", .str t, .bl true]) (madeAt X (lamArgs (lLin 2)) (lamBody (lLin 2)) (lamScope (lLin 2)) d) := by
  have sz : ∀ {n : Nat}, n ≤ 1000 → n ≤ sizeLine := fun h => Nat.le_of_lt (small1000 h)
  refine good_mk (s := sLin) (l := lLin 2) (vs := [v]) (rd := rd_Lin_2 CL CN CZ CT v) hX hq (by decide +kernel) (by decide +kernel) (lam_Lin_2 C_line_slope) rfl (fun j y e => ?_) (says_line (v := v) ?_ hs)
  · match j, e with
    | 0, e => obtain rfl := Option.some.inj e; exact ⟨by decide +kernel, 0, by simp, fun w ew => by obtain rfl := Option.some.inj ew; simp⟩
    | j + 1, e => cases e
  · intro G1 Q1 E1 s2 h
    have h : Ref CL v G1 E1 := h
    exact ⟨_, rfl, v, rfl, hv.same s2, h⟩
theorem good_Lin_3 {P : Program} {w : World} {K : PySem.W.Frag} {mg : Str → Option Value} {base : Heap} {CL CN CZ CT : Addr} (C_plain_line : Cl P w K mg base (L2.CX P w) 4 "plain_line" s_plain_line ["line"] (spR1 CL)) {X : Cx} {m : Nat}
    (hX : X.env.cells = cellsFrom m (defScope sLin).names []) (hq : X.env.qual ++ "<lambda>" = qLin) {H : Hp} {v u : V} {t : Str} (hv : Val (noT H) v false) (hs : Sh K (noT H) v t) (hl : Val (noT H) u true) :
    ∀ d, Heeds P w K mg base 7 X [("_law_odd", 0), ("_law_line", 1)] [(0, v), (1, u)] H (Says K CL CN CZ CT [.str "line", .str t, .bl true]) (madeAt X (lamArgs (lLin 3)) (lamBody (lLin 3)) (lamScope (lLin 3)) d) := by
  have sz : ∀ {n : Nat}, n ≤ 1000 → n ≤ sizeLine := fun h => Nat.le_of_lt (small1000 h)
  refine good_mk (s := sLin) (l := lLin 3) (vs := [v]) (rd := rd_Lin_3 CL CN CZ CT v) hX hq (by decide +kernel) (by decide +kernel) (lam_Lin_3 C_plain_line) rfl (fun j y e => ?_) (says_line (v := v) ?_ hs)
  · match j, e with
    | 0, e => obtain rfl := Option.some.inj e; exact ⟨by decide +kernel, 0, by simp, fun w ew => by obtain rfl := Option.some.inj ew; simp⟩
    | j + 1, e => cases e
  · intro G1 Q1 E1 s2 h
    have h : Ref CL v G1 E1 := h
    exact ⟨_, rfl, v, rfl, hv.same s2, h⟩
theorem good_Lin_4 {P : Program} {w : World} {K : PySem.W.Frag} {mg : Str → Option Value} {base : Heap} {CL CN CZ CT : Addr} (C_line_sum : Cl P w K mg base (L2.CX P w) 5 "line_sum" s_line_sum ["line", "other"] (spR2 CL)) {X : Cx} {m : Nat}
    (hX : X.env.cells = cellsFrom m (defScope sLin).names []) (hq : X.env.qual ++ "<lambda>" = qLin) {H : Hp} {v u : V} {t : Str} (hv : Val (noT H) v false) (hs : Sh K (noT H) v t) (hl : Val (noT H) u true) :
    ∀ d, Heeds P w K mg base 7 X [("_law_odd", 0), ("_law_line", 1)] [(0, v), (1, u)] H (Says K CL CN CZ CT [.str "line", .str t, .bl true]) (madeAt X (lamArgs (lLin 4)) (lamBody (lLin 4)) (lamScope (lLin 4)) d) := by
  have sz : ∀ {n : Nat}, n ≤ 1000 → n ≤ sizeLine := fun h => Nat.le_of_lt (small1000 h)
  refine good_mk (s := sLin) (l := lLin 4) (vs := [v]) (rd := rd_Lin_4 CL CN CZ CT v) hX hq (by decide +kernel) (by decide +kernel) (lam_Lin_4 C_line_sum) rfl (fun j y e => ?_) (says_line (v := v) ?_ hs)
  · match j, e with
    | 0, e => obtain rfl := Option.some.inj e; exact ⟨by decide +kernel, 0, by simp, fun w ew => by obtain rfl := Option.some.inj ew; simp⟩
    | j + 1, e => cases e
  · intro G1 Q1 E1 s2 h
    have h : Ref CL v G1 E1 := h
    exact ⟨_, rfl, v, .non, false, false, rfl, hv.same s2, (.oth .non (by decide)), .inl ⟨rfl, h⟩⟩
theorem good_Lin_5 {P : Program} {w : World} {K : PySem.W.Frag} {mg : Str → Option Value} {base : Heap} {CL CN CZ CT : Addr} (C_line_sum : Cl P w K mg base (L2.CX P w) 5 "line_sum" s_line_sum ["line", "other"] (spR2 CL)) {X : Cx} {m : Nat}
    (hX : X.env.cells = cellsFrom m (defScope sLin).names []) (hq : X.env.qual ++ "<lambda>" = qLin) {H : Hp} {v u : V} {t : Str} (hv : Val (noT H) v false) (hs : Sh K (noT H) v t) (hl : Val (noT H) u true) :
    ∀ d, Heeds P w K mg base 7 X [("_law_odd", 0), ("_law_line", 1)] [(0, v), (1, u)] H (Says K CL CN CZ CT [.str "line", .str t, .bl true]) (madeAt X (lamArgs (lLin 5)) (lamBody (lLin 5)) (lamScope (lLin 5)) d) := by
  have sz : ∀ {n : Nat}, n ≤ 1000 → n ≤ sizeLine := fun h => Nat.le_of_lt (small1000 h)
  refine good_mk (s := sLin) (l := lLin 5) (vs := [v, u]) (rd := rd_Lin_5 CL CN CZ CT v u) hX hq (by decide +kernel) (by decide +kernel) (lam_Lin_5 C_line_sum) rfl (fun j y e => ?_) (says_line (v := v) ?_ hs)
  · match j, e with
    | 0, e => obtain rfl := Option.some.inj e; exact ⟨by decide +kernel, 0, by simp, fun w ew => by obtain rfl := Option.some.inj ew; simp⟩
    | 1, e => obtain rfl := Option.some.inj e; exact ⟨by decide +kernel, 1, by simp, fun w ew => by obtain rfl := Option.some.inj ew; simp⟩
    | j + 2, e => cases e
  · intro G1 Q1 E1 s2 h
    have h : Ref CL v G1 E1 := h
    exact ⟨_, rfl, _, rfl, u, v, true, false, rfl, hl.same s2, hv.same s2, .inr ⟨rfl, rfl, h⟩⟩
theorem good_Lin_6 {P : Program} {w : World} {K : PySem.W.Frag} {mg : Str → Option Value} {base : Heap} {CL CN CZ CT : Addr} (C_line_less : Cl P w K mg base (L2.CX P w) 5 "line_less" s_line_less ["line", "other"] (spR2 CL)) {X : Cx} {m : Nat}
    (hX : X.env.cells = cellsFrom m (defScope sLin).names []) (hq : X.env.qual ++ "<lambda>" = qLin) {H : Hp} {v u : V} {t : Str} (hv : Val (noT H) v false) (hs : Sh K (noT H) v t) (hl : Val (noT H) u true) :
    ∀ d, Heeds P w K mg base 7 X [("_law_odd", 0), ("_law_line", 1)] [(0, v), (1, u)] H (Says K CL CN CZ CT [.str "line", .str t, .bl true]) (madeAt X (lamArgs (lLin 6)) (lamBody (lLin 6)) (lamScope (lLin 6)) d) := by
  have sz : ∀ {n : Nat}, n ≤ 1000 → n ≤ sizeLine := fun h => Nat.le_of_lt (small1000 h)
  refine good_mk (s := sLin) (l := lLin 6) (vs := [v, u]) (rd := rd_Lin_6 CL CN CZ CT v u) hX hq (by decide +kernel) (by decide +kernel) (lam_Lin_6 C_line_less) rfl (fun j y e => ?_) (says_line (v := v) ?_ hs)
  · match j, e with
    | 0, e => obtain rfl := Option.some.inj e; exact ⟨by decide +kernel, 0, by simp, fun w ew => by obtain rfl := Option.some.inj ew; simp⟩
    | 1, e => obtain rfl := Option.some.inj e; exact ⟨by decide +kernel, 1, by simp, fun w ew => by obtain rfl := Option.some.inj ew; simp⟩
    | j + 2, e => cases e
  · intro G1 Q1 E1 s2 h
    have h : Ref CL v G1 E1 := h
    exact ⟨_, rfl, _, rfl, v, u, false, true, rfl, hv.same s2, hl.same s2, .inl ⟨rfl, h⟩⟩
theorem good_Lin_7 {P : Program} {w : World} {K : PySem.W.Frag} {mg : Str → Option Value} {base : Heap} {CL CN CZ CT : Addr} (C_line_less : Cl P w K mg base (L2.CX P w) 5 "line_less" s_line_less ["line", "other"] (spR2 CL)) {X : Cx} {m : Nat}
    (hX : X.env.cells = cellsFrom m (defScope sLin).names []) (hq : X.env.qual ++ "<lambda>" = qLin) {H : Hp} {v u : V} {t : Str} (hv : Val (noT H) v false) (hs : Sh K (noT H) v t) (hl : Val (noT H) u true) :
    ∀ d, Heeds P w K mg base 7 X [("_law_odd", 0), ("_law_line", 1)] [(0, v), (1, u)] H (Says K CL CN CZ CT [.str "line", .str t, .bl true]) (madeAt X (lamArgs (lLin 7)) (lamBody (lLin 7)) (lamScope (lLin 7)) d) := by
  have sz : ∀ {n : Nat}, n ≤ 1000 → n ≤ sizeLine := fun h => Nat.le_of_lt (small1000 h)
  refine good_mk (s := sLin) (l := lLin 7) (vs := [u, v]) (rd := rd_Lin_7 CL CN CZ CT u v) hX hq (by decide +kernel) (by decide +kernel) (lam_Lin_7 C_line_less) rfl (fun j y e => ?_) (says_line (v := v) ?_ hs)
  · match j, e with
    | 0, e => obtain rfl := Option.some.inj e; exact ⟨by decide +kernel, 1, by simp, fun w ew => by obtain rfl := Option.some.inj ew; simp⟩
    | 1, e => obtain rfl := Option.some.inj e; exact ⟨by decide +kernel, 0, by simp, fun w ew => by obtain rfl := Option.some.inj ew; simp⟩
    | j + 2, e => cases e
  · intro G1 Q1 E1 s2 h
    have h : Ref CL v G1 E1 := h
    exact ⟨_, rfl, _, rfl, u, v, true, false, rfl, hl.same s2, hv.same s2, .inr ⟨rfl, rfl, h⟩⟩
theorem good_Lin_8 {P : Program} {w : World} {K : PySem.W.Frag} {mg : Str → Option Value} {base : Heap} {CL CN CZ CT : Addr} (C_line_times : Cl P w K mg base (L2.CX P w) 5 "line_times" s_line_times ["line", "other"] (spRT CL CT)) {X : Cx} {m : Nat}
    (hX : X.env.cells = cellsFrom m (defScope sLin).names []) (hq : X.env.qual ++ "<lambda>" = qLin) {H : Hp} {v u : V} {t : Str} (hv : Val (noT H) v false) (hs : Sh K (noT H) v t) (hl : Val (noT H) u true) :
    ∀ d, Heeds P w K mg base 7 X [("_law_odd", 0), ("_law_line", 1)] [(0, v), (1, u)] H (Says K CL CN CZ CT [.str "line", .str t, .bl true]) (madeAt X (lamArgs (lLin 8)) (lamBody (lLin 8)) (lamScope (lLin 8)) d) := by
  have sz : ∀ {n : Nat}, n ≤ 1000 → n ≤ sizeLine := fun h => Nat.le_of_lt (small1000 h)
  refine good_mk (s := sLin) (l := lLin 8) (vs := [v, u]) (rd := rd_Lin_8 CL CN CZ CT v u) hX hq (by decide +kernel) (by decide +kernel) (lam_Lin_8 C_line_times) rfl (fun j y e => ?_) (says_line (v := v) ?_ hs)
  · match j, e with
    | 0, e => obtain rfl := Option.some.inj e; exact ⟨by decide +kernel, 0, by simp, fun w ew => by obtain rfl := Option.some.inj ew; simp⟩
    | 1, e => obtain rfl := Option.some.inj e; exact ⟨by decide +kernel, 1, by simp, fun w ew => by obtain rfl := Option.some.inj ew; simp⟩
    | j + 2, e => cases e
  · intro G1 Q1 E1 s2 h
    have h : Ref CL v G1 E1 := h
    exact ⟨_, rfl, _, rfl, v, u, false, true, rfl, hv.same s2, hl.same s2, .inl ⟨rfl, h⟩⟩
theorem good_Lin_9 {P : Program} {w : World} {K : PySem.W.Frag} {mg : Str → Option Value} {base : Heap} {CL CN CZ CT : Addr} (C_line_times : Cl P w K mg base (L2.CX P w) 5 "line_times" s_line_times ["line", "other"] (spRT CL CT)) {X : Cx} {m : Nat}
    (hX : X.env.cells = cellsFrom m (defScope sLin).names []) (hq : X.env.qual ++ "<lambda>" = qLin) {H : Hp} {v u : V} {t : Str} (hv : Val (noT H) v false) (hs : Sh K (noT H) v t) (hl : Val (noT H) u true) :
    ∀ d, Heeds P w K mg base 7 X [("_law_odd", 0), ("_law_line", 1)] [(0, v), (1, u)] H (Says K CL CN CZ CT [.str "line", .str t, .bl true]) (madeAt X (lamArgs (lLin 9)) (lamBody (lLin 9)) (lamScope (lLin 9)) d) := by
  have sz : ∀ {n : Nat}, n ≤ 1000 → n ≤ sizeLine := fun h => Nat.le_of_lt (small1000 h)
  refine good_mk (s := sLin) (l := lLin 9) (vs := [v]) (rd := rd_Lin_9 CL CN CZ CT v) hX hq (by decide +kernel) (by decide +kernel) (lam_Lin_9 C_line_times) rfl (fun j y e => ?_) (says_line (v := v) ?_ hs)
  · match j, e with
    | 0, e => obtain rfl := Option.some.inj e; exact ⟨by decide +kernel, 0, by simp, fun w ew => by obtain rfl := Option.some.inj ew; simp⟩
    | j + 1, e => cases e
  · intro G1 Q1 E1 s2 h
    have h : Ref CL v G1 E1 := h
    exact ⟨_, rfl, sz (by decide : 0 ≤ 1000), fun m m0 => ⟨.ref m, v, true, false, rfl, (.lst (xs := []) upd_same (fun x hx => nomatch hx) (by decide)), hv.same (s2.trans (Same.put m0)), .inr (.inl ⟨rfl, rfl, h.later (Same.put m0)⟩)⟩⟩
theorem good_Lin_10 {P : Program} {w : World} {K : PySem.W.Frag} {mg : Str → Option Value} {base : Heap} {CL CN CZ CT : Addr} (C_line_divided : Cl P w K mg base (L2.CX P w) 5 "line_divided" s_line_divided ["line", "other"] (spRZ CL CZ)) {X : Cx} {m : Nat}
    (hX : X.env.cells = cellsFrom m (defScope sLin).names []) (hq : X.env.qual ++ "<lambda>" = qLin) {H : Hp} {v u : V} {t : Str} (hv : Val (noT H) v false) (hs : Sh K (noT H) v t) (hl : Val (noT H) u true) :
    ∀ d, Heeds P w K mg base 7 X [("_law_odd", 0), ("_law_line", 1)] [(0, v), (1, u)] H (Says K CL CN CZ CT [.str "line", .str t, .bl true]) (madeAt X (lamArgs (lLin 10)) (lamBody (lLin 10)) (lamScope (lLin 10)) d) := by
  have sz : ∀ {n : Nat}, n ≤ 1000 → n ≤ sizeLine := fun h => Nat.le_of_lt (small1000 h)
  refine good_mk (s := sLin) (l := lLin 10) (vs := [v]) (rd := rd_Lin_10 CL CN CZ CT v) hX hq (by decide +kernel) (by decide +kernel) (lam_Lin_10 C_line_divided) rfl (fun j y e => ?_) (says_line (v := v) ?_ hs)
  · match j, e with
    | 0, e => obtain rfl := Option.some.inj e; exact ⟨by decide +kernel, 0, by simp, fun w ew => by obtain rfl := Option.some.inj ew; simp⟩
    | j + 1, e => cases e
  · intro G1 Q1 E1 s2 h
    have h : Ref CL v G1 E1 := h
    exact ⟨_, rfl, sz (by decide : 0 ≤ 1000), fun m m0 => ⟨v, .ref m, false, true, rfl, hv.same (s2.trans (Same.put m0)), (.lst (xs := []) upd_same (fun x hx => nomatch hx) (by decide)), .inl ⟨rfl, h.later (Same.put m0)⟩⟩⟩
theorem good_Lin_11 {P : Program} {w : World} {K : PySem.W.Frag} {mg : Str → Option Value} {base : Heap} {CL CN CZ CT : Addr} (C_line_divided : Cl P w K mg base (L2.CX P w) 5 "line_divided" s_line_divided ["line", "other"] (spRZ CL CZ)) {X : Cx} {m : Nat}
    (hX : X.env.cells = cellsFrom m (defScope sLin).names []) (hq : X.env.qual ++ "<lambda>" = qLin) {H : Hp} {v u : V} {t : Str} (hv : Val (noT H) v false) (hs : Sh K (noT H) v t) (hl : Val (noT H) u true) :
    ∀ d, Heeds P w K mg base 7 X [("_law_odd", 0), ("_law_line", 1)] [(0, v), (1, u)] H (Says K CL CN CZ CT [.str "line", .str t, .bl true]) (madeAt X (lamArgs (lLin 11)) (lamBody (lLin 11)) (lamScope (lLin 11)) d) := by
  have sz : ∀ {n : Nat}, n ≤ 1000 → n ≤ sizeLine := fun h => Nat.le_of_lt (small1000 h)
  refine good_mk (s := sLin) (l := lLin 11) (vs := [u, v]) (rd := rd_Lin_11 CL CN CZ CT u v) hX hq (by decide +kernel) (by decide +kernel) (lam_Lin_11 C_line_divided) rfl (fun j y e => ?_) (says_line (v := v) ?_ hs)
  · match j, e with
    | 0, e => obtain rfl := Option.some.inj e; exact ⟨by decide +kernel, 1, by simp, fun w ew => by obtain rfl := Option.some.inj ew; simp⟩
    | 1, e => obtain rfl := Option.some.inj e; exact ⟨by decide +kernel, 0, by simp, fun w ew => by obtain rfl := Option.some.inj ew; simp⟩
    | j + 2, e => cases e
  · intro G1 Q1 E1 s2 h
    have h : Ref CL v G1 E1 := h
    exact ⟨_, rfl, _, rfl, u, v, true, false, rfl, hl.same s2, hv.same s2, .inr (.inl ⟨rfl, rfl, h⟩)⟩
theorem good_Lin_12 {P : Program} {w : World} {K : PySem.W.Frag} {mg : Str → Option Value} {base : Heap} {CL CN CZ CT : Addr} (C_line_common : Cl P w K mg base (L2.CX P w) 5 "line_common" s_line_common ["line", "other"] (spR2 CL)) {X : Cx} {m : Nat}
    (hX : X.env.cells = cellsFrom m (defScope sLin).names []) (hq : X.env.qual ++ "<lambda>" = qLin) {H : Hp} {v u : V} {t : Str} (hv : Val (noT H) v false) (hs : Sh K (noT H) v t) (hl : Val (noT H) u true) :
    ∀ d, Heeds P w K mg base 7 X [("_law_odd", 0), ("_law_line", 1)] [(0, v), (1, u)] H (Says K CL CN CZ CT [.str "line", .str t, .bl true]) (madeAt X (lamArgs (lLin 12)) (lamBody (lLin 12)) (lamScope (lLin 12)) d) := by
  have sz : ∀ {n : Nat}, n ≤ 1000 → n ≤ sizeLine := fun h => Nat.le_of_lt (small1000 h)
  refine good_mk (s := sLin) (l := lLin 12) (vs := [v, u]) (rd := rd_Lin_12 CL CN CZ CT v u) hX hq (by decide +kernel) (by decide +kernel) (lam_Lin_12 C_line_common) rfl (fun j y e => ?_) (says_line (v := v) ?_ hs)
  · match j, e with
    | 0, e => obtain rfl := Option.some.inj e; exact ⟨by decide +kernel, 0, by simp, fun w ew => by obtain rfl := Option.some.inj ew; simp⟩
    | 1, e => obtain rfl := Option.some.inj e; exact ⟨by decide +kernel, 1, by simp, fun w ew => by obtain rfl := Option.some.inj ew; simp⟩
    | j + 2, e => cases e
  · intro G1 Q1 E1 s2 h
    have h : Ref CL v G1 E1 := h
    exact ⟨_, rfl, _, rfl, v, u, false, true, rfl, hv.same s2, hl.same s2, .inl ⟨rfl, h⟩⟩
theorem good_Lin_13 {P : Program} {w : World} {K : PySem.W.Frag} {mg : Str → Option Value} {base : Heap} {CL CN CZ CT : Addr} (C_line_common : Cl P w K mg base (L2.CX P w) 5 "line_common" s_line_common ["line", "other"] (spR2 CL)) {X : Cx} {m : Nat}
    (hX : X.env.cells = cellsFrom m (defScope sLin).names []) (hq : X.env.qual ++ "<lambda>" = qLin) {H : Hp} {v u : V} {t : Str} (hv : Val (noT H) v false) (hs : Sh K (noT H) v t) (hl : Val (noT H) u true) :
    ∀ d, Heeds P w K mg base 7 X [("_law_odd", 0), ("_law_line", 1)] [(0, v), (1, u)] H (Says K CL CN CZ CT [.str "line", .str t, .bl true]) (madeAt X (lamArgs (lLin 13)) (lamBody (lLin 13)) (lamScope (lLin 13)) d) := by
  have sz : ∀ {n : Nat}, n ≤ 1000 → n ≤ sizeLine := fun h => Nat.le_of_lt (small1000 h)
  refine good_mk (s := sLin) (l := lLin 13) (vs := [u, v]) (rd := rd_Lin_13 CL CN CZ CT u v) hX hq (by decide +kernel) (by decide +kernel) (lam_Lin_13 C_line_common) rfl (fun j y e => ?_) (says_line (v := v) ?_ hs)
  · match j, e with
    | 0, e => obtain rfl := Option.some.inj e; exact ⟨by decide +kernel, 1, by simp, fun w ew => by obtain rfl := Option.some.inj ew; simp⟩
    | 1, e => obtain rfl := Option.some.inj e; exact ⟨by decide +kernel, 0, by simp, fun w ew => by obtain rfl := Option.some.inj ew; simp⟩
    | j + 2, e => cases e
  · intro G1 Q1 E1 s2 h
    have h : Ref CL v G1 E1 := h
    exact ⟨_, rfl, _, rfl, rfl, rfl, u, v, true, false, rfl, hl.same s2, hv.same s2, .inr ⟨rfl, rfl, h⟩⟩
theorem good_Lin_14 {P : Program} {w : World} {K : PySem.W.Frag} {mg : Str → Option Value} {base : Heap} {CL CN CZ CT : Addr} (C_resultant : Cl P w K mg base (L2.CX P w) 5 "resultant" s_resultant ["line", "other"] (spRZ2 CL CZ)) {X : Cx} {m : Nat}
    (hX : X.env.cells = cellsFrom m (defScope sLin).names []) (hq : X.env.qual ++ "<lambda>" = qLin) {H : Hp} {v u : V} {t : Str} (hv : Val (noT H) v false) (hs : Sh K (noT H) v t) (hl : Val (noT H) u true) :
    ∀ d, Heeds P w K mg base 7 X [("_law_odd", 0), ("_law_line", 1)] [(0, v), (1, u)] H (Says K CL CN CZ CT [.str "line", .str t, .bl true]) (madeAt X (lamArgs (lLin 14)) (lamBody (lLin 14)) (lamScope (lLin 14)) d) := by
  have sz : ∀ {n : Nat}, n ≤ 1000 → n ≤ sizeLine := fun h => Nat.le_of_lt (small1000 h)
  refine good_mk (s := sLin) (l := lLin 14) (vs := [v]) (rd := rd_Lin_14 CL CN CZ CT v) hX hq (by decide +kernel) (by decide +kernel) (lam_Lin_14 C_resultant) rfl (fun j y e => ?_) (says_line (v := v) ?_ hs)
  · match j, e with
    | 0, e => obtain rfl := Option.some.inj e; exact ⟨by decide +kernel, 0, by simp, fun w ew => by obtain rfl := Option.some.inj ew; simp⟩
    | j + 1, e => cases e
  · intro G1 Q1 E1 s2 h
    have h : Ref CL v G1 E1 := h
    exact ⟨_, rfl, sz (by decide : 0 ≤ 1000), fun m m0 => ⟨v, .ref m, false, true, rfl, hv.same (s2.trans (Same.put m0)), (.lst (xs := []) upd_same (fun x hx => nomatch hx) (by decide)), .inl ⟨rfl, h.later (Same.put m0)⟩⟩⟩
theorem good_Lin_15 {P : Program} {w : World} {K : PySem.W.Frag} {mg : Str → Option Value} {base : Heap} {CL CN CZ CT : Addr} (C_resultant : Cl P w K mg base (L2.CX P w) 5 "resultant" s_resultant ["line", "other"] (spRZ2 CL CZ)) {X : Cx} {m : Nat}
    (hX : X.env.cells = cellsFrom m (defScope sLin).names []) (hq : X.env.qual ++ "<lambda>" = qLin) {H : Hp} {v u : V} {t : Str} (hv : Val (noT H) v false) (hs : Sh K (noT H) v t) (hl : Val (noT H) u true) :
    ∀ d, Heeds P w K mg base 7 X [("_law_odd", 0), ("_law_line", 1)] [(0, v), (1, u)] H (Says K CL CN CZ CT [.str "line", .str t, .bl true]) (madeAt X (lamArgs (lLin 15)) (lamBody (lLin 15)) (lamScope (lLin 15)) d) := by
  have sz : ∀ {n : Nat}, n ≤ 1000 → n ≤ sizeLine := fun h => Nat.le_of_lt (small1000 h)
  refine good_mk (s := sLin) (l := lLin 15) (vs := [v]) (rd := rd_Lin_15 CL CN CZ CT v) hX hq (by decide +kernel) (by decide +kernel) (lam_Lin_15 C_resultant) rfl (fun j y e => ?_) (says_line (v := v) ?_ hs)
  · match j, e with
    | 0, e => obtain rfl := Option.some.inj e; exact ⟨by decide +kernel, 0, by simp, fun w ew => by obtain rfl := Option.some.inj ew; simp⟩
    | j + 1, e => cases e
  · intro G1 Q1 E1 s2 h
    have h : Ref CL v G1 E1 := h
    exact ⟨sz (by decide : 0 ≤ 1000), fun m m0 => ⟨_, rfl, .ref m, v, true, false, rfl, (.lst (xs := []) upd_same (fun x hx => nomatch hx) (by decide)), hv.same (s2.trans (Same.put m0)), .inr (.inl ⟨rfl, rfl, h.later (Same.put m0)⟩)⟩⟩
theorem good_Lin_16 {P : Program} {w : World} {K : PySem.W.Frag} {mg : Str → Option Value} {base : Heap} {CL CN CZ CT : Addr} (C_plain_parts : Cl P w K mg base (L2.CX P w) 5 "plain_parts" s_plain_parts ["line"] (spR0 CL CZ)) {X : Cx} {m : Nat}
    (hX : X.env.cells = cellsFrom m (defScope sLin).names []) (hq : X.env.qual ++ "<lambda>" = qLin) {H : Hp} {v u : V} {t : Str} (hv : Val (noT H) v false) (hs : Sh K (noT H) v t) (hl : Val (noT H) u true) :
    ∀ d, Heeds P w K mg base 7 X [("_law_odd", 0), ("_law_line", 1)] [(0, v), (1, u)] H (Says K CL CN CZ CT [.str "line", .str t, .bl true]) (madeAt X (lamArgs (lLin 16)) (lamBody (lLin 16)) (lamScope (lLin 16)) d) := by
  have sz : ∀ {n : Nat}, n ≤ 1000 → n ≤ sizeLine := fun h => Nat.le_of_lt (small1000 h)
  refine good_mk (s := sLin) (l := lLin 16) (vs := [v]) (rd := rd_Lin_16 CL CN CZ CT v) hX hq (by decide +kernel) (by decide +kernel) (lam_Lin_16 C_plain_parts) rfl (fun j y e => ?_) (says_line (v := v) ?_ hs)
  · match j, e with
    | 0, e => obtain rfl := Option.some.inj e; exact ⟨by decide +kernel, 0, by simp, fun w ew => by obtain rfl := Option.some.inj ew; simp⟩
    | j + 1, e => cases e
  · intro G1 Q1 E1 s2 h
    have h : Ref CL v G1 E1 := h
    exact ⟨_, rfl, v, rfl, .inl ⟨hv.same s2, h⟩⟩
theorem good_Lin_17 {P : Program} {w : World} {K : PySem.W.Frag} {mg : Str → Option Value} {base : Heap} {CL CN CZ CT : Addr} (C_whole_roots : Cl P w K mg base (L2.CX P w) 5 "whole_roots" s_whole_roots ["line"] (spR0 CL CZ)) {X : Cx} {m : Nat}
    (hX : X.env.cells = cellsFrom m (defScope sLin).names []) (hq : X.env.qual ++ "<lambda>" = qLin) {H : Hp} {v u : V} {t : Str} (hv : Val (noT H) v false) (hs : Sh K (noT H) v t) (hl : Val (noT H) u true) :
    ∀ d, Heeds P w K mg base 7 X [("_law_odd", 0), ("_law_line", 1)] [(0, v), (1, u)] H (Says K CL CN CZ CT [.str "line", .str t, .bl true]) (madeAt X (lamArgs (lLin 17)) (lamBody (lLin 17)) (lamScope (lLin 17)) d) := by
  have sz : ∀ {n : Nat}, n ≤ 1000 → n ≤ sizeLine := fun h => Nat.le_of_lt (small1000 h)
  refine good_mk (s := sLin) (l := lLin 17) (vs := [v]) (rd := rd_Lin_17 CL CN CZ CT v) hX hq (by decide +kernel) (by decide +kernel) (lam_Lin_17 C_whole_roots) rfl (fun j y e => ?_) (says_line (v := v) ?_ hs)
  · match j, e with
    | 0, e => obtain rfl := Option.some.inj e; exact ⟨by decide +kernel, 0, by simp, fun w ew => by obtain rfl := Option.some.inj ew; simp⟩
    | j + 1, e => cases e
  · intro G1 Q1 E1 s2 h
    have h : Ref CL v G1 E1 := h
    exact ⟨_, rfl, v, rfl, .inl ⟨hv.same s2, h⟩⟩
theorem good_Lin_18 {P : Program} {w : World} {K : PySem.W.Frag} {mg : Str → Option Value} {base : Heap} {CL CN CZ CT : Addr} (C_monic_parts : Cl P w K mg base (L2.CX P w) 4 "monic_parts" s_monic_parts ["line"] (spRM CL)) {X : Cx} {m : Nat}
    (hX : X.env.cells = cellsFrom m (defScope sLin).names []) (hq : X.env.qual ++ "<lambda>" = qLin) {H : Hp} {v u : V} {t : Str} (hv : Val (noT H) v false) (hs : Sh K (noT H) v t) (hl : Val (noT H) u true) :
    ∀ d, Heeds P w K mg base 7 X [("_law_odd", 0), ("_law_line", 1)] [(0, v), (1, u)] H (Says K CL CN CZ CT [.str "line", .str t, .bl true]) (madeAt X (lamArgs (lLin 18)) (lamBody (lLin 18)) (lamScope (lLin 18)) d) := by
  have sz : ∀ {n : Nat}, n ≤ 1000 → n ≤ sizeLine := fun h => Nat.le_of_lt (small1000 h)
  refine good_mk (s := sLin) (l := lLin 18) (vs := [v]) (rd := rd_Lin_18 CL CN CZ CT v) hX hq (by decide +kernel) (by decide +kernel) (lam_Lin_18 C_monic_parts) rfl (fun j y e => ?_) (says_line (v := v) ?_ hs)
  · match j, e with
    | 0, e => obtain rfl := Option.some.inj e; exact ⟨by decide +kernel, 0, by simp, fun w ew => by obtain rfl := Option.some.inj ew; simp⟩
    | j + 1, e => cases e
  · intro G1 Q1 E1 s2 h
    have h : Ref CL v G1 E1 := h
    exact ⟨_, rfl, v, rfl, .inl (hv.same s2), h⟩
theorem ok__law_lines_right {P : Program} {w : World} {K : PySem.W.Frag} {mg : Str → Option Value} {base : Heap} (T : Top K mg) {CL CN CZ CT : Addr} (X : Exc K mg CL CN CZ CT) {TT : List (Addr × Str)} {c Pt : Addr}
    (D : DfC K mg "_law_lines_right" sLin ["_law_odd", "_law_line"] c) (B : LamX.TabB base mg c Pt) (mem : (Pt, qLin) ∈ TT) (own : ∀ p ∈ TT, p.1 = Pt → p.2 = qLin)
    (C_degree : Cl P w K mg base (L2.CX P w) 4 "degree" s_degree ["line"] (spR1 CL))
    (C_line_value : Cl P w K mg base (L2.CX P w) 4 "line_value" s_line_value ["line", "number"] (spRV CL CN))
    (C_line_slope : Cl P w K mg base (L2.CX P w) 4 "line_slope" s_line_slope ["line"] (spR1 CL))
    (C_plain_line : Cl P w K mg base (L2.CX P w) 4 "plain_line" s_plain_line ["line"] (spR1 CL))
    (C_line_sum : Cl P w K mg base (L2.CX P w) 5 "line_sum" s_line_sum ["line", "other"] (spR2 CL))
    (C_line_less : Cl P w K mg base (L2.CX P w) 5 "line_less" s_line_less ["line", "other"] (spR2 CL))
    (C_line_times : Cl P w K mg base (L2.CX P w) 5 "line_times" s_line_times ["line", "other"] (spRT CL CT))
    (C_line_divided : Cl P w K mg base (L2.CX P w) 5 "line_divided" s_line_divided ["line", "other"] (spRZ CL CZ))
    (C_line_common : Cl P w K mg base (L2.CX P w) 5 "line_common" s_line_common ["line", "other"] (spR2 CL))
    (C_resultant : Cl P w K mg base (L2.CX P w) 5 "resultant" s_resultant ["line", "other"] (spRZ2 CL CZ))
    (C_plain_parts : Cl P w K mg base (L2.CX P w) 5 "plain_parts" s_plain_parts ["line"] (spR0 CL CZ))
    (C_whole_roots : Cl P w K mg base (L2.CX P w) 5 "whole_roots" s_whole_roots ["line"] (spR0 CL CZ))
    (C_monic_parts : Cl P w K mg base (L2.CX P w) 4 "monic_parts" s_monic_parts ["line"] (spRM CL))
    (C__law_are : Cl P w K mg base CX0 9 "_law_are" s__law_are ["_law_calls", "_law_due"] (spAre P w K mg base CL CN CZ CT 7)) :
    Cl P w K mg base CX0 10 "_law_lines_right" sLin ["_law_odd", "_law_line"] (spLinR K TT) := by
  refine D.cl S__law_lines_right (fun vs H Q E h => by obtain ⟨_, _, _, rfl, _⟩ := h; rfl) ?_
  rintro f A out s H vs Q E hG hr ⟨v, u, t, rfl, hok, hv, hs, hl, tt, q⟩
  refine ⟨_, PSs.nox pss_goes, ?_⟩
  refine Goes.first (i := 2) (Ok := Heeds P w K mg base 7 _ [("_law_odd", 0), ("_law_line", 1)] [(0, v), (1, u)] H (Says K CL CN CZ CT [.str "line", .str t, .bl true])) (par := lamArgs (lLin 0)) (bd := lamBody (lLin 0)) (sc := lamScope (lLin 0)) B rfl mem own rfl (LamX.lamS_by (show LamX.lamSB (defScope sLin) (lamScope (lLin 0)) = true by decide +kernel)) S__law_lines_right.nd rfl (Or.inl rfl) tt (good_Lin_0 C_degree cells_cx qual_cx hv hs hl) fun l G0 k0 => ?_
  refine Goes.more (i := 2) (par := lamArgs (lLin 1)) (bd := lamBody (lLin 1)) (sc := lamScope (lLin 1)) B rfl mem own rfl (LamX.lamS_by (show LamX.lamSB (defScope sLin) (lamScope (lLin 1)) = true by decide +kernel)) rfl (Or.inl rfl) k0 (by decide) rfl (good_Lin_1 C_line_value cells_cx qual_cx hv hs hl) fun G1 k1 => ?_
  clear k0
  refine Goes.more (i := 2) (par := lamArgs (lLin 2)) (bd := lamBody (lLin 2)) (sc := lamScope (lLin 2)) B rfl mem own rfl (LamX.lamS_by (show LamX.lamSB (defScope sLin) (lamScope (lLin 2)) = true by decide +kernel)) rfl (Or.inl rfl) k1 (by decide) rfl (good_Lin_2 C_line_slope cells_cx qual_cx hv hs hl) fun G2 k2 => ?_
  clear k1
  refine Goes.more (i := 2) (par := lamArgs (lLin 3)) (bd := lamBody (lLin 3)) (sc := lamScope (lLin 3)) B rfl mem own rfl (LamX.lamS_by (show LamX.lamSB (defScope sLin) (lamScope (lLin 3)) = true by decide +kernel)) rfl (Or.inl rfl) k2 (by decide) rfl (good_Lin_3 C_plain_line cells_cx qual_cx hv hs hl) fun G3 k3 => ?_
  clear k2
  refine Goes.more (i := 2) (par := lamArgs (lLin 4)) (bd := lamBody (lLin 4)) (sc := lamScope (lLin 4)) B rfl mem own rfl (LamX.lamS_by (show LamX.lamSB (defScope sLin) (lamScope (lLin 4)) = true by decide +kernel)) rfl (Or.inl rfl) k3 (by decide) rfl (good_Lin_4 C_line_sum cells_cx qual_cx hv hs hl) fun G4 k4 => ?_
  clear k3
  refine Goes.more (i := 2) (par := lamArgs (lLin 5)) (bd := lamBody (lLin 5)) (sc := lamScope (lLin 5)) B rfl mem own rfl (LamX.lamS_by (show LamX.lamSB (defScope sLin) (lamScope (lLin 5)) = true by decide +kernel)) rfl (Or.inl rfl) k4 (by decide) rfl (good_Lin_5 C_line_sum cells_cx qual_cx hv hs hl) fun G5 k5 => ?_
  clear k4
  refine Goes.more (i := 2) (par := lamArgs (lLin 6)) (bd := lamBody (lLin 6)) (sc := lamScope (lLin 6)) B rfl mem own rfl (LamX.lamS_by (show LamX.lamSB (defScope sLin) (lamScope (lLin 6)) = true by decide +kernel)) rfl (Or.inl rfl) k5 (by decide) rfl (good_Lin_6 C_line_less cells_cx qual_cx hv hs hl) fun G6 k6 => ?_
  clear k5
  refine Goes.more (i := 2) (par := lamArgs (lLin 7)) (bd := lamBody (lLin 7)) (sc := lamScope (lLin 7)) B rfl mem own rfl (LamX.lamS_by (show LamX.lamSB (defScope sLin) (lamScope (lLin 7)) = true by decide +kernel)) rfl (Or.inl rfl) k6 (by decide) rfl (good_Lin_7 C_line_less cells_cx qual_cx hv hs hl) fun G7 k7 => ?_
  clear k6
  refine Goes.more (i := 2) (par := lamArgs (lLin 8)) (bd := lamBody (lLin 8)) (sc := lamScope (lLin 8)) B rfl mem own rfl (LamX.lamS_by (show LamX.lamSB (defScope sLin) (lamScope (lLin 8)) = true by decide +kernel)) rfl (Or.inl rfl) k7 (by decide) rfl (good_Lin_8 C_line_times cells_cx qual_cx hv hs hl) fun G8 k8 => ?_
  clear k7
  refine Goes.more (i := 2) (par := lamArgs (lLin 9)) (bd := lamBody (lLin 9)) (sc := lamScope (lLin 9)) B rfl mem own rfl (LamX.lamS_by (show LamX.lamSB (defScope sLin) (lamScope (lLin 9)) = true by decide +kernel)) rfl (Or.inl rfl) k8 (by decide) rfl (good_Lin_9 C_line_times cells_cx qual_cx hv hs hl) fun G9 k9 => ?_
  clear k8
  refine Goes.more (i := 2) (par := lamArgs (lLin 10)) (bd := lamBody (lLin 10)) (sc := lamScope (lLin 10)) B rfl mem own rfl (LamX.lamS_by (show LamX.lamSB (defScope sLin) (lamScope (lLin 10)) = true by decide +kernel)) rfl (Or.inl rfl) k9 (by decide) rfl (good_Lin_10 C_line_divided cells_cx qual_cx hv hs hl) fun G10 k10 => ?_
  clear k9
  refine Goes.more (i := 2) (par := lamArgs (lLin 11)) (bd := lamBody (lLin 11)) (sc := lamScope (lLin 11)) B rfl mem own rfl (LamX.lamS_by (show LamX.lamSB (defScope sLin) (lamScope (lLin 11)) = true by decide +kernel)) rfl (Or.inl rfl) k10 (by decide) rfl (good_Lin_11 C_line_divided cells_cx qual_cx hv hs hl) fun G11 k11 => ?_
  clear k10
  refine Goes.more (i := 2) (par := lamArgs (lLin 12)) (bd := lamBody (lLin 12)) (sc := lamScope (lLin 12)) B rfl mem own rfl (LamX.lamS_by (show LamX.lamSB (defScope sLin) (lamScope (lLin 12)) = true by decide +kernel)) rfl (Or.inl rfl) k11 (by decide) rfl (good_Lin_12 C_line_common cells_cx qual_cx hv hs hl) fun G12 k12 => ?_
  clear k11
  refine Goes.more (i := 2) (par := lamArgs (lLin 13)) (bd := lamBody (lLin 13)) (sc := lamScope (lLin 13)) B rfl mem own rfl (LamX.lamS_by (show LamX.lamSB (defScope sLin) (lamScope (lLin 13)) = true by decide +kernel)) rfl (Or.inl rfl) k12 (by decide) rfl (good_Lin_13 C_line_common cells_cx qual_cx hv hs hl) fun G13 k13 => ?_
  clear k12
  refine Goes.more (i := 2) (par := lamArgs (lLin 14)) (bd := lamBody (lLin 14)) (sc := lamScope (lLin 14)) B rfl mem own rfl (LamX.lamS_by (show LamX.lamSB (defScope sLin) (lamScope (lLin 14)) = true by decide +kernel)) rfl (Or.inl rfl) k13 (by decide) rfl (good_Lin_14 C_resultant cells_cx qual_cx hv hs hl) fun G14 k14 => ?_
  clear k13
  refine Goes.more (i := 2) (par := lamArgs (lLin 15)) (bd := lamBody (lLin 15)) (sc := lamScope (lLin 15)) B rfl mem own rfl (LamX.lamS_by (show LamX.lamSB (defScope sLin) (lamScope (lLin 15)) = true by decide +kernel)) rfl (Or.inl rfl) k14 (by decide) rfl (good_Lin_15 C_resultant cells_cx qual_cx hv hs hl) fun G15 k15 => ?_
  clear k14
  refine Goes.more (i := 2) (par := lamArgs (lLin 16)) (bd := lamBody (lLin 16)) (sc := lamScope (lLin 16)) B rfl mem own rfl (LamX.lamS_by (show LamX.lamSB (defScope sLin) (lamScope (lLin 16)) = true by decide +kernel)) rfl (Or.inl rfl) k15 (by decide) rfl (good_Lin_16 C_plain_parts cells_cx qual_cx hv hs hl) fun G16 k16 => ?_
  clear k15
  refine Goes.more (i := 2) (par := lamArgs (lLin 17)) (bd := lamBody (lLin 17)) (sc := lamScope (lLin 17)) B rfl mem own rfl (LamX.lamS_by (show LamX.lamSB (defScope sLin) (lamScope (lLin 17)) = true by decide +kernel)) rfl (Or.inl rfl) k16 (by decide) rfl (good_Lin_17 C_whole_roots cells_cx qual_cx hv hs hl) fun G17 k17 => ?_
  clear k16
  refine Goes.more (i := 2) (par := lamArgs (lLin 18)) (bd := lamBody (lLin 18)) (sc := lamScope (lLin 18)) B rfl mem own rfl (LamX.lamS_by (show LamX.lamSB (defScope sLin) (lamScope (lLin 18)) = true by decide +kernel)) rfl (Or.inl rfl) k17 (by decide) rfl (good_Lin_18 C_monic_parts cells_cx qual_cx hv hs hl) fun G18 k18 => ?_
  clear k17
  refine Goes.of (pss_one (ps_ret (pe_over (caps := [("_law_odd", 0), ("_law_line", 1)]) C__law_are (fun _ => rfl) (fun y i m => by simp only [List.mem_cons, Prod.mk.injEq, List.not_mem_nil, or_false] at m; rcases m with ⟨rfl, rfl⟩ | ⟨rfl, rfl⟩ <;> exact ⟨rfl, .inl rfl⟩) hG hr (by decide) (by rfl) (pa_cons (pv 2) (pa_cons (pe_lst (pa_cons pe_str (pa_cons (pe_callB (call_shown hG (hu64 hr)) (by rfl) T.n_repr (by decide +kernel) (pa_cons (pv 0) pa_nil)) (pa_cons pe_bl pa_nil)))) pa_nil))))) ?_
  exact ⟨_, rfl, _, rfl, v, t, rfl, hs.same (ext_same (by obtain ⟨_, L, _⟩ := k18; exact L.ext)), Nat.le_of_lt (small1000 (by decide : 3 ≤ 1000)), fun dl ndl => over_are k18 (plain_two (by decide +kernel) hok) (fun i w m => by simp only [List.mem_cons, Prod.mk.injEq, List.not_mem_nil, or_false] at m; rcases m with ⟨rfl, rfl⟩ | ⟨rfl, rfl⟩ <;> rfl) q ndl⟩
/-- a value that is no line, with its words -/
def OddL (K : PySem.W.Frag) (H : Hp) (v : V) : Prop := ∃ t : Str, PyData.strOk t = true ∧ Val (noT H) v false ∧ Sh K (noT H) v t
/-- .. no number -/
def OddN (K : PySem.W.Frag) (H : Hp) (v : V) : Prop := ∃ t : Str, PyData.strOk t = true ∧ IsN (noT H) v false ∧ Sh K (noT H) v t
/-- a line, but not of a degree from 1 to 4 with 1 at its end -/
def OddM (K : PySem.W.Frag) (H : Hp) (v : V) : Prop := ∃ (t : Str) (j : Bool) (a : Addr) (p : List Int), v = .ref a ∧ PyData.strOk t = true ∧ Val (noT H) v true ∧ At j (noT H) a p ∧ (p.length < 2 ∨ 5 < p.length ∨ co p (p.length - 1) ≠ 1) ∧ Sh K (noT H) v t
section
variable {K : PySem.W.Frag} {σ : L2.St} {H : Hp}
theorem oddL_ext {G G1 : Hp} {v : V} (x : LamX.ExtN G G1) (h : OddL K G v) : OddL K G1 v := h.elim fun t z => ⟨t, z.1, z.2.1.same (ext_noT x), z.2.2.same (ext_noT x)⟩
theorem oddN_ext {G G1 : Hp} {v : V} (x : LamX.ExtN G G1) (h : OddN K G v) : OddN K G1 v := h.elim fun t z => ⟨t, z.1, z.2.1.elim fun k y => ⟨k, y.1.same (ext_noT x), y.2⟩, z.2.2.same (ext_noT x)⟩
theorem oddM_ext {G G1 : Hp} {v : V} (x : LamX.ExtN G G1) (h : OddM K G v) : OddM K G1 v := by
  obtain ⟨t, j, a, p, e, h1, h2, h3, h4, h5⟩ := h
  exact ⟨t, j, a, p, e, h1, h2.same (ext_noT x), h3.same (ext_noT x), h4, h5.same (ext_noT x)⟩
theorem cl_oddL : Cl1 (OddL K) := fun _ _ _ s h => oddL_ext (ext_of s) h
theorem cl_oddN : Cl1 (OddN K) := fun _ _ _ s h => oddN_ext (ext_of s) h
theorem cl_oddM : Cl1 (OddM K) := fun _ _ _ s h => oddM_ext (ext_of s) h
theorem val_f {G : Hp} {v : V} {b : Bool} (h : Val G v b) (e : b = false) : Val G v false := e ▸ h
theorem val_t {G : Hp} {v : V} {b : Bool} (h : Val G v b) (e : b = true) : Val G v true := e ▸ h
theorem lst_no {xs : List V} : ∀ ps, HO.lst xs ≠ .tbl ps := fun ps z => by cases z
theorem tup_no {xs : List V} : ∀ ps, HO.tup xs ≠ .tbl ps := fun ps z => by cases z
/-- what such a list of constants is shown as -/
def litOk (d : PyData) : Bool := PyData.strOk d.shown && (d.showable && (!d.hasDict && (decide (d.depth ≤ 60) && decide (d.shown.length ≤ 1000))))
theorem litOk_is {d : PyData} (h : litOk d = true) : PyData.strOk d.shown = true ∧ d.showable = true ∧ d.hasDict = false ∧ d.depth ≤ 60 ∧ d.shown.length ≤ sizeLine := by
  unfold litOk at h
  simp only [Bool.and_eq_true, decide_eq_true_eq, Bool.not_eq_true'] at h
  exact ⟨h.1, h.2.1, h.2.2.1, h.2.2.2.1, Nat.le_of_lt (small1000 h.2.2.2.2)⟩
theorem oddL_lst {a : Addr} {xs : List V} {H : Hp} (e : H a = some (.lst xs)) (h1 : xs.all scB = true) (h2 : litOk (.list (xs.map scD)) = true) (h3 : xs.length ≤ 1000) (h4 : lineB xs = false) : OddL K H (.ref a) := by
  obtain ⟨a1, a2, a3, a4, a5⟩ := litOk_is h2
  exact ⟨_, a1, val_f (.lst (noT_is e lst_no) (fun x hx => kd_sc (List.all_eq_true.mp h1 x hx)) h3) h4, .dat (.lst (SqL.of (noT_is e lst_no)) (dps_sc h1)) a2 a3 a4 a5⟩
theorem oddL_tup {a : Addr} {xs : List V} {H : Hp} (e : H a = some (.tup xs)) (h1 : xs.all scB = true) (h2 : litOk (.tuple (xs.map scD)) = true) (h3 : xs.length ≤ 1000) (h4 : lineB xs = false) : OddL K H (.ref a) := by
  obtain ⟨a1, a2, a3, a4, a5⟩ := litOk_is h2
  exact ⟨_, a1, val_f (.tup (noT_is e tup_no) (fun x hx => kd_sc (List.all_eq_true.mp h1 x hx)) h3) h4, .dat (.tup (SqT.of (noT_is e tup_no)) (dps_sc h1)) a2 a3 a4 a5⟩
theorem oddN_lst {a : Addr} {xs : List V} {H : Hp} (e : H a = some (.lst xs)) (h1 : xs.all scB = true) (h2 : litOk (.list (xs.map scD)) = true) : OddN K H (.ref a) := by
  obtain ⟨a1, a2, a3, a4, a5⟩ := litOk_is h2
  exact ⟨_, a1, ⟨_, .lst (noT_is e lst_no), rfl⟩, .dat (.lst (SqL.of (noT_is e lst_no)) (dps_sc h1)) a2 a3 a4 a5⟩
theorem oddN_tup {a : Addr} {xs : List V} {H : Hp} (e : H a = some (.tup xs)) (h1 : xs.all scB = true) (h2 : litOk (.tuple (xs.map scD)) = true) : OddN K H (.ref a) := by
  obtain ⟨a1, a2, a3, a4, a5⟩ := litOk_is h2
  exact ⟨_, a1, ⟨_, .tup (noT_is e tup_no), rfl⟩, .dat (.tup (SqT.of (noT_is e tup_no)) (dps_sc h1)) a2 a3 a4 a5⟩
theorem ints_sc {p : List Int} : (p.map V.int).all scB = true := by simp [scB]
theorem oddM_lst {a : Addr} {p : List Int} {H : Hp} (e : H a = some (.lst (p.map V.int))) (h2 : litOk (.list ((p.map V.int).map scD)) = true) (h3 : p.length ≤ 1000) (h4 : lineB (p.map V.int) = true) (h5 : p.length < 2 ∨ 5 < p.length ∨ co p (p.length - 1) ≠ 1) : OddM K H (.ref a) := by
  obtain ⟨a1, a2, a3, a4, a5⟩ := litOk_is h2
  exact ⟨_, false, a, p, rfl, a1, val_t (.lst (noT_is e lst_no) (fun x hx => kd_sc (List.all_eq_true.mp ints_sc x hx)) (by rw [List.length_map]; exact h3)) h4, noT_is e lst_no, h5, .dat (.lst (SqL.of (noT_is e lst_no)) (dps_sc ints_sc)) a2 a3 a4 a5⟩
theorem oddM_tup {a : Addr} {p : List Int} {H : Hp} (e : H a = some (.tup (p.map V.int))) (h2 : litOk (.tuple ((p.map V.int).map scD)) = true) (h3 : p.length ≤ 1000) (h4 : lineB (p.map V.int) = true) (h5 : p.length < 2 ∨ 5 < p.length ∨ co p (p.length - 1) ≠ 1) : OddM K H (.ref a) := by
  obtain ⟨a1, a2, a3, a4, a5⟩ := litOk_is h2
  exact ⟨_, true, a, p, rfl, a1, val_t (.tup (noT_is e tup_no) (fun x hx => kd_sc (List.all_eq_true.mp ints_sc x hx)) (by rw [List.length_map]; exact h3)) h4, noT_is e tup_no, h5, .dat (.tup (SqT.of (noT_is e tup_no)) (dps_sc ints_sc)) a2 a3 a4 a5⟩
/-- a list of one more list at its end -/
theorem ge_in {R : Hp → V → Prop} {xs ys : List V} {ta : TA} (hta : ta = litA ys) (hx : xs.length < 100) (hy : ys.length < 100) (h : ∀ (H : Hp) a b, H b = some (.lst ys) → H a = some (.lst (xs ++ [.ref b])) → R H (.ref a)) :
    GEp R (tLst (xs.foldr (fun x t => tCons (tC x) t) (tCons (tLst ta) tNil))) σ H := fun H1 s Q q => by
  have gen : ∀ (xs : List V) (te : TE) (Q : List V → Hp → Prop), te σ H1 (fun v H2 => Q (xs ++ [v]) H2) → xs.foldr (fun x t => tCons (tC x) t) (tCons te tNil) σ H1 Q := by
    intro xs te
    induction xs with
    | nil => intro Q z; exact z
    | cons x xs ih => intro Q z; exact ih (fun ws H2 => Q (x :: ws) H2) z
  subst hta
  refine gen xs _ _ (litA_run ⟨Nat.le_of_lt (small1000 (by omega)), fun b nb => ⟨Nat.le_of_lt (small1000 (by rw [List.length_append]; simp; omega)), fun a na => ?_⟩⟩)
  exact q _ _ ((Same.put nb).trans (Same.put na)) (h _ a b ((Same.put na) _ _ upd_same) upd_same)
theorem oddL_str {x : Str} {H : Hp} (h : PyData.strOk (reprText x) = true) (l : (reprText x).length ≤ 1000) : OddL K H (.str x) := ⟨_, h, .oth (.str x) (by decide), .str x (Nat.le_of_lt (small1000 l))⟩
theorem oddN_str {x : Str} {H : Hp} (h : PyData.strOk (reprText x) = true) (l : (reprText x).length ≤ 1000) : OddN K H (.str x) := ⟨_, h, ⟨_, .str x, rfl⟩, .str x (Nat.le_of_lt (small1000 l))⟩
theorem dK_no {kvs : List (Key × V)} : ∀ ps, HO.dK kvs ≠ .tbl ps := fun ps z => by cases z
theorem oddL_d0 : GEp (OddL K) tDNewK σ H := fun H1 s Q q l nl => q _ _ (Same.put nl) ⟨_, by decide +kernel, .oth (.dct (noT_is upd_same dK_no)) (by decide), .d0 (noT_is upd_same dK_no)⟩
theorem oddN_d0 : GEp (OddN K) tDNewK σ H := fun H1 s Q q l nl => q _ _ (Same.put nl) ⟨_, by decide +kernel, ⟨_, .dct (noT_is upd_same dK_no), rfl⟩, .d0 (noT_is upd_same dK_no)⟩
theorem oddL_d1 : GEp (OddL K) (tDisp [(tC (.int 1), tC (.int 1))]) σ H := fun H1 s Q q p np =>
  have e : noT (upd (upd H1 p (.dK [])) p (.dK [(.inl 1, .int 1)])) p = some (.dK [(.inl 1, .int 1)]) := noT_is upd_same dK_no
  ⟨upd_same, [(.inl 1, .int 1)], rfl, by simp, q _ _ (Same.ov np (Same.put np)) ⟨_, by decide +kernel, .oth (.dct e) (by decide), .d1 1 1 e (by decide +kernel) (Nat.le_of_lt (small1000 (by decide +kernel)))⟩⟩
theorem oddL_rep : GEp (OddL K) (tOp rRep (tLst (tCons (tC (.int 1)) tNil)) (tC (.int 14))) σ H := fun H1 s Q q => by
  refine ⟨Nat.le_of_lt (small1000 (by decide : 1 ≤ 1000)), fun l nl => ?_⟩
  refine ⟨l, 14, _, rfl, rfl, upd_same, by decide, by decide, Nat.le_of_lt (small1000 (by decide : 14 ≤ 1000)), fun p np => q _ _ ((Same.put nl).trans (Same.put np)) ?_⟩
  exact oddL_lst upd_same (by decide +kernel) (by decide +kernel) (by decide +kernel) (by decide +kernel)
theorem gl_cons {R : Hp → V → Prop} (hR : Cl1 R) {te : TE} {ta : TA} {n : Nat} (h : GEp R te σ H) (r : GAp R ta n σ H) : GAp R (tCons te ta) (n + 1) σ H := gp_cons hR h r
theorem odds_L : GAp (OddL K) (tCons (tC .non) (tCons (tC (.int 0)) (tCons (tC (.int 7)) (tCons (tC (.bl true)) (tCons (tC (.str "")) (tCons (tC (.str "12")) (tCons tDNewK
    (tCons (tLst (litA [.int 0])) (tCons (tLst (litA [.int 1, .int 0])) (tCons (tTup (litA [.int 0])) (tCons (tLst (litA [.bl true])) (tCons (tLst (litA [.int 1, .bl false])) (tCons (tLst (litA [.str "1"]))
    (tCons (tLst (tCons (tC (.int 1)) (tCons (tLst (litA [.int 1])) tNil))) (tCons (tLst (litA [.non, .int 1])) (tCons (tOp rRep (tLst (tCons (tC (.int 1)) tNil)) (tC (.int 14))) (tCons (tLst (litA [.int 1, .int 2, .non])) (tCons (tDisp [(tC (.int 1), tC (.int 1))]) tNil)))))))))))))))))) 18 σ H := by
  refine gl_cons cl_oddL (ge_const fun H => ⟨_, by decide +kernel, .oth .non (by decide), .non⟩) ?_
  refine gl_cons cl_oddL (ge_const fun H => ⟨_, by decide +kernel, .oth (.int 0) (by decide), .int 0 (by decide +kernel)⟩) ?_
  refine gl_cons cl_oddL (ge_const fun H => ⟨_, by decide +kernel, .oth (.int 7) (by decide), .int 7 (by decide +kernel)⟩) ?_
  refine gl_cons cl_oddL (ge_const fun H => ⟨_, by decide +kernel, .oth (.bl true) (by decide), .bl true⟩) ?_
  refine gl_cons cl_oddL (ge_const fun H => oddL_str (by decide +kernel) (by decide +kernel)) ?_
  refine gl_cons cl_oddL (ge_const fun H => oddL_str (by decide +kernel) (by decide +kernel)) ?_
  refine gl_cons cl_oddL oddL_d0 ?_
  refine gl_cons cl_oddL (ge_lits (xs := _) rfl (by decide) fun H a e => oddL_lst e (by decide +kernel) (by decide +kernel) (by decide +kernel) (by decide +kernel)) ?_
  refine gl_cons cl_oddL (ge_lits (xs := _) rfl (by decide) fun H a e => oddL_lst e (by decide +kernel) (by decide +kernel) (by decide +kernel) (by decide +kernel)) ?_
  refine gl_cons cl_oddL (ge_litsT rfl (by decide) fun H a e => oddL_tup e (by decide +kernel) (by decide +kernel) (by decide +kernel) (by decide +kernel)) ?_
  refine gl_cons cl_oddL (ge_lits (xs := _) rfl (by decide) fun H a e => oddL_lst e (by decide +kernel) (by decide +kernel) (by decide +kernel) (by decide +kernel)) ?_
  refine gl_cons cl_oddL (ge_lits (xs := _) rfl (by decide) fun H a e => oddL_lst e (by decide +kernel) (by decide +kernel) (by decide +kernel) (by decide +kernel)) ?_
  refine gl_cons cl_oddL (ge_lits (xs := _) rfl (by decide) fun H a e => oddL_lst e (by decide +kernel) (by decide +kernel) (by decide +kernel) (by decide +kernel)) ?_
  refine gl_cons cl_oddL (ge_in (xs := [.int 1]) (ys := [.int 1]) rfl (by decide) (by decide) fun H a b eb ea => ⟨_, by decide +kernel, val_f (.lst (noT_is ea lst_no) (fun x hx => ?_) (by simp)) rfl, .dat (d := .list [.int 1, .list [.int 1]]) (.lst (SqL.of (noT_is ea lst_no)) (.cons (.int 1) (.cons (.lst (SqL.of (noT_is eb lst_no)) (.cons (.int 1) .nil)) .nil))) (by decide +kernel) (by decide +kernel) (by decide +kernel) (Nat.le_of_lt (small1000 (by decide +kernel)))⟩) ?_
  · have hx2 : x = .int 1 ∨ x = .ref b := by simpa using hx
    rcases hx2 with rfl | rfl
    · exact ⟨_, .int 1⟩
    · exact ⟨_, .lst (noT_is eb lst_no)⟩
  refine gl_cons cl_oddL (ge_lits (xs := _) rfl (by decide) fun H a e => oddL_lst e (by decide +kernel) (by decide +kernel) (by decide +kernel) (by decide +kernel)) ?_
  refine gl_cons cl_oddL oddL_rep ?_
  refine gl_cons cl_oddL (ge_lits (xs := _) rfl (by decide) fun H a e => oddL_lst e (by decide +kernel) (by decide +kernel) (by decide +kernel) (by decide +kernel)) ?_
  refine gl_cons cl_oddL oddL_d1 ?_
  exact gp_nil
theorem odds_N : GAp (OddN K) (tCons (tC .non) (tCons (tC (.bl true)) (tCons (tC (.bl false)) (tCons (tC (.str "4")) (tCons (tLst (litA [.int 4])) (tCons (tTup (litA [])) (tCons tDNewK (tCons (tLst (tCons (tLst (litA [.int 1])) tNil)) tNil)))))))) 8 σ H := by
  refine gl_cons cl_oddN (ge_const fun H => ⟨_, by decide +kernel, ⟨_, .non, rfl⟩, .non⟩) ?_
  refine gl_cons cl_oddN (ge_const fun H => ⟨_, by decide +kernel, ⟨_, .bl true, rfl⟩, .bl true⟩) ?_
  refine gl_cons cl_oddN (ge_const fun H => ⟨_, by decide +kernel, ⟨_, .bl false, rfl⟩, .bl false⟩) ?_
  refine gl_cons cl_oddN (ge_const fun H => oddN_str (by decide +kernel) (by decide +kernel)) ?_
  refine gl_cons cl_oddN (ge_lits rfl (by decide) fun H a e => oddN_lst e (by decide +kernel) (by decide +kernel)) ?_
  refine gl_cons cl_oddN (ge_litsT rfl (by decide) fun H a e => oddN_tup e (by decide +kernel) (by decide +kernel)) ?_
  refine gl_cons cl_oddN oddN_d0 ?_
  refine gl_cons cl_oddN (ge_in (xs := []) (ys := [.int 1]) rfl (by decide) (by decide) fun H a b eb ea => ⟨_, by decide +kernel, ⟨_, .lst (noT_is ea lst_no), rfl⟩, .dat (d := .list [.list [.int 1]]) (.lst (SqL.of (noT_is ea lst_no)) (.cons (.lst (SqL.of (noT_is eb lst_no)) (.cons (.int 1) .nil)) .nil)) (by decide +kernel) (by decide +kernel) (by decide +kernel) (Nat.le_of_lt (small1000 (by decide +kernel)))⟩) ?_
  exact gp_nil
theorem oddM_m (p : List Int) (h2 : litOk (.list ((p.map V.int).map scD)) = true) (h3 : p.length ≤ 1000) (h4 : lineB (p.map V.int) = true) (h5 : p.length < 2 ∨ 5 < p.length ∨ co p (p.length - 1) ≠ 1) : GEp (OddM K) (tLst (litA (p.map V.int))) σ H :=
  ge_lits rfl (by rw [List.length_map]; exact h3) fun H a e => oddM_lst e h2 h3 h4 h5
theorem oddM_t (p : List Int) (h2 : litOk (.tuple ((p.map V.int).map scD)) = true) (h3 : p.length ≤ 1000) (h4 : lineB (p.map V.int) = true) (h5 : p.length < 2 ∨ 5 < p.length ∨ co p (p.length - 1) ≠ 1) : GEp (OddM K) (tTup (litA (p.map V.int))) σ H :=
  ge_litsT rfl (by rw [List.length_map]; exact h3) fun H a e => oddM_tup e h2 h3 h4 h5
theorem odds_M : GAp (OddM K) (tCons (tLst (litA [])) (tCons (tLst (litA [.int 1])) (tCons (tTup (litA [.int 7])) (tCons (tLst (litA [.int 1, .int 2])) (tCons (tLst (litA [.int 0, .int 0, .int 3])) (tCons (tLst (litA [.int 1, .int 0, .int 0, .int 0, .int 0, .int 1]))
    (tCons (tLst (litA [.int 3, .int 0, .int (-1)])) (tCons (tTup (litA [.int 1, .int 1, .int 1, .int 1, .int (-1)])) tNil)))))))) 8 σ H := by
  refine gl_cons cl_oddM (oddM_m [] (by decide +kernel) (by decide) (by decide +kernel) (by decide)) ?_
  refine gl_cons cl_oddM (oddM_m [1] (by decide +kernel) (by decide) (by decide +kernel) (by decide)) ?_
  refine gl_cons cl_oddM (oddM_t [7] (by decide +kernel) (by decide) (by decide +kernel) (by decide)) ?_
  refine gl_cons cl_oddM (oddM_m [1, 2] (by decide +kernel) (by decide) (by decide +kernel) (by decide)) ?_
  refine gl_cons cl_oddM (oddM_m [0, 0, 3] (by decide +kernel) (by decide) (by decide +kernel) (by decide)) ?_
  refine gl_cons cl_oddM (oddM_m [1, 0, 0, 0, 0, 1] (by decide +kernel) (by decide) (by decide +kernel) (by decide)) ?_
  refine gl_cons cl_oddM (oddM_m [3, 0, -1] (by decide +kernel) (by decide) (by decide +kernel) (by decide)) ?_
  refine gl_cons cl_oddM (oddM_t [1, 1, 1, 1, -1] (by decide +kernel) (by decide) (by decide +kernel) (by decide)) ?_
  exact gp_nil
end
/-! lines of small numbers -/
def lnS (p : List Int) : Bool := decide (p.length ≤ 13) && (p.all (fun z => decide (z.natAbs < 1024)) && (match p.getLast? with | some z => !decide (z = 0) | none => true))
theorem lnS_is {p : List Int} (h : lnS p = true) : p.length ≤ 13 ∧ Bd 100000 p ∧ Cn p := by
  unfold lnS at h
  simp only [Bool.and_eq_true, decide_eq_true_eq] at h
  refine ⟨h.1, fun z hz => ?_, fun z hz e => ?_⟩
  · have a := of_decide_eq_true (List.all_eq_true.mp h.2.1 z hz)
    exact Nat.lt_of_lt_of_le (show z.natAbs < 2 ^ 10 from a) (Nat.pow_le_pow_right (by decide) (by decide))
  · have b := h.2.2
    rw [hz, e] at b
    simp at b
theorem ln_by {k : Bool} {G : Hp} {a : Addr} {p : List Int} (e : At k G a p) (h : lnS p = true) : Ln k G a p := ⟨e, (lnS_is h).2.2, (lnS_is h).1, (lnS_is h).2.1⟩
theorem rt_ln {G : Hp} {Q : VK} {E : XK} {CL CT : Addr} {k1 k2 : Bool} {r1 r2 : Addr} {p q : List Int} (h1 : Ln k1 G r1 p) (h2 : Ln k2 G r2 q)
    (c : (13 < (mulF p q).length ∧ ∀ d G', Same G G' → G d = none → G' d = some (.xd [("limit", .int 12), ("what", .str "degree")]) → E (.ref CT) (some d) G') ∨ ((mulF p q).length ≤ 13 ∧ ∀ r G', Same G G' → Q (.ref r) G')) : spRT CL CT [.ref r1, .ref r2] G Q E :=
  ⟨_, _, true, true, rfl, h1.val, h2.val, .inr (.inr ⟨rfl, rfl, k1, k2, r1, r2, p, q, rfl, rfl, h1.at_, h2.at_, Nat.le_trans h1.len (by decide), Nat.le_trans h2.len (by decide), bd_big h1.bd (by decide), bd_big h2.bd (by decide), c⟩)⟩
/-- [c] * k + [e] -/
theorem rep_end {c e : V} {k : Nat} {te tc : TE} {σ : L2.St} {H : Hp} {Q : VK} (ht : ∀ (H : Hp) (Q : VK), Q (.int k) H → te σ H Q) (hc : ∀ (H : Hp) (Q : VK), Q e H → tc σ H Q) (hk : k ≤ 100)
    (q : ∀ r H', Same H H' → H r = none → H' r = some (.lst (List.replicate k c ++ [e])) → Q (.ref r) H') : tOp rCat (tOp rRep (tLst (tCons (tC c) tNil)) te) (tLst (tCons tc tNil)) σ H Q := by
  have sz : ∀ {n : Nat}, n ≤ 1000 → n ≤ sizeLine := fun h => Nat.le_of_lt (small1000 h)
  refine ⟨sz (by decide : 1 ≤ 1000), fun m m0 => ht _ _ ?_⟩
  have fl : ((List.replicate ((k : Int)).toNat [c]).flatten) = List.replicate k c := by rw [Int.toNat_natCast]; simp
  refine ⟨m, (k : Int), _, rfl, rfl, upd_same, by omega, by omega, sz (by show 1 * ((k : Int)).toNat ≤ 1000; omega), fun n n0 => ?_⟩
  rw [fl]
  refine hc _ _ ⟨sz (by decide : 1 ≤ 1000), fun o o0 => ?_⟩
  have s1 := Same.put (o := .lst [c]) m0
  have s2 := s1.trans (Same.put (o := .lst (List.replicate k c)) n0)
  have s3 := s2.trans (Same.put (o := .lst [e]) o0)
  exact ⟨n, o, _, _, rfl, rfl, Same.put o0 _ _ upd_same, upd_same, sz (by rw [List.length_replicate]; simp; omega), fun r r0 => q r _ (s3.trans (Same.put r0)) (s3.free r0) upd_same⟩
theorem ones_ln {G : Hp} {n : Addr} (e : G n = some (.lst ((List.replicate ((13 : Int)).toNat [V.int 1]).flatten))) : Ln false G n (List.replicate 13 1) := ln_by e (by decide +kernel)
theorem nil_ln {G : Hp} {n : Addr} (e : G n = some (.lst [])) : Ln false G n [] := ln_by e (by decide +kernel)
theorem nilT_ln {G : Hp} {n : Addr} (e : G n = some (.tup [])) : Ln true G n [] := ln_by e (by decide +kernel)
/-- heard at once -/
theorem over_heard {P : Program} {w : World} {mg : Str → Option Value} {base : Heap} {K : PySem.W.Frag} {CL CN CZ CT : Addr} {X : Cx} {caps : List (Str × Nat)} {vals : List (Nat × V)} {τ : L2.St} {H G : Hp} {f : Addr} {F : LF} {es : List V} {Q : VK}
    (g : Heeds P w K mg base 7 X caps vals H (Says K CL CN CZ CT es) F) (s : Same (noT H) G) (hv : ∀ i v, (i, v) ∈ vals → τ[i]? = some (some v)) (e1 : G f = some (LamO f F)) (e2 : G F.c = some (LamX.CodeO F.c F.qual))
    (q : ∀ r G', Same G G' → G r = none → G' r = some (.lst es) → Q (.ref r) G') :
    ∀ ov, OvFor X caps τ G ov → spHeard P w K mg base CL CN CZ CT 7 [.ref f] (lay ov G) (fun v G2 => (∀ b u, ov b = some u → G2 b = some u) → Q v (cut ov G2)) E0 := by
  intro ov hov
  obtain ⟨sp, ac, sy⟩ := g τ G ov f s hov hv e1 e2
  refine ⟨f, sp, rfl, ac, sy _ _ (Same.refl _) fun r G' s' n e keep => ?_⟩
  have off : ov r = none := by
    cases eo : ov r with
    | none => rfl
    | some u => rw [lay_on eo] at n; cases n
  exact q r _ (cut_keeps hov.new s') ((lay_off off).symm.trans n) ((cut_off off).trans e)
theorem plain_zero {K : PySem.W.Frag} : Plain K [.str "zero", .bl true] :=
  ⟨[.str "zero", .bool true], fun G => .cons (.str _) (.cons (.bl _) .nil), by decide +kernel, SeqAt.eqv_refl _ (by decide +kernel)⟩
theorem plain_deg {K : PySem.W.Frag} : Plain K [.str "degree", .int 12, .bl true] :=
  ⟨[.str "degree", .int 12, .bool true], fun G => .cons (.str _) (.cons (.int _) (.cons (.bl _) .nil)), by decide +kernel, SeqAt.eqv_refl _ (by decide +kernel)⟩
theorem plain_let {K : PySem.W.Frag} : Plain K [.str "let"] :=
  ⟨[.str "let"], fun G => .cons (.str _) .nil, by decide +kernel, SeqAt.eqv_refl _ (by decide +kernel)⟩
section
variable {P : Program} {w : World} {mg : Str → Option Value} {base : Heap} {K : PySem.W.Frag} {CL CN CZ CT : Addr} {X : Cx} {caps : List (Str × Nat)} {vals : List (Nat × V)} {τ : L2.St} {T : List (Addr × Str)} {H G : Hp} {l : Addr} {n i : Nat} {es : List V}
theorem call_are {Q : VK} {ta : TA} (kp : Kept T H l n (Heeds P w K mg base 7 X caps vals H (Says K CL CN CZ CT es)) G) (pl : Plain K es) (hv : ∀ i v, (i, v) ∈ vals → τ[i]? = some (some v)) (hi : τ[i]? = some (some (.ref l))) (hta : ta = litA es) (hl : es.length ≤ 1000)
    (q : ∀ G', LamX.ExtN H G' → LamX.Tabs T G' → Q (.bl true) G') : tOver X caps (spAre P w K mg base CL CN CZ CT 7) (tCons (tVar i) (tCons (tLst ta) tNil)) τ G Q := by
  subst hta
  exact ⟨_, hi, litA_run ⟨Nat.le_of_lt (small1000 hl), fun dl ndl => over_are (Q := Q) kp pl hv q ndl⟩⟩
theorem not_are {Q : Bool → Hp → Prop} {ta : TA} (kp : Kept T H l n (Heeds P w K mg base 7 X caps vals H (Says K CL CN CZ CT es)) G) (pl : Plain K es) (hv : ∀ i v, (i, v) ∈ vals → τ[i]? = some (some v)) (hi : τ[i]? = some (some (.ref l))) (hta : ta = litA es) (hl : es.length ≤ 1000)
    (q : ∀ G', LamX.ExtN H G' → LamX.Tabs T G' → Q false G') : tNot (tB (tOver X caps (spAre P w K mg base CL CN CZ CT 7) (tCons (tVar i) (tCons (tLst ta) tNil)))) τ G Q :=
  call_are (Q := fun x H1 => ∃ d, x = .bl d ∧ Q (!d) H1) kp pl hv hi hta hl fun G' a b => ⟨true, rfl, q G' a b⟩
end
/-- over a list of values that is written there -/
theorem for_vals {K : PySem.W.Frag} {R : Hp → V → Prop} {ta : TA} {n : Nat} {g : TG} {tb : TS} {D : Ends} {σ : L2.St} {H : Hp} (I : Hp → L2.St → Hp → Prop) (g0 : GAp R ta n σ H) (hn : n ≤ 1000) (hR : Cl1 R) (hI : ∀ G σ' H', I G σ' H' → LamX.ExtN G H')
    (h0 : ∀ G, Same H G → I G σ G) (hs : ∀ G v σ' H', Same H G → R G v → I G σ' H' → g v σ' H' fun σ2 H2 => tb { D with nx := I G, ct := I G, bk := D.nx } σ2 H2)
    (hd : ∀ G σ' H', Same H G → I G σ' H' → D.nx σ' H') : tFor (iList K (tLst ta)) g tb D σ H :=
  lst_new (Q := fun x H1 => ∃ a, x = .ref a ∧ (∃ xs, SqL K H1 a xs) ∧ FI K g tb D σ a H1) g0 hn fun vs H2 o s lv hv no =>
    have s1 : Same H (upd H2 o (.lst vs)) := s.trans (Same.put no)
    ⟨o, rfl, ⟨_, SqL.of upd_same⟩, for_list (K := K) (xs := vs) (fun _ σ' H' => I (upd H2 o (.lst vs)) σ' H') (h0 _ s1) (fun _ σ' H' _ z => SqL.of (hI _ _ _ z _ _ upd_same lst_no))
      (fun i x σ' H' hx z => hs _ x σ' H' s1 (hR _ _ _ (Same.put no) (hv x (List.mem_of_getElem? hx))) z) (fun σ' H' z => hd _ σ' H' s1 z)⟩
section
variable {P : Program} {w : World} {mg : Str → Option Value} {base : Heap} {K : PySem.W.Frag} {CL CN CZ CT : Addr} {X : Cx} {caps : List (Str × Nat)} {vals : List (Nat × V)} {τ : L2.St} {T : List (Addr × Str)} {G : Hp} {es : List V} {mk : Addr → LF} {ta : TA}
theorem ne_heard {Q : VK} (tt : LamX.Tabs T G) (g : ∀ d, Heeds P w K mg base 7 X caps vals G (Says K CL CN CZ CT es) (mk d)) (hc : ∀ d, (mk d).c = d) (pl : Plain K es) (hv : ∀ i v, (i, v) ∈ vals → τ[i]? = some (some v)) (hl : es.length ≤ 1000)
    (ha : ∀ G2 Q2, Same (noT G) G2 → Q2 es G2 → ta τ G2 Q2) (q : ∀ G', LamX.ExtN G G' → LamX.Tabs T G' → Q (.bl false) G') :
    tOp (rNeD K) (tOver X caps (spHeard P w K mg base CL CN CZ CT 7) (tCons (tLamV T mk) tNil)) (tLst ta) τ G Q := by
  obtain ⟨ds, hds, sh, ev⟩ := pl
  refine ⟨tt, fun f d G1 x n t _ e1 e2 => over_heard (Q := fun u H1 => tLst ta τ H1 fun y H2 => rNeD K u y H2 Q) (g d) (ext_same x) hv e1 (by rw [hc]; exact e2) fun r G2 s nr er => ?_⟩
  refine ha _ _ ((ext_same x).trans s) ⟨Nat.le_of_lt (small1000 hl), fun p np => ?_⟩
  refine ⟨.list ds, .list ds, .lst (SqL.of (Same.put np _ _ er)) (hds _), .lst (SqL.of upd_same) (hds _), sh, sh, ?_⟩
  rw [ev]
  exact q _ (fun b o e no => Same.put np _ _ (s _ _ (x b o e no))) (t.ext fun b o e => Same.put np _ _ (s b o e))
theorem test_heard {Q : Bool → Hp → Prop} (tt : LamX.Tabs T G) (g : ∀ d, Heeds P w K mg base 7 X caps vals G (Says K CL CN CZ CT es) (mk d)) (hc : ∀ d, (mk d).c = d) (pl : Plain K es) (hv : ∀ i v, (i, v) ∈ vals → τ[i]? = some (some v)) (hl : es.length ≤ 1000)
    (ha : ∀ G2 Q2, Same (noT G) G2 → Q2 es G2 → ta τ G2 Q2) (q : ∀ G', LamX.ExtN G G' → LamX.Tabs T G' → Q false G') :
    tTest (tOp (rNeD K) (tOver X caps (spHeard P w K mg base CL CN CZ CT 7) (tCons (tLamV T mk) tNil)) (tLst ta)) τ G Q :=
  ne_heard (Q := fun x H1 => ∃ d, x = .bl d ∧ Q d H1) tt g hc pl hv hl ha fun G' a b => ⟨false, rfl, q G' a b⟩
end
/-- three such lists, each to a name -/
theorem three_new {K : PySem.W.Frag} {c1 c2 c3 e1 e2 e3 : V} {k1 k2 k3 i j k : Nat} {t1 t2 t3 u1 u2 u3 : TE} {σ : L2.St} {H : Hp} {D : Ends} (a1 : ∀ (H : Hp) (Q : VK), Q (.int k1) H → t1 σ H Q) (a2 : ∀ (H : Hp) (Q : VK), Q (.int k2) H → t2 σ H Q) (a3 : ∀ (H : Hp) (Q : VK), Q (.int k3) H → t3 σ H Q)
    (b1 : ∀ (H : Hp) (Q : VK), Q e1 H → u1 σ H Q) (b2 : ∀ (H : Hp) (Q : VK), Q e2 H → u2 σ H Q) (b3 : ∀ (H : Hp) (Q : VK), Q e3 H → u3 σ H Q) (l1 : k1 ≤ 100) (l2 : k2 ≤ 100) (l3 : k3 ≤ 100)
    (q : ∀ G r1 r2 r3, Same H G → G r1 = some (.lst (List.replicate k1 c1 ++ [e1])) → G r2 = some (.lst (List.replicate k2 c2 ++ [e2])) → G r3 = some (.lst (List.replicate k3 c3 ++ [e3])) → D.nx (((σ.set i (some (.ref r1))).set j (some (.ref r2))).set k (some (.ref r3))) G) :
    tAsg (tTup (tCons (tOp rCat (tOp rRep (tLst (tCons (tC c1) tNil)) t1) (tLst (tCons u1 tNil))) (tCons (tOp rCat (tOp rRep (tLst (tCons (tC c2) tNil)) t2) (tLst (tCons u2 tNil))) (tCons (tOp rCat (tOp rRep (tLst (tCons (tC c3) tNil)) t3) (tLst (tCons u3 tNil))) tNil))))
      (gTup K 3 (gCons (gName i) (gCons (gName j) (gCons (gName k) gNil)))) D σ H := by
  refine rep_end (Q := fun x H1 => tOp rCat (tOp rRep (tLst (tCons (tC c2) tNil)) t2) (tLst (tCons u2 tNil)) σ H1 fun y H2 => tOp rCat (tOp rRep (tLst (tCons (tC c3) tNil)) t3) (tLst (tCons u3 tNil)) σ H2 fun z H3 => [x, y, z].length ≤ sizeLine ∧ ∀ p, H3 p = none → gTup K 3 (gCons (gName i) (gCons (gName j) (gCons (gName k) gNil))) (.ref p) σ (upd H3 p (.tup [x, y, z])) fun σ2 H4 => D.nx σ2 H4) a1 b1 l1 fun r1 G1 s1 n1 g1 => ?_
  refine rep_end (Q := fun y H2 => tOp rCat (tOp rRep (tLst (tCons (tC c3) tNil)) t3) (tLst (tCons u3 tNil)) σ H2 fun z H3 => [V.ref r1, y, z].length ≤ sizeLine ∧ ∀ p, H3 p = none → gTup K 3 (gCons (gName i) (gCons (gName j) (gCons (gName k) gNil))) (.ref p) σ (upd H3 p (.tup [V.ref r1, y, z])) fun σ2 H4 => D.nx σ2 H4) a2 b2 l2 fun r2 G2 s2 n2 g2 => ?_
  refine rep_end (Q := fun z H3 => [V.ref r1, .ref r2, z].length ≤ sizeLine ∧ ∀ p, H3 p = none → gTup K 3 (gCons (gName i) (gCons (gName j) (gCons (gName k) gNil))) (.ref p) σ (upd H3 p (.tup [V.ref r1, .ref r2, z])) fun σ2 H4 => D.nx σ2 H4) a3 b3 l3 fun r3 G3 s3 n3 g3 => ?_
  refine ⟨Nat.le_of_lt (small1000 (by show 3 ≤ 1000; decide)), fun p np => ⟨p, _, rfl, SqT.of upd_same, rfl, _, _, rfl, _, _, rfl, _, _, rfl, rfl, ?_⟩⟩
  have s4 : Same G3 (upd G3 p (.tup [V.ref r1, .ref r2, .ref r3])) := Same.put np
  exact q _ r1 r2 r3 (s1.trans (s2.trans (s3.trans s4))) (s4 _ _ (s3 _ _ (s2 _ _ g1))) (s4 _ _ (s3 _ _ g2)) (s4 _ _ g3)
theorem draws_ok : ∀ m : Fin 12, (lnS (List.replicate (m.val + 1) 0 ++ [1]) && (lnS (List.replicate (11 - m.val) 0 ++ [-2]) && lnS (List.replicate (12 - m.val) 1 ++ [3]))) = true := by decide +kernel
theorem rep_ln {G : Hp} {r : Addr} {c e : Int} {k : Nat} (g : G r = some (.lst (List.replicate k (V.int c) ++ [V.int e]))) (h : lnS (List.replicate k c ++ [e]) = true) : Ln false (noT G) r (List.replicate k c ++ [e]) :=
  ln_by (noT_is (by rw [g]; simp [List.map_replicate]) lst_no) h
theorem rep_len {c e c' e' : Int} {k j : Nat} : (mulF (List.replicate k c ++ [e]) (List.replicate j c' ++ [e'])).length = k + j + 1 := by
  rw [mulF_length (by simp) (by simp)]; simp; omega
abbrev sBeh : Stmt := topS 65
abbrev lBeh (i : Nat) : Expr := lamIn (stAt sBeh i)
abbrev rd_Beh_0 (CL CN CZ CT : Addr) (u_law_line : V) : Hp → VK → XK → Prop := fun G Q E => (tCall (spRZ CL CZ) [] E (tCons (tVar 0) (tCons (tLst tNil) tNil))) (NdefX.startF ["_law_line"] [] [some u_law_line]) G Q
theorem lam_Beh_0 {P : Program} {w : World} {K : PySem.W.Frag} {mg : Str → Option Value} {base : Heap} {CL CN CZ CT : Addr} (C_line_divided : Cl P w K mg base (L2.CX P w) 5 "line_divided" s_line_divided ["line", "other"] (spRZ CL CZ)) {f d : Addr} {q : Str} {cl : List (Str × Addr)} {u_law_line : V} :
    LOk P w K mg base (L2.CX P w) 7 f ⟨q, lamArgs (lBeh 0), lamBody (lBeh 0), lamScope (lBeh 0), cl, d⟩ ["_law_line"] [some u_law_line] (rd_Beh_0 CL CN CZ CT u_law_line) := by
  refine lok_of (N := ["_law_line"]) (NdefX.nscope_by (show NdefX.nscB ["_law_line"] [] ["_law_line"] (lamScope (lBeh 0)) = true by decide +kernel)) (fun _ _ => rfl) ?_
  intro A below S G Q E hG hr hl z
  have tk := takes_of (X := NdefX.ncx (L2.CX P w) P w K mg base ["_law_line"] (LF.nf ⟨q, lamArgs (lBeh 0), lamBody (lBeh 0), lamScope (lBeh 0), cl, d⟩) f A below S G E) rfl rfl rfl rfl
  have hx : Passes (L2.CX P w) (NdefX.ncx (L2.CX P w) P w K mg base ["_law_line"] (LF.nf ⟨q, lamArgs (lBeh 0), lamBody (lBeh 0), lamScope (lBeh 0), cl, d⟩) f A below S G E) E := passes_call tk fun _ _ _ _ h => h
  exact ⟨_, (pe_u C_line_divided hG hr (by decide) (by rfl) hx (pa_cons (pe_var (i := 0) rfl (Or.inr (Or.inr rfl))) (pa_cons (pe_lst pa_nil) pa_nil))), z⟩
abbrev rd_Beh_1 (CL CN CZ CT : Addr)  : Hp → VK → XK → Prop := fun G Q E => (tCallU (spRZ CL CZ) turn2 E (tCons (tTup tNil) (tCons (tLst tNil) tNil))) (NdefX.startF [] [] []) G Q
theorem lam_Beh_1 {P : Program} {w : World} {K : PySem.W.Frag} {mg : Str → Option Value} {base : Heap} {CL CN CZ CT : Addr} (C_line_divided : Cl P w K mg base (L2.CX P w) 5 "line_divided" s_line_divided ["line", "other"] (spRZ CL CZ)) {f d : Addr} {q : Str} {cl : List (Str × Addr)}  :
    LOk P w K mg base (L2.CX P w) 7 f ⟨q, lamArgs (lBeh 1), lamBody (lBeh 1), lamScope (lBeh 1), cl, d⟩ [] [] (rd_Beh_1 CL CN CZ CT ) := by
  refine lok_of (N := []) (NdefX.nscope_by (show NdefX.nscB [] [] [] (lamScope (lBeh 1)) = true by decide +kernel)) (fun _ _ => rfl) ?_
  intro A below S G Q E hG hr hl z
  have tk := takes_of (X := NdefX.ncx (L2.CX P w) P w K mg base [] (LF.nf ⟨q, lamArgs (lBeh 1), lamBody (lBeh 1), lamScope (lBeh 1), cl, d⟩) f A below S G E) rfl rfl rfl rfl
  have hx : Passes (L2.CX P w) (NdefX.ncx (L2.CX P w) P w K mg base [] (LF.nf ⟨q, lamArgs (lBeh 1), lamBody (lBeh 1), lamScope (lBeh 1), cl, d⟩) f A below S G E) E := passes_call tk fun _ _ _ _ h => h
  exact ⟨_, (pe_uk C_line_divided kw_line_divided_other_line hG hr (by decide) (by rfl) hx (pk_cons (pe_tup pa_nil) (pk_cons (pe_lst pa_nil) pk_nil))), z⟩
abbrev rd_Beh_2 (CL CN CZ CT : Addr) (u_law_line : V) : Hp → VK → XK → Prop := fun G Q E => (tCall (spRZ2 CL CZ) [] E (tCons (tVar 0) (tCons (tLst tNil) tNil))) (NdefX.startF ["_law_line"] [] [some u_law_line]) G Q
theorem lam_Beh_2 {P : Program} {w : World} {K : PySem.W.Frag} {mg : Str → Option Value} {base : Heap} {CL CN CZ CT : Addr} (C_resultant : Cl P w K mg base (L2.CX P w) 5 "resultant" s_resultant ["line", "other"] (spRZ2 CL CZ)) {f d : Addr} {q : Str} {cl : List (Str × Addr)} {u_law_line : V} :
    LOk P w K mg base (L2.CX P w) 7 f ⟨q, lamArgs (lBeh 2), lamBody (lBeh 2), lamScope (lBeh 2), cl, d⟩ ["_law_line"] [some u_law_line] (rd_Beh_2 CL CN CZ CT u_law_line) := by
  refine lok_of (N := ["_law_line"]) (NdefX.nscope_by (show NdefX.nscB ["_law_line"] [] ["_law_line"] (lamScope (lBeh 2)) = true by decide +kernel)) (fun _ _ => rfl) ?_
  intro A below S G Q E hG hr hl z
  have tk := takes_of (X := NdefX.ncx (L2.CX P w) P w K mg base ["_law_line"] (LF.nf ⟨q, lamArgs (lBeh 2), lamBody (lBeh 2), lamScope (lBeh 2), cl, d⟩) f A below S G E) rfl rfl rfl rfl
  have hx : Passes (L2.CX P w) (NdefX.ncx (L2.CX P w) P w K mg base ["_law_line"] (LF.nf ⟨q, lamArgs (lBeh 2), lamBody (lBeh 2), lamScope (lBeh 2), cl, d⟩) f A below S G E) E := passes_call tk fun _ _ _ _ h => h
  exact ⟨_, (pe_u C_resultant hG hr (by decide) (by rfl) hx (pa_cons (pe_var (i := 0) rfl (Or.inr (Or.inr rfl))) (pa_cons (pe_lst pa_nil) pa_nil))), z⟩
abbrev rd_Beh_3 (CL CN CZ CT : Addr)  : Hp → VK → XK → Prop := fun G Q E => (tCall (spRZ2 CL CZ) [] E (tCons (tLst tNil) (tCons (tLst (tCons (tC (.int 5)) tNil)) tNil))) (NdefX.startF [] [] []) G Q
theorem lam_Beh_3 {P : Program} {w : World} {K : PySem.W.Frag} {mg : Str → Option Value} {base : Heap} {CL CN CZ CT : Addr} (C_resultant : Cl P w K mg base (L2.CX P w) 5 "resultant" s_resultant ["line", "other"] (spRZ2 CL CZ)) {f d : Addr} {q : Str} {cl : List (Str × Addr)}  :
    LOk P w K mg base (L2.CX P w) 7 f ⟨q, lamArgs (lBeh 3), lamBody (lBeh 3), lamScope (lBeh 3), cl, d⟩ [] [] (rd_Beh_3 CL CN CZ CT ) := by
  refine lok_of (N := []) (NdefX.nscope_by (show NdefX.nscB [] [] [] (lamScope (lBeh 3)) = true by decide +kernel)) (fun _ _ => rfl) ?_
  intro A below S G Q E hG hr hl z
  have tk := takes_of (X := NdefX.ncx (L2.CX P w) P w K mg base [] (LF.nf ⟨q, lamArgs (lBeh 3), lamBody (lBeh 3), lamScope (lBeh 3), cl, d⟩) f A below S G E) rfl rfl rfl rfl
  have hx : Passes (L2.CX P w) (NdefX.ncx (L2.CX P w) P w K mg base [] (LF.nf ⟨q, lamArgs (lBeh 3), lamBody (lBeh 3), lamScope (lBeh 3), cl, d⟩) f A below S G E) E := passes_call tk fun _ _ _ _ h => h
  exact ⟨_, (pe_u C_resultant hG hr (by decide) (by rfl) hx (pa_cons (pe_lst pa_nil) (pa_cons (pe_lst (pa_cons pe_int pa_nil)) pa_nil))), z⟩
abbrev rd_Beh_4 (CL CN CZ CT : Addr)  : Hp → VK → XK → Prop := fun G Q E => (tCall (spR0 CL CZ) [] E (tCons (tLst tNil) tNil)) (NdefX.startF [] [] []) G Q
theorem lam_Beh_4 {P : Program} {w : World} {K : PySem.W.Frag} {mg : Str → Option Value} {base : Heap} {CL CN CZ CT : Addr} (C_plain_parts : Cl P w K mg base (L2.CX P w) 5 "plain_parts" s_plain_parts ["line"] (spR0 CL CZ)) {f d : Addr} {q : Str} {cl : List (Str × Addr)}  :
    LOk P w K mg base (L2.CX P w) 7 f ⟨q, lamArgs (lBeh 4), lamBody (lBeh 4), lamScope (lBeh 4), cl, d⟩ [] [] (rd_Beh_4 CL CN CZ CT ) := by
  refine lok_of (N := []) (NdefX.nscope_by (show NdefX.nscB [] [] [] (lamScope (lBeh 4)) = true by decide +kernel)) (fun _ _ => rfl) ?_
  intro A below S G Q E hG hr hl z
  have tk := takes_of (X := NdefX.ncx (L2.CX P w) P w K mg base [] (LF.nf ⟨q, lamArgs (lBeh 4), lamBody (lBeh 4), lamScope (lBeh 4), cl, d⟩) f A below S G E) rfl rfl rfl rfl
  have hx : Passes (L2.CX P w) (NdefX.ncx (L2.CX P w) P w K mg base [] (LF.nf ⟨q, lamArgs (lBeh 4), lamBody (lBeh 4), lamScope (lBeh 4), cl, d⟩) f A below S G E) E := passes_call tk fun _ _ _ _ h => h
  exact ⟨_, (pe_u C_plain_parts hG hr (by decide) (by rfl) hx (pa_cons (pe_lst pa_nil) pa_nil)), z⟩
abbrev rd_Beh_5 (CL CN CZ CT : Addr)  : Hp → VK → XK → Prop := fun G Q E => (tCall (spR0 CL CZ) [] E (tCons (tTup tNil) tNil)) (NdefX.startF [] [] []) G Q
theorem lam_Beh_5 {P : Program} {w : World} {K : PySem.W.Frag} {mg : Str → Option Value} {base : Heap} {CL CN CZ CT : Addr} (C_whole_roots : Cl P w K mg base (L2.CX P w) 5 "whole_roots" s_whole_roots ["line"] (spR0 CL CZ)) {f d : Addr} {q : Str} {cl : List (Str × Addr)}  :
    LOk P w K mg base (L2.CX P w) 7 f ⟨q, lamArgs (lBeh 5), lamBody (lBeh 5), lamScope (lBeh 5), cl, d⟩ [] [] (rd_Beh_5 CL CN CZ CT ) := by
  refine lok_of (N := []) (NdefX.nscope_by (show NdefX.nscB [] [] [] (lamScope (lBeh 5)) = true by decide +kernel)) (fun _ _ => rfl) ?_
  intro A below S G Q E hG hr hl z
  have tk := takes_of (X := NdefX.ncx (L2.CX P w) P w K mg base [] (LF.nf ⟨q, lamArgs (lBeh 5), lamBody (lBeh 5), lamScope (lBeh 5), cl, d⟩) f A below S G E) rfl rfl rfl rfl
  have hx : Passes (L2.CX P w) (NdefX.ncx (L2.CX P w) P w K mg base [] (LF.nf ⟨q, lamArgs (lBeh 5), lamBody (lBeh 5), lamScope (lBeh 5), cl, d⟩) f A below S G E) E := passes_call tk fun _ _ _ _ h => h
  exact ⟨_, (pe_u C_whole_roots hG hr (by decide) (by rfl) hx (pa_cons (pe_tup pa_nil) pa_nil)), z⟩
abbrev rd_Beh_7 (CL CN CZ CT : Addr) (u_law_odd : V) : Hp → VK → XK → Prop := fun G Q E => (tCall (spRM CL) [] E (tCons (tVar 0) tNil)) (NdefX.startF ["_law_odd"] [] [some u_law_odd]) G Q
theorem lam_Beh_7 {P : Program} {w : World} {K : PySem.W.Frag} {mg : Str → Option Value} {base : Heap} {CL CN CZ CT : Addr} (C_monic_parts : Cl P w K mg base (L2.CX P w) 4 "monic_parts" s_monic_parts ["line"] (spRM CL)) {f d : Addr} {q : Str} {cl : List (Str × Addr)} {u_law_odd : V} :
    LOk P w K mg base (L2.CX P w) 7 f ⟨q, lamArgs (lBeh 7), lamBody (lBeh 7), lamScope (lBeh 7), cl, d⟩ ["_law_odd"] [some u_law_odd] (rd_Beh_7 CL CN CZ CT u_law_odd) := by
  refine lok_of (N := ["_law_odd"]) (NdefX.nscope_by (show NdefX.nscB ["_law_odd"] [] ["_law_odd"] (lamScope (lBeh 7)) = true by decide +kernel)) (fun _ _ => rfl) ?_
  intro A below S G Q E hG hr hl z
  have tk := takes_of (X := NdefX.ncx (L2.CX P w) P w K mg base ["_law_odd"] (LF.nf ⟨q, lamArgs (lBeh 7), lamBody (lBeh 7), lamScope (lBeh 7), cl, d⟩) f A below S G E) rfl rfl rfl rfl
  have hx : Passes (L2.CX P w) (NdefX.ncx (L2.CX P w) P w K mg base ["_law_odd"] (LF.nf ⟨q, lamArgs (lBeh 7), lamBody (lBeh 7), lamScope (lBeh 7), cl, d⟩) f A below S G E) E := passes_call tk fun _ _ _ _ h => h
  exact ⟨_, (pe_u C_monic_parts hG hr (by decide) (by rfl) hx (pa_cons (pe_var (i := 0) rfl (Or.inr (Or.inr rfl))) pa_nil)), z⟩
abbrev rd_Beh_10 (CL CN CZ CT : Addr) (u_law_one u_law_more : V) : Hp → VK → XK → Prop := fun G Q E => (tCall (spRT CL CT) [] E (tCons (tVar 0) (tCons (tVar 1) tNil))) (NdefX.startF ["_law_one", "_law_more"] [] [some u_law_one, some u_law_more]) G Q
theorem lam_Beh_10 {P : Program} {w : World} {K : PySem.W.Frag} {mg : Str → Option Value} {base : Heap} {CL CN CZ CT : Addr} (C_line_times : Cl P w K mg base (L2.CX P w) 5 "line_times" s_line_times ["line", "other"] (spRT CL CT)) {f d : Addr} {q : Str} {cl : List (Str × Addr)} {u_law_one u_law_more : V} :
    LOk P w K mg base (L2.CX P w) 7 f ⟨q, lamArgs (lBeh 10), lamBody (lBeh 10), lamScope (lBeh 10), cl, d⟩ ["_law_one", "_law_more"] [some u_law_one, some u_law_more] (rd_Beh_10 CL CN CZ CT u_law_one u_law_more) := by
  refine lok_of (N := ["_law_one", "_law_more"]) (NdefX.nscope_by (show NdefX.nscB ["_law_one", "_law_more"] [] ["_law_one", "_law_more"] (lamScope (lBeh 10)) = true by decide +kernel)) (fun _ _ => rfl) ?_
  intro A below S G Q E hG hr hl z
  have tk := takes_of (X := NdefX.ncx (L2.CX P w) P w K mg base ["_law_one", "_law_more"] (LF.nf ⟨q, lamArgs (lBeh 10), lamBody (lBeh 10), lamScope (lBeh 10), cl, d⟩) f A below S G E) rfl rfl rfl rfl
  have hx : Passes (L2.CX P w) (NdefX.ncx (L2.CX P w) P w K mg base ["_law_one", "_law_more"] (LF.nf ⟨q, lamArgs (lBeh 10), lamBody (lBeh 10), lamScope (lBeh 10), cl, d⟩) f A below S G E) E := passes_call tk fun _ _ _ _ h => h
  exact ⟨_, (pe_u C_line_times hG hr (by decide) (by rfl) hx (pa_cons (pe_var (i := 0) rfl (Or.inr (Or.inr rfl))) (pa_cons (pe_var (i := 1) rfl (Or.inr (Or.inr rfl))) pa_nil))), z⟩
abbrev rd_Beh_11 (CL CN CZ CT : Addr)  : Hp → VK → XK → Prop := fun G Q E => (tCallU (spRT CL CT) turn2 E (tCons (tOp rRep (tLst (tCons (tC (.int 1)) tNil)) (tC (.int 13))) (tCons (tLst (tCons (tC (.int 0)) (tCons (tC (.int 1)) tNil))) tNil))) (NdefX.startF [] [] []) G Q
theorem lam_Beh_11 {P : Program} {w : World} {K : PySem.W.Frag} {mg : Str → Option Value} {base : Heap} {CL CN CZ CT : Addr} (C_line_times : Cl P w K mg base (L2.CX P w) 5 "line_times" s_line_times ["line", "other"] (spRT CL CT)) {f d : Addr} {q : Str} {cl : List (Str × Addr)}  :
    LOk P w K mg base (L2.CX P w) 7 f ⟨q, lamArgs (lBeh 11), lamBody (lBeh 11), lamScope (lBeh 11), cl, d⟩ [] [] (rd_Beh_11 CL CN CZ CT ) := by
  refine lok_of (N := []) (NdefX.nscope_by (show NdefX.nscB [] [] [] (lamScope (lBeh 11)) = true by decide +kernel)) (fun _ _ => rfl) ?_
  intro A below S G Q E hG hr hl z
  have tk := takes_of (X := NdefX.ncx (L2.CX P w) P w K mg base [] (LF.nf ⟨q, lamArgs (lBeh 11), lamBody (lBeh 11), lamScope (lBeh 11), cl, d⟩) f A below S G E) rfl rfl rfl rfl
  have hx : Passes (L2.CX P w) (NdefX.ncx (L2.CX P w) P w K mg base [] (LF.nf ⟨q, lamArgs (lBeh 11), lamBody (lBeh 11), lamScope (lBeh 11), cl, d⟩) f A below S G E) E := passes_call tk fun _ _ _ _ h => h
  exact ⟨_, (pe_uk C_line_times kw_line_times_other_line hG hr (by decide) (by rfl) hx (pk_cons (pe_op op_rep (pe_lst (pa_cons pe_int pa_nil)) pe_int) (pk_cons (pe_lst (pa_cons pe_int (pa_cons pe_int pa_nil))) pk_nil))), z⟩
abbrev rd_Beh_13 (CL CN CZ CT : Addr) (u_law_one u_law_other : V) : Hp → VK → XK → Prop := fun G Q E => (tCall (spRT CL CT) [] E (tCons (tVar 0) (tCons (tVar 1) tNil))) (NdefX.startF ["_law_one", "_law_other"] [] [some u_law_one, some u_law_other]) G Q
theorem lam_Beh_13 {P : Program} {w : World} {K : PySem.W.Frag} {mg : Str → Option Value} {base : Heap} {CL CN CZ CT : Addr} (C_line_times : Cl P w K mg base (L2.CX P w) 5 "line_times" s_line_times ["line", "other"] (spRT CL CT)) {f d : Addr} {q : Str} {cl : List (Str × Addr)} {u_law_one u_law_other : V} :
    LOk P w K mg base (L2.CX P w) 7 f ⟨q, lamArgs (lBeh 13), lamBody (lBeh 13), lamScope (lBeh 13), cl, d⟩ ["_law_one", "_law_other"] [some u_law_one, some u_law_other] (rd_Beh_13 CL CN CZ CT u_law_one u_law_other) := by
  refine lok_of (N := ["_law_one", "_law_other"]) (NdefX.nscope_by (show NdefX.nscB ["_law_one", "_law_other"] [] ["_law_one", "_law_other"] (lamScope (lBeh 13)) = true by decide +kernel)) (fun _ _ => rfl) ?_
  intro A below S G Q E hG hr hl z
  have tk := takes_of (X := NdefX.ncx (L2.CX P w) P w K mg base ["_law_one", "_law_other"] (LF.nf ⟨q, lamArgs (lBeh 13), lamBody (lBeh 13), lamScope (lBeh 13), cl, d⟩) f A below S G E) rfl rfl rfl rfl
  have hx : Passes (L2.CX P w) (NdefX.ncx (L2.CX P w) P w K mg base ["_law_one", "_law_other"] (LF.nf ⟨q, lamArgs (lBeh 13), lamBody (lBeh 13), lamScope (lBeh 13), cl, d⟩) f A below S G E) E := passes_call tk fun _ _ _ _ h => h
  exact ⟨_, (pe_u C_line_times hG hr (by decide) (by rfl) hx (pa_cons (pe_var (i := 0) rfl (Or.inr (Or.inr rfl))) (pa_cons (pe_var (i := 1) rfl (Or.inr (Or.inr rfl))) pa_nil))), z⟩
abbrev rd_Beh_14 (CL CN CZ CT : Addr)  : Hp → VK → XK → Prop := fun G Q E => (tCall (spRT CL CT) [] E (tCons (tOp rRep (tLst (tCons (tC (.int 1)) tNil)) (tC (.int 13))) (tCons (tLst tNil) tNil))) (NdefX.startF [] [] []) G Q
theorem lam_Beh_14 {P : Program} {w : World} {K : PySem.W.Frag} {mg : Str → Option Value} {base : Heap} {CL CN CZ CT : Addr} (C_line_times : Cl P w K mg base (L2.CX P w) 5 "line_times" s_line_times ["line", "other"] (spRT CL CT)) {f d : Addr} {q : Str} {cl : List (Str × Addr)}  :
    LOk P w K mg base (L2.CX P w) 7 f ⟨q, lamArgs (lBeh 14), lamBody (lBeh 14), lamScope (lBeh 14), cl, d⟩ [] [] (rd_Beh_14 CL CN CZ CT ) := by
  refine lok_of (N := []) (NdefX.nscope_by (show NdefX.nscB [] [] [] (lamScope (lBeh 14)) = true by decide +kernel)) (fun _ _ => rfl) ?_
  intro A below S G Q E hG hr hl z
  have tk := takes_of (X := NdefX.ncx (L2.CX P w) P w K mg base [] (LF.nf ⟨q, lamArgs (lBeh 14), lamBody (lBeh 14), lamScope (lBeh 14), cl, d⟩) f A below S G E) rfl rfl rfl rfl
  have hx : Passes (L2.CX P w) (NdefX.ncx (L2.CX P w) P w K mg base [] (LF.nf ⟨q, lamArgs (lBeh 14), lamBody (lBeh 14), lamScope (lBeh 14), cl, d⟩) f A below S G E) E := passes_call tk fun _ _ _ _ h => h
  exact ⟨_, (pe_u C_line_times hG hr (by decide) (by rfl) hx (pa_cons (pe_op op_rep (pe_lst (pa_cons pe_int pa_nil)) pe_int) (pa_cons (pe_lst pa_nil) pa_nil))), z⟩
abbrev rd_Beh_15 (CL CN CZ CT : Addr)  : Hp → VK → XK → Prop := fun G Q E => (tCall (spRT CL CT) [] E (tCons (tLst tNil) (tCons (tOp rRep (tLst (tCons (tC (.int 1)) tNil)) (tC (.int 13))) tNil))) (NdefX.startF [] [] []) G Q
theorem lam_Beh_15 {P : Program} {w : World} {K : PySem.W.Frag} {mg : Str → Option Value} {base : Heap} {CL CN CZ CT : Addr} (C_line_times : Cl P w K mg base (L2.CX P w) 5 "line_times" s_line_times ["line", "other"] (spRT CL CT)) {f d : Addr} {q : Str} {cl : List (Str × Addr)}  :
    LOk P w K mg base (L2.CX P w) 7 f ⟨q, lamArgs (lBeh 15), lamBody (lBeh 15), lamScope (lBeh 15), cl, d⟩ [] [] (rd_Beh_15 CL CN CZ CT ) := by
  refine lok_of (N := []) (NdefX.nscope_by (show NdefX.nscB [] [] [] (lamScope (lBeh 15)) = true by decide +kernel)) (fun _ _ => rfl) ?_
  intro A below S G Q E hG hr hl z
  have tk := takes_of (X := NdefX.ncx (L2.CX P w) P w K mg base [] (LF.nf ⟨q, lamArgs (lBeh 15), lamBody (lBeh 15), lamScope (lBeh 15), cl, d⟩) f A below S G E) rfl rfl rfl rfl
  have hx : Passes (L2.CX P w) (NdefX.ncx (L2.CX P w) P w K mg base [] (LF.nf ⟨q, lamArgs (lBeh 15), lamBody (lBeh 15), lamScope (lBeh 15), cl, d⟩) f A below S G E) E := passes_call tk fun _ _ _ _ h => h
  exact ⟨_, (pe_u C_line_times hG hr (by decide) (by rfl) hx (pa_cons (pe_lst pa_nil) (pa_cons (pe_op op_rep (pe_lst (pa_cons pe_int pa_nil)) pe_int) pa_nil))), z⟩
abbrev rd_Beh_16 (CL CN CZ CT : Addr) (u_law_line : V) : Hp → VK → XK → Prop := fun G Q E => (tCall (spRZ CL CZ) [] E (tCons (tLst tNil) (tCons (tVar 0) tNil))) (NdefX.startF ["_law_line"] [] [some u_law_line]) G Q
theorem lam_Beh_16 {P : Program} {w : World} {K : PySem.W.Frag} {mg : Str → Option Value} {base : Heap} {CL CN CZ CT : Addr} (C_line_divided : Cl P w K mg base (L2.CX P w) 5 "line_divided" s_line_divided ["line", "other"] (spRZ CL CZ)) {f d : Addr} {q : Str} {cl : List (Str × Addr)} {u_law_line : V} :
    LOk P w K mg base (L2.CX P w) 7 f ⟨q, lamArgs (lBeh 16), lamBody (lBeh 16), lamScope (lBeh 16), cl, d⟩ ["_law_line"] [some u_law_line] (rd_Beh_16 CL CN CZ CT u_law_line) := by
  refine lok_of (N := ["_law_line"]) (NdefX.nscope_by (show NdefX.nscB ["_law_line"] [] ["_law_line"] (lamScope (lBeh 16)) = true by decide +kernel)) (fun _ _ => rfl) ?_
  intro A below S G Q E hG hr hl z
  have tk := takes_of (X := NdefX.ncx (L2.CX P w) P w K mg base ["_law_line"] (LF.nf ⟨q, lamArgs (lBeh 16), lamBody (lBeh 16), lamScope (lBeh 16), cl, d⟩) f A below S G E) rfl rfl rfl rfl
  have hx : Passes (L2.CX P w) (NdefX.ncx (L2.CX P w) P w K mg base ["_law_line"] (LF.nf ⟨q, lamArgs (lBeh 16), lamBody (lBeh 16), lamScope (lBeh 16), cl, d⟩) f A below S G E) E := passes_call tk fun _ _ _ _ h => h
  exact ⟨_, (pe_u C_line_divided hG hr (by decide) (by rfl) hx (pa_cons (pe_lst pa_nil) (pa_cons (pe_var (i := 0) rfl (Or.inr (Or.inr rfl))) pa_nil))), z⟩
abbrev rd_Beh_17 (CL CN CZ CT : Addr)  : Hp → VK → XK → Prop := fun G Q E => (tCall (spRZ2 CL CZ) [] E (tCons (tLst (tCons (tC (.int 2)) tNil)) (tCons (tLst (tCons (tC (.int 3)) tNil)) tNil))) (NdefX.startF [] [] []) G Q
theorem lam_Beh_17 {P : Program} {w : World} {K : PySem.W.Frag} {mg : Str → Option Value} {base : Heap} {CL CN CZ CT : Addr} (C_resultant : Cl P w K mg base (L2.CX P w) 5 "resultant" s_resultant ["line", "other"] (spRZ2 CL CZ)) {f d : Addr} {q : Str} {cl : List (Str × Addr)}  :
    LOk P w K mg base (L2.CX P w) 7 f ⟨q, lamArgs (lBeh 17), lamBody (lBeh 17), lamScope (lBeh 17), cl, d⟩ [] [] (rd_Beh_17 CL CN CZ CT ) := by
  refine lok_of (N := []) (NdefX.nscope_by (show NdefX.nscB [] [] [] (lamScope (lBeh 17)) = true by decide +kernel)) (fun _ _ => rfl) ?_
  intro A below S G Q E hG hr hl z
  have tk := takes_of (X := NdefX.ncx (L2.CX P w) P w K mg base [] (LF.nf ⟨q, lamArgs (lBeh 17), lamBody (lBeh 17), lamScope (lBeh 17), cl, d⟩) f A below S G E) rfl rfl rfl rfl
  have hx : Passes (L2.CX P w) (NdefX.ncx (L2.CX P w) P w K mg base [] (LF.nf ⟨q, lamArgs (lBeh 17), lamBody (lBeh 17), lamScope (lBeh 17), cl, d⟩) f A below S G E) E := passes_call tk fun _ _ _ _ h => h
  exact ⟨_, (pe_u C_resultant hG hr (by decide) (by rfl) hx (pa_cons (pe_lst (pa_cons pe_int pa_nil)) (pa_cons (pe_lst (pa_cons pe_int pa_nil)) pa_nil))), z⟩
theorem S__law_behind_right : FnScope ["_law_pot_here", "_law_line", "_law_calls", "_law_odd", "_law_short", "_law_one", "_law_other", "_law_more"] ["_law_pot_here", "_law_line"] (defScope sBeh) :=
  ⟨rfl, rfl, rfl, by decide +kernel, rfl, by decide +kernel, by decide +kernel⟩
abbrev qBeh : Str := "_law_behind_right" ++ ".<locals>." ++ "<lambda>"
/-- the pot, the line of two numbers -/
def spBehR (K : PySem.W.Frag) (T : List (Addr × Str)) : Sp := fun vs G Q _ => ∃ (a l0 : Addr) (x y : Int), vs = [.ref a, .ref l0] ∧ PotAt G a ∧ l0 ≠ a ∧ Ln false G l0 [x, y] ∧ LamX.Tabs T G ∧ ∀ G', Q (.bl true) G'
theorem good_Beh_0 {P : Program} {w : World} {K : PySem.W.Frag} {mg : Str → Option Value} {base : Heap} {CL CN CZ CT : Addr} (C_line_divided : Cl P w K mg base (L2.CX P w) 5 "line_divided" s_line_divided ["line", "other"] (spRZ CL CZ)) {X : Cx} {m : Nat}
    (hX : X.env.cells = cellsFrom m (defScope sBeh).names []) (hq : X.env.qual ++ "<lambda>" = qBeh) {H : Hp} {l0 : Addr} {x y : Int} (hv : Ln false (noT H) l0 [x, y]) :
    ∀ d, Heeds P w K mg base 7 X [("_law_line", 1)] [(1, (V.ref l0))] H (Says K CL CN CZ CT [.str "zero", .bl true]) (madeAt X (lamArgs (lBeh 0)) (lamBody (lBeh 0)) (lamScope (lBeh 0)) d) := by
  have sz : ∀ {n : Nat}, n ≤ 1000 → n ≤ sizeLine := fun h => Nat.le_of_lt (small1000 h)
  refine good_mk (s := sBeh) (l := lBeh 0) (vs := [(V.ref l0)]) (rd := rd_Beh_0 CL CN CZ CT (V.ref l0)) hX hq (by decide +kernel) (by decide +kernel) (lam_Beh_0 C_line_divided) rfl (fun j y e => ?_) (says_zero ?_)
  · match j, e with
    | 0, e => obtain rfl := Option.some.inj e; exact ⟨by decide +kernel, 1, by simp, fun w ew => by obtain rfl := Option.some.inj ew; simp⟩
    | j + 1, e => cases e
  · intro G1 Q1 E1 s2 h
    exact ⟨_, rfl, sz (by decide : 0 ≤ 1000), fun m m0 => ⟨_, .ref m, true, true, rfl, hv.val.same (s2.trans (Same.put m0)), (nil_ln upd_same).val, .inr (.inr (.inl ⟨rfl, rfl, ⟨false, m, rfl, upd_same⟩, fun G2 s3 => h G2 ((Same.put m0).trans s3)⟩))⟩⟩
theorem good_Beh_1 {P : Program} {w : World} {K : PySem.W.Frag} {mg : Str → Option Value} {base : Heap} {CL CN CZ CT : Addr} (C_line_divided : Cl P w K mg base (L2.CX P w) 5 "line_divided" s_line_divided ["line", "other"] (spRZ CL CZ)) {X : Cx} {m : Nat}
    (hX : X.env.cells = cellsFrom m (defScope sBeh).names []) (hq : X.env.qual ++ "<lambda>" = qBeh) {H : Hp} {l0 : Addr} {x y : Int} (hv : Ln false (noT H) l0 [x, y]) :
    ∀ d, Heeds P w K mg base 7 X [("_law_line", 1)] [(1, (V.ref l0))] H (Says K CL CN CZ CT [.str "zero", .bl true]) (madeAt X (lamArgs (lBeh 1)) (lamBody (lBeh 1)) (lamScope (lBeh 1)) d) := by
  have sz : ∀ {n : Nat}, n ≤ 1000 → n ≤ sizeLine := fun h => Nat.le_of_lt (small1000 h)
  refine good_mk (s := sBeh) (l := lBeh 1) (vs := []) (rd := rd_Beh_1 CL CN CZ CT ) hX hq (by decide +kernel) (by decide +kernel) (lam_Beh_1 C_line_divided) rfl (fun j y e => ?_) (says_zero ?_)
  · match j, e with
    | j + 0, e => cases e
  · intro G1 Q1 E1 s2 h
    exact ⟨sz (by decide : 0 ≤ 1000), fun m m0 => ⟨sz (by decide : 0 ≤ 1000), fun n n0 => ⟨.ref n, .ref m, true, true, rfl, (nil_ln upd_same).val, (nilT_ln (Same.put n0 _ _ upd_same)).val, .inr (.inr (.inl ⟨rfl, rfl, ⟨true, m, rfl, Same.put n0 _ _ upd_same⟩, fun G2 s3 => h G2 (((Same.put m0).trans (Same.put n0)).trans s3)⟩))⟩⟩⟩
theorem good_Beh_2 {P : Program} {w : World} {K : PySem.W.Frag} {mg : Str → Option Value} {base : Heap} {CL CN CZ CT : Addr} (C_resultant : Cl P w K mg base (L2.CX P w) 5 "resultant" s_resultant ["line", "other"] (spRZ2 CL CZ)) {X : Cx} {m : Nat}
    (hX : X.env.cells = cellsFrom m (defScope sBeh).names []) (hq : X.env.qual ++ "<lambda>" = qBeh) {H : Hp} {l0 : Addr} {x y : Int} (hv : Ln false (noT H) l0 [x, y]) :
    ∀ d, Heeds P w K mg base 7 X [("_law_line", 1)] [(1, (V.ref l0))] H (Says K CL CN CZ CT [.str "zero", .bl true]) (madeAt X (lamArgs (lBeh 2)) (lamBody (lBeh 2)) (lamScope (lBeh 2)) d) := by
  have sz : ∀ {n : Nat}, n ≤ 1000 → n ≤ sizeLine := fun h => Nat.le_of_lt (small1000 h)
  refine good_mk (s := sBeh) (l := lBeh 2) (vs := [(V.ref l0)]) (rd := rd_Beh_2 CL CN CZ CT (V.ref l0)) hX hq (by decide +kernel) (by decide +kernel) (lam_Beh_2 C_resultant) rfl (fun j y e => ?_) (says_zero ?_)
  · match j, e with
    | 0, e => obtain rfl := Option.some.inj e; exact ⟨by decide +kernel, 1, by simp, fun w ew => by obtain rfl := Option.some.inj ew; simp⟩
    | j + 1, e => cases e
  · intro G1 Q1 E1 s2 h
    exact ⟨_, rfl, sz (by decide : 0 ≤ 1000), fun m m0 => ⟨_, .ref m, true, true, rfl, hv.val.same (s2.trans (Same.put m0)), (nil_ln upd_same).val, .inr (.inr (.inl ⟨rfl, rfl, .inr ⟨⟨false, m, rfl, upd_same⟩, false, l0, _, rfl, hv.at_.same (s2.trans (Same.put m0))⟩, fun G2 s3 => h G2 ((Same.put m0).trans s3)⟩))⟩⟩
theorem good_Beh_3 {P : Program} {w : World} {K : PySem.W.Frag} {mg : Str → Option Value} {base : Heap} {CL CN CZ CT : Addr} (C_resultant : Cl P w K mg base (L2.CX P w) 5 "resultant" s_resultant ["line", "other"] (spRZ2 CL CZ)) {X : Cx} {m : Nat}
    (hX : X.env.cells = cellsFrom m (defScope sBeh).names []) (hq : X.env.qual ++ "<lambda>" = qBeh) {H : Hp} {l0 : Addr} {x y : Int} (hv : Ln false (noT H) l0 [x, y]) :
    ∀ d, Heeds P w K mg base 7 X [("_law_line", 1)] [(1, (V.ref l0))] H (Says K CL CN CZ CT [.str "zero", .bl true]) (madeAt X (lamArgs (lBeh 3)) (lamBody (lBeh 3)) (lamScope (lBeh 3)) d) := by
  have sz : ∀ {n : Nat}, n ≤ 1000 → n ≤ sizeLine := fun h => Nat.le_of_lt (small1000 h)
  refine good_mk (s := sBeh) (l := lBeh 3) (vs := []) (rd := rd_Beh_3 CL CN CZ CT ) hX hq (by decide +kernel) (by decide +kernel) (lam_Beh_3 C_resultant) rfl (fun j y e => ?_) (says_zero ?_)
  · match j, e with
    | j + 0, e => cases e
  · intro G1 Q1 E1 s2 h
    exact ⟨sz (by decide : 0 ≤ 1000), fun m m0 => ⟨sz (by decide : 1 ≤ 1000), fun n n0 => ⟨.ref m, .ref n, true, true, rfl, (nil_ln (Same.put n0 _ _ upd_same)).val, (ln_by (p := [5]) (k := false) upd_same (by decide +kernel)).val, .inr (.inr (.inl ⟨rfl, rfl, .inl ⟨false, m, rfl, Same.put n0 _ _ upd_same⟩, fun G2 s3 => h G2 (((Same.put m0).trans (Same.put n0)).trans s3)⟩))⟩⟩⟩
theorem good_Beh_4 {P : Program} {w : World} {K : PySem.W.Frag} {mg : Str → Option Value} {base : Heap} {CL CN CZ CT : Addr} (C_plain_parts : Cl P w K mg base (L2.CX P w) 5 "plain_parts" s_plain_parts ["line"] (spR0 CL CZ)) {X : Cx} {m : Nat}
    (hX : X.env.cells = cellsFrom m (defScope sBeh).names []) (hq : X.env.qual ++ "<lambda>" = qBeh) {H : Hp} {l0 : Addr} {x y : Int} (hv : Ln false (noT H) l0 [x, y]) :
    ∀ d, Heeds P w K mg base 7 X [("_law_line", 1)] [(1, (V.ref l0))] H (Says K CL CN CZ CT [.str "zero", .bl true]) (madeAt X (lamArgs (lBeh 4)) (lamBody (lBeh 4)) (lamScope (lBeh 4)) d) := by
  have sz : ∀ {n : Nat}, n ≤ 1000 → n ≤ sizeLine := fun h => Nat.le_of_lt (small1000 h)
  refine good_mk (s := sBeh) (l := lBeh 4) (vs := []) (rd := rd_Beh_4 CL CN CZ CT ) hX hq (by decide +kernel) (by decide +kernel) (lam_Beh_4 C_plain_parts) rfl (fun j y e => ?_) (says_zero ?_)
  · match j, e with
    | j + 0, e => cases e
  · intro G1 Q1 E1 s2 h
    exact ⟨sz (by decide : 0 ≤ 1000), fun m m0 => ⟨.ref m, rfl, .inr ⟨(nil_ln upd_same).val, ⟨false, m, rfl, upd_same⟩, fun G2 s3 => h G2 ((Same.put m0).trans s3)⟩⟩⟩
theorem good_Beh_5 {P : Program} {w : World} {K : PySem.W.Frag} {mg : Str → Option Value} {base : Heap} {CL CN CZ CT : Addr} (C_whole_roots : Cl P w K mg base (L2.CX P w) 5 "whole_roots" s_whole_roots ["line"] (spR0 CL CZ)) {X : Cx} {m : Nat}
    (hX : X.env.cells = cellsFrom m (defScope sBeh).names []) (hq : X.env.qual ++ "<lambda>" = qBeh) {H : Hp} {l0 : Addr} {x y : Int} (hv : Ln false (noT H) l0 [x, y]) :
    ∀ d, Heeds P w K mg base 7 X [("_law_line", 1)] [(1, (V.ref l0))] H (Says K CL CN CZ CT [.str "zero", .bl true]) (madeAt X (lamArgs (lBeh 5)) (lamBody (lBeh 5)) (lamScope (lBeh 5)) d) := by
  have sz : ∀ {n : Nat}, n ≤ 1000 → n ≤ sizeLine := fun h => Nat.le_of_lt (small1000 h)
  refine good_mk (s := sBeh) (l := lBeh 5) (vs := []) (rd := rd_Beh_5 CL CN CZ CT ) hX hq (by decide +kernel) (by decide +kernel) (lam_Beh_5 C_whole_roots) rfl (fun j y e => ?_) (says_zero ?_)
  · match j, e with
    | j + 0, e => cases e
  · intro G1 Q1 E1 s2 h
    exact ⟨sz (by decide : 0 ≤ 1000), fun m m0 => ⟨.ref m, rfl, .inr ⟨(nilT_ln upd_same).val, ⟨true, m, rfl, upd_same⟩, fun G2 s3 => h G2 ((Same.put m0).trans s3)⟩⟩⟩
theorem good_Beh_7 {P : Program} {w : World} {K : PySem.W.Frag} {mg : Str → Option Value} {base : Heap} {CL CN CZ CT : Addr} (C_monic_parts : Cl P w K mg base (L2.CX P w) 4 "monic_parts" s_monic_parts ["line"] (spRM CL)) {X : Cx} {m : Nat}
    (hX : X.env.cells = cellsFrom m (defScope sBeh).names []) (hq : X.env.qual ++ "<lambda>" = qBeh) {H : Hp} {v : V} {t : Str} (ho : ∃ (j : Bool) (a : Addr) (p : List Int), v = .ref a ∧ Val (noT H) v true ∧ At j (noT H) a p ∧ (p.length < 2 ∨ 5 < p.length ∨ co p (p.length - 1) ≠ 1)) (hs : Sh K (noT H) v t) :
    ∀ d, Heeds P w K mg base 7 X [("_law_odd", 3)] [(3, v)] H (Says K CL CN CZ CT [.str "line", .str t, .bl true]) (madeAt X (lamArgs (lBeh 7)) (lamBody (lBeh 7)) (lamScope (lBeh 7)) d) := by
  have sz : ∀ {n : Nat}, n ≤ 1000 → n ≤ sizeLine := fun h => Nat.le_of_lt (small1000 h)
  refine good_mk (s := sBeh) (l := lBeh 7) (vs := [v]) (rd := rd_Beh_7 CL CN CZ CT v) hX hq (by decide +kernel) (by decide +kernel) (lam_Beh_7 C_monic_parts) rfl (fun j y e => ?_) (says_line (v := v) ?_ hs)
  · match j, e with
    | 0, e => obtain rfl := Option.some.inj e; exact ⟨by decide +kernel, 3, by simp, fun w ew => by obtain rfl := Option.some.inj ew; simp⟩
    | j + 1, e => cases e
  · intro G1 Q1 E1 s2 h
    have h : Ref CL v G1 E1 := h
    obtain ⟨j, a, p, rfl, h1, h2, h3⟩ := ho
    exact ⟨_, rfl, _, rfl, .inr ⟨j, a, p, rfl, h1.same s2, h2.same s2, h3⟩, h⟩
theorem good_Beh_10 {P : Program} {w : World} {K : PySem.W.Frag} {mg : Str → Option Value} {base : Heap} {CL CN CZ CT : Addr} (C_line_times : Cl P w K mg base (L2.CX P w) 5 "line_times" s_line_times ["line", "other"] (spRT CL CT)) {X : Cx} {m : Nat}
    (hX : X.env.cells = cellsFrom m (defScope sBeh).names []) (hq : X.env.qual ++ "<lambda>" = qBeh) {H : Hp} {r1 r3 : Addr} {p q : List Int} (h1 : Ln false (noT H) r1 p) (h3 : Ln false (noT H) r3 q) (hl : (mulF p q).length = 14) :
    ∀ d, Heeds P w K mg base 7 X [("_law_one", 5), ("_law_more", 7)] [(5, (V.ref r1)), (7, (V.ref r3))] H (Says K CL CN CZ CT [.str "degree", .int 12, .bl true]) (madeAt X (lamArgs (lBeh 10)) (lamBody (lBeh 10)) (lamScope (lBeh 10)) d) := by
  have sz : ∀ {n : Nat}, n ≤ 1000 → n ≤ sizeLine := fun h => Nat.le_of_lt (small1000 h)
  refine good_mk (s := sBeh) (l := lBeh 10) (vs := [(V.ref r1), (V.ref r3)]) (rd := rd_Beh_10 CL CN CZ CT (V.ref r1) (V.ref r3)) hX hq (by decide +kernel) (by decide +kernel) (lam_Beh_10 C_line_times) rfl (fun j y e => ?_) (says_limit (u := .str "degree") (v := .int 12) ?_)
  · match j, e with
    | 0, e => obtain rfl := Option.some.inj e; exact ⟨by decide +kernel, 5, by simp, fun w ew => by obtain rfl := Option.some.inj ew; simp⟩
    | 1, e => obtain rfl := Option.some.inj e; exact ⟨by decide +kernel, 7, by simp, fun w ew => by obtain rfl := Option.some.inj ew; simp⟩
    | j + 2, e => cases e
  · intro G1 Q1 E1 s2 h
    exact ⟨_, rfl, _, rfl, rt_ln (h1.same s2) (h3.same s2) (.inl ⟨by omega, h⟩)⟩
theorem good_Beh_11 {P : Program} {w : World} {K : PySem.W.Frag} {mg : Str → Option Value} {base : Heap} {CL CN CZ CT : Addr} (C_line_times : Cl P w K mg base (L2.CX P w) 5 "line_times" s_line_times ["line", "other"] (spRT CL CT)) {X : Cx} {m : Nat}
    (hX : X.env.cells = cellsFrom m (defScope sBeh).names []) (hq : X.env.qual ++ "<lambda>" = qBeh) {H : Hp} {r1 r3 : Addr} {p q : List Int} (h1 : Ln false (noT H) r1 p) (h3 : Ln false (noT H) r3 q) (hl : (mulF p q).length = 14) :
    ∀ d, Heeds P w K mg base 7 X [("_law_one", 5), ("_law_more", 7)] [(5, (V.ref r1)), (7, (V.ref r3))] H (Says K CL CN CZ CT [.str "degree", .int 12, .bl true]) (madeAt X (lamArgs (lBeh 11)) (lamBody (lBeh 11)) (lamScope (lBeh 11)) d) := by
  have sz : ∀ {n : Nat}, n ≤ 1000 → n ≤ sizeLine := fun h => Nat.le_of_lt (small1000 h)
  refine good_mk (s := sBeh) (l := lBeh 11) (vs := []) (rd := rd_Beh_11 CL CN CZ CT ) hX hq (by decide +kernel) (by decide +kernel) (lam_Beh_11 C_line_times) rfl (fun j y e => ?_) (says_limit (u := .str "degree") (v := .int 12) ?_)
  · match j, e with
    | j + 0, e => cases e
  · intro G1 Q1 E1 s2 h
    exact ⟨sz (by decide : 1 ≤ 1000), fun m m0 => ⟨m, 13, _, rfl, rfl, upd_same, by decide, by decide, sz (by decide : 13 ≤ 1000), fun n n0 => ⟨sz (by decide : 2 ≤ 1000), fun o o0 => rt_ln (ln_by (k := false) (p := [0, 1]) upd_same (by decide +kernel)) (ones_ln (Same.put o0 _ _ upd_same)) (.inl ⟨by decide +kernel, fun d G2 s3 nd e => h d G2 ((((Same.put m0).trans (Same.put n0)).trans (Same.put o0)).trans s3) ((((Same.put m0).trans (Same.put n0)).trans (Same.put o0)).free nd) e⟩)⟩⟩⟩
theorem good_Beh_13 {P : Program} {w : World} {K : PySem.W.Frag} {mg : Str → Option Value} {base : Heap} {CL CN CZ CT : Addr} (C_line_times : Cl P w K mg base (L2.CX P w) 5 "line_times" s_line_times ["line", "other"] (spRT CL CT)) {X : Cx} {m : Nat}
    (hX : X.env.cells = cellsFrom m (defScope sBeh).names []) (hq : X.env.qual ++ "<lambda>" = qBeh) {H : Hp} {l0 r1 r2 : Addr} {x y : Int} {p q : List Int} (hv : Ln false (noT H) l0 [x, y]) (h1 : Ln false (noT H) r1 p) (h3 : Ln false (noT H) r2 q) (hl : (mulF p q).length = 13) :
    ∀ d, Heeds P w K mg base 7 X [("_law_line", 1), ("_law_one", 5), ("_law_other", 6)] [(1, (V.ref l0)), (5, (V.ref r1)), (6, (V.ref r2))] H (Says K CL CN CZ CT [.str "let"]) (madeAt X (lamArgs (lBeh 13)) (lamBody (lBeh 13)) (lamScope (lBeh 13)) d) := by
  have sz : ∀ {n : Nat}, n ≤ 1000 → n ≤ sizeLine := fun h => Nat.le_of_lt (small1000 h)
  refine good_mk (s := sBeh) (l := lBeh 13) (vs := [(V.ref r1), (V.ref r2)]) (rd := rd_Beh_13 CL CN CZ CT (V.ref r1) (V.ref r2)) hX hq (by decide +kernel) (by decide +kernel) (lam_Beh_13 C_line_times) rfl (fun j y e => ?_) (says_let ?_)
  · match j, e with
    | 0, e => obtain rfl := Option.some.inj e; exact ⟨by decide +kernel, 5, by simp, fun w ew => by obtain rfl := Option.some.inj ew; simp⟩
    | 1, e => obtain rfl := Option.some.inj e; exact ⟨by decide +kernel, 6, by simp, fun w ew => by obtain rfl := Option.some.inj ew; simp⟩
    | j + 2, e => cases e
  · intro G1 Q1 E1 s2 h
    exact ⟨_, rfl, _, rfl, rt_ln (h1.same s2) (h3.same s2) (.inr ⟨by omega, fun r G2 s3 => h _ G2 s3⟩)⟩
theorem good_Beh_14 {P : Program} {w : World} {K : PySem.W.Frag} {mg : Str → Option Value} {base : Heap} {CL CN CZ CT : Addr} (C_line_times : Cl P w K mg base (L2.CX P w) 5 "line_times" s_line_times ["line", "other"] (spRT CL CT)) {X : Cx} {m : Nat}
    (hX : X.env.cells = cellsFrom m (defScope sBeh).names []) (hq : X.env.qual ++ "<lambda>" = qBeh) {H : Hp} {l0 r1 r2 : Addr} {x y : Int} {p q : List Int} (hv : Ln false (noT H) l0 [x, y]) (h1 : Ln false (noT H) r1 p) (h3 : Ln false (noT H) r2 q) (hl : (mulF p q).length = 13) :
    ∀ d, Heeds P w K mg base 7 X [("_law_line", 1), ("_law_one", 5), ("_law_other", 6)] [(1, (V.ref l0)), (5, (V.ref r1)), (6, (V.ref r2))] H (Says K CL CN CZ CT [.str "let"]) (madeAt X (lamArgs (lBeh 14)) (lamBody (lBeh 14)) (lamScope (lBeh 14)) d) := by
  have sz : ∀ {n : Nat}, n ≤ 1000 → n ≤ sizeLine := fun h => Nat.le_of_lt (small1000 h)
  refine good_mk (s := sBeh) (l := lBeh 14) (vs := []) (rd := rd_Beh_14 CL CN CZ CT ) hX hq (by decide +kernel) (by decide +kernel) (lam_Beh_14 C_line_times) rfl (fun j y e => ?_) (says_let ?_)
  · match j, e with
    | j + 0, e => cases e
  · intro G1 Q1 E1 s2 h
    exact ⟨sz (by decide : 1 ≤ 1000), fun m m0 => ⟨m, 13, _, rfl, rfl, upd_same, by decide, by decide, sz (by decide : 13 ≤ 1000), fun n n0 => ⟨sz (by decide : 0 ≤ 1000), fun o o0 => rt_ln (ones_ln (Same.put o0 _ _ upd_same)) (nil_ln upd_same) (.inr ⟨by decide +kernel, fun r G2 s3 => h _ G2 ((((Same.put m0).trans (Same.put n0)).trans (Same.put o0)).trans s3)⟩)⟩⟩⟩
theorem good_Beh_15 {P : Program} {w : World} {K : PySem.W.Frag} {mg : Str → Option Value} {base : Heap} {CL CN CZ CT : Addr} (C_line_times : Cl P w K mg base (L2.CX P w) 5 "line_times" s_line_times ["line", "other"] (spRT CL CT)) {X : Cx} {m : Nat}
    (hX : X.env.cells = cellsFrom m (defScope sBeh).names []) (hq : X.env.qual ++ "<lambda>" = qBeh) {H : Hp} {l0 r1 r2 : Addr} {x y : Int} {p q : List Int} (hv : Ln false (noT H) l0 [x, y]) (h1 : Ln false (noT H) r1 p) (h3 : Ln false (noT H) r2 q) (hl : (mulF p q).length = 13) :
    ∀ d, Heeds P w K mg base 7 X [("_law_line", 1), ("_law_one", 5), ("_law_other", 6)] [(1, (V.ref l0)), (5, (V.ref r1)), (6, (V.ref r2))] H (Says K CL CN CZ CT [.str "let"]) (madeAt X (lamArgs (lBeh 15)) (lamBody (lBeh 15)) (lamScope (lBeh 15)) d) := by
  have sz : ∀ {n : Nat}, n ≤ 1000 → n ≤ sizeLine := fun h => Nat.le_of_lt (small1000 h)
  refine good_mk (s := sBeh) (l := lBeh 15) (vs := []) (rd := rd_Beh_15 CL CN CZ CT ) hX hq (by decide +kernel) (by decide +kernel) (lam_Beh_15 C_line_times) rfl (fun j y e => ?_) (says_let ?_)
  · match j, e with
    | j + 0, e => cases e
  · intro G1 Q1 E1 s2 h
    exact ⟨sz (by decide : 0 ≤ 1000), fun o o0 => ⟨sz (by decide : 1 ≤ 1000), fun m m0 => ⟨m, 13, _, rfl, rfl, upd_same, by decide, by decide, sz (by decide : 13 ≤ 1000), fun n n0 => rt_ln (nil_ln (Same.put n0 _ _ (Same.put m0 _ _ upd_same))) (ones_ln upd_same) (.inr ⟨by decide +kernel, fun r G2 s3 => h _ G2 ((((Same.put o0).trans (Same.put m0)).trans (Same.put n0)).trans s3)⟩)⟩⟩⟩
theorem good_Beh_16 {P : Program} {w : World} {K : PySem.W.Frag} {mg : Str → Option Value} {base : Heap} {CL CN CZ CT : Addr} (C_line_divided : Cl P w K mg base (L2.CX P w) 5 "line_divided" s_line_divided ["line", "other"] (spRZ CL CZ)) {X : Cx} {m : Nat}
    (hX : X.env.cells = cellsFrom m (defScope sBeh).names []) (hq : X.env.qual ++ "<lambda>" = qBeh) {H : Hp} {l0 r1 r2 : Addr} {x y : Int} {p q : List Int} (hv : Ln false (noT H) l0 [x, y]) (h1 : Ln false (noT H) r1 p) (h3 : Ln false (noT H) r2 q) (hl : (mulF p q).length = 13) :
    ∀ d, Heeds P w K mg base 7 X [("_law_line", 1), ("_law_one", 5), ("_law_other", 6)] [(1, (V.ref l0)), (5, (V.ref r1)), (6, (V.ref r2))] H (Says K CL CN CZ CT [.str "let"]) (madeAt X (lamArgs (lBeh 16)) (lamBody (lBeh 16)) (lamScope (lBeh 16)) d) := by
  have sz : ∀ {n : Nat}, n ≤ 1000 → n ≤ sizeLine := fun h => Nat.le_of_lt (small1000 h)
  refine good_mk (s := sBeh) (l := lBeh 16) (vs := [(V.ref l0)]) (rd := rd_Beh_16 CL CN CZ CT (V.ref l0)) hX hq (by decide +kernel) (by decide +kernel) (lam_Beh_16 C_line_divided) rfl (fun j y e => ?_) (says_let ?_)
  · match j, e with
    | 0, e => obtain rfl := Option.some.inj e; exact ⟨by decide +kernel, 1, by simp, fun w ew => by obtain rfl := Option.some.inj ew; simp⟩
    | j + 1, e => cases e
  · intro G1 Q1 E1 s2 h
    exact ⟨sz (by decide : 0 ≤ 1000), fun m m0 => ⟨_, rfl, .ref m, _, true, true, rfl, (nil_ln upd_same).val, hv.val.same (s2.trans (Same.put m0)), .inr (.inr (.inr ⟨rfl, rfl, false, false, m, l0, _, rfl, rfl, (nil_ln upd_same).at_, hv.at_.same (s2.trans (Same.put m0)), by simp, by simp, fun r G2 s3 => h _ G2 ((Same.put m0).trans s3)⟩))⟩⟩
theorem good_Beh_17 {P : Program} {w : World} {K : PySem.W.Frag} {mg : Str → Option Value} {base : Heap} {CL CN CZ CT : Addr} (C_resultant : Cl P w K mg base (L2.CX P w) 5 "resultant" s_resultant ["line", "other"] (spRZ2 CL CZ)) {X : Cx} {m : Nat}
    (hX : X.env.cells = cellsFrom m (defScope sBeh).names []) (hq : X.env.qual ++ "<lambda>" = qBeh) {H : Hp} {l0 r1 r2 : Addr} {x y : Int} {p q : List Int} (hv : Ln false (noT H) l0 [x, y]) (h1 : Ln false (noT H) r1 p) (h3 : Ln false (noT H) r2 q) (hl : (mulF p q).length = 13) :
    ∀ d, Heeds P w K mg base 7 X [("_law_line", 1), ("_law_one", 5), ("_law_other", 6)] [(1, (V.ref l0)), (5, (V.ref r1)), (6, (V.ref r2))] H (Says K CL CN CZ CT [.str "let"]) (madeAt X (lamArgs (lBeh 17)) (lamBody (lBeh 17)) (lamScope (lBeh 17)) d) := by
  have sz : ∀ {n : Nat}, n ≤ 1000 → n ≤ sizeLine := fun h => Nat.le_of_lt (small1000 h)
  refine good_mk (s := sBeh) (l := lBeh 17) (vs := []) (rd := rd_Beh_17 CL CN CZ CT ) hX hq (by decide +kernel) (by decide +kernel) (lam_Beh_17 C_resultant) rfl (fun j y e => ?_) (says_let ?_)
  · match j, e with
    | j + 0, e => cases e
  · intro G1 Q1 E1 s2 h
    exact ⟨sz (by decide : 1 ≤ 1000), fun m m0 => ⟨sz (by decide : 1 ≤ 1000), fun n n0 => ⟨.ref m, .ref n, true, true, rfl, (ln_by (p := [2]) (k := false) (Same.put n0 _ _ upd_same) (by decide +kernel)).val, (ln_by (p := [3]) (k := false) upd_same (by decide +kernel)).val, .inr (.inr (.inr ⟨rfl, rfl, m, n, 2, 3, rfl, rfl, Same.put n0 _ _ upd_same, upd_same, fun G2 s3 => h _ G2 (((Same.put m0).trans (Same.put n0)).trans s3)⟩))⟩⟩⟩
theorem ok__law_behind_right {P : Program} {w : World} {K : PySem.W.Frag} {mg : Str → Option Value} {base : Heap} (T : Top K mg) {CL CN CZ CT : Addr} (X : Exc K mg CL CN CZ CT) {TT : List (Addr × Str)} {c Pt : Addr}
    (D : DfC K mg "_law_behind_right" sBeh ["_law_pot_here", "_law_line"] c) (B : LamX.TabB base mg c Pt) (mem : (Pt, qBeh) ∈ TT) (own : ∀ p ∈ TT, p.1 = Pt → p.2 = qBeh)
    (C_line_divided : Cl P w K mg base (L2.CX P w) 5 "line_divided" s_line_divided ["line", "other"] (spRZ CL CZ))
    (C_resultant : Cl P w K mg base (L2.CX P w) 5 "resultant" s_resultant ["line", "other"] (spRZ2 CL CZ))
    (C_plain_parts : Cl P w K mg base (L2.CX P w) 5 "plain_parts" s_plain_parts ["line"] (spR0 CL CZ))
    (C_whole_roots : Cl P w K mg base (L2.CX P w) 5 "whole_roots" s_whole_roots ["line"] (spR0 CL CZ))
    (C_monic_parts : Cl P w K mg base (L2.CX P w) 4 "monic_parts" s_monic_parts ["line"] (spRM CL))
    (C_line_times : Cl P w K mg base (L2.CX P w) 5 "line_times" s_line_times ["line", "other"] (spRT CL CT))
    (C__law_heard : Cl P w K mg base CX0 8 "_law_heard" s__law_heard ["_law_call"] (spHeard P w K mg base CL CN CZ CT 7)) (C__law_draw : Cl P w K mg base CX0 1 "_law_draw" s__law_draw ["_law_pot_here", "_law_many"] spDraw)
    (C__law_are : Cl P w K mg base CX0 9 "_law_are" s__law_are ["_law_calls", "_law_due"] (spAre P w K mg base CL CN CZ CT 7)) :
    Cl P w K mg base CX0 10 "_law_behind_right" sBeh ["_law_pot_here", "_law_line"] (spBehR K TT) := by
  refine D.cl S__law_behind_right (fun vs H Q E h => by obtain ⟨_, _, _, _, rfl, _⟩ := h; rfl) ?_
  rintro f A out s H vs Q E hG hr ⟨a, l0, x, y, rfl, hp, la, hl, tt, q⟩
  have hu := hu64 hr
  have sz : ∀ {n : Nat}, n ≤ 1000 → n ≤ sizeLine := fun h => Nat.le_of_lt (small1000 h)
  refine ⟨_, PSs.nox pss_goes, ?_⟩
  have hv : Ln false (noT H) l0 [x, y] := ⟨noT_is hl.at_ lst_no, hl.cn, hl.len, hl.bd⟩
  refine Goes.first (i := 2) (Ok := Heeds P w K mg base 7 _ [("_law_line", 1)] [(1, (V.ref l0))] H (Says K CL CN CZ CT [.str "zero", .bl true])) (par := lamArgs (lBeh 0)) (bd := lamBody (lBeh 0)) (sc := lamScope (lBeh 0)) B rfl mem own rfl (LamX.lamS_by (show LamX.lamSB (defScope sBeh) (lamScope (lBeh 0)) = true by decide +kernel)) S__law_behind_right.nd rfl (Or.inl rfl) tt (good_Beh_0 C_line_divided cells_cx qual_cx hv) fun l G0 k0 => ?_
  refine Goes.more (i := 2) (par := lamArgs (lBeh 1)) (bd := lamBody (lBeh 1)) (sc := lamScope (lBeh 1)) B rfl mem own rfl (LamX.lamS_by (show LamX.lamSB (defScope sBeh) (lamScope (lBeh 1)) = true by decide +kernel)) rfl (Or.inl rfl) k0 (by decide) rfl (good_Beh_1 C_line_divided cells_cx qual_cx hv) fun G1 k1 => ?_
  clear k0
  refine Goes.more (i := 2) (par := lamArgs (lBeh 2)) (bd := lamBody (lBeh 2)) (sc := lamScope (lBeh 2)) B rfl mem own rfl (LamX.lamS_by (show LamX.lamSB (defScope sBeh) (lamScope (lBeh 2)) = true by decide +kernel)) rfl (Or.inl rfl) k1 (by decide) rfl (good_Beh_2 C_resultant cells_cx qual_cx hv) fun G2 k2 => ?_
  clear k1
  refine Goes.more (i := 2) (par := lamArgs (lBeh 3)) (bd := lamBody (lBeh 3)) (sc := lamScope (lBeh 3)) B rfl mem own rfl (LamX.lamS_by (show LamX.lamSB (defScope sBeh) (lamScope (lBeh 3)) = true by decide +kernel)) rfl (Or.inl rfl) k2 (by decide) rfl (good_Beh_3 C_resultant cells_cx qual_cx hv) fun G3 k3 => ?_
  clear k2
  refine Goes.more (i := 2) (par := lamArgs (lBeh 4)) (bd := lamBody (lBeh 4)) (sc := lamScope (lBeh 4)) B rfl mem own rfl (LamX.lamS_by (show LamX.lamSB (defScope sBeh) (lamScope (lBeh 4)) = true by decide +kernel)) rfl (Or.inl rfl) k3 (by decide) rfl (good_Beh_4 C_plain_parts cells_cx qual_cx hv) fun G4 k4 => ?_
  clear k3
  refine Goes.more (i := 2) (par := lamArgs (lBeh 5)) (bd := lamBody (lBeh 5)) (sc := lamScope (lBeh 5)) B rfl mem own rfl (LamX.lamS_by (show LamX.lamSB (defScope sBeh) (lamScope (lBeh 5)) = true by decide +kernel)) rfl (Or.inl rfl) k4 (by decide) rfl (good_Beh_5 C_whole_roots cells_cx qual_cx hv) fun G5 k5 => ?_
  clear k4
  refine Goes.cons (ps_if (pt_not (pt_val (pe_over (caps := [("_law_line", 1)]) C__law_are (fun _ => rfl) (fun y i m => by simp only [List.mem_cons, Prod.mk.injEq, List.not_mem_nil, or_false] at m; rcases m with ⟨rfl, rfl⟩ <;> exact ⟨rfl, .inl rfl⟩) hG hr (by decide) (by rfl) (pa_cons (pv 2) (pa_cons (pe_lst (pa_cons pe_str (pa_cons pe_bl pa_nil))) pa_nil))))) (pss_one (ps_ret pe_bl)) pss_nil) ?_
  refine not_are k5 plain_zero (fun i w m => by simp only [List.mem_cons, Prod.mk.injEq, List.not_mem_nil, or_false] at m; rcases m with ⟨rfl, rfl⟩ <;> rfl) rfl rfl (by decide) fun H1 x1 t1 => ?_
  clear k5
  refine iteF ?_
  have hp1 : PotAt H1 a := by
    obtain ⟨p1, p2, e, z⟩ := hp
    exact ⟨p1, p2, x1 _ _ e lst_no, z⟩
  have hv1 : Ln false H1 l0 [x, y] := ⟨x1 _ _ hl.at_ lst_no, hl.cn, hl.len, hl.bd⟩
  show Goes _ _ _ _ H1
  refine Goes.cons (ps_for PassesOwn.never rfl (pi_lstK (K := K) rfl (pe_lst (pa_cons (pe_lst pa_nil) (pa_cons (pe_lst (pa_cons pe_int pa_nil)) (pa_cons (pe_tup (pa_cons pe_int pa_nil)) (pa_cons (pe_lst (pa_cons pe_int (pa_cons pe_int pa_nil))) (pa_cons (pe_lst (pa_cons pe_int (pa_cons pe_int (pa_cons pe_int pa_nil)))) (pa_cons (pe_lst (pa_cons pe_int (pa_cons pe_int (pa_cons pe_int (pa_cons pe_int (pa_cons pe_int (pa_cons pe_int pa_nil))))))) (pa_cons (pe_lst (pa_cons pe_int (pa_cons pe_int (pa_cons (pe_as (t' := tC (.int (-1))) (pe_un un_neg pe_int) (fun _ _ _ z => ⟨_, rfl, z⟩)) pa_nil)))) (pa_cons (pe_tup (pa_cons pe_int (pa_cons pe_int (pa_cons pe_int (pa_cons pe_int (pa_cons (pe_as (t' := tC (.int (-1))) (pe_un un_neg pe_int) (fun _ _ _ z => ⟨_, rfl, z⟩)) pa_nil)))))) pa_nil)))))))))) (pg_name (i := 3) S__law_behind_right.nd rfl (Or.inr rfl))
    pss_goes) ?_
  refine for_vals (R := OddM K) (fun G σ' H' => ∃ y3, σ' = [some (.ref a), some (.ref l0), some (.ref l), y3, none, none, none, none] ∧ LamX.ExtN G H' ∧ LamX.Tabs TT H') odds_M (by decide) cl_oddM (fun G σ' H' z => z.elim fun _ z => z.2.1) (fun G s2 => ⟨none, rfl, LamX.ExtN.refl _, t1.ext s2⟩) ?_ ?_
  · rintro G v σ' H' s2 hv' ⟨y3, rfl, ex, tt2⟩
    obtain ⟨t, j, b, p, rfl, hok, hval, hat, hc, hsh⟩ := oddM_ext (K := K) ex hv'
    show Goes _ _ _ [some (.ref a), some (.ref l0), some (.ref l), some (.ref b), none, none, none, none] H'
    refine Goes.of (pss_one (ps_if (pt_cmpR (op_neDK (K := K) rfl hu) (pe_over (caps := [("_law_odd", 3)]) C__law_heard (fun _ => rfl) (fun y i m => by simp only [List.mem_cons, Prod.mk.injEq, List.not_mem_nil, or_false] at m; rcases m with ⟨rfl, rfl⟩ <;> exact ⟨rfl, .inl rfl⟩) hG hr (by decide) (by rfl) (pa_cons (pe_lam (par := lamArgs (lBeh 7)) (bd := lamBody (lBeh 7)) (sc := lamScope (lBeh 7)) B rfl mem own rfl (LamX.lamS_by (show LamX.lamSB (defScope sBeh) (lamScope (lBeh 7)) = true by decide +kernel))) pa_nil)) (pe_lst (pa_cons pe_str (pa_cons (pe_callB (call_shownK (K := K) rfl hG hu) (by rfl) T.n_repr (by decide +kernel) (pa_cons (pv 3) pa_nil)) (pa_cons pe_bl pa_nil)))) (nomark _)) (pss_one (ps_ret pe_bl)) pss_nil)) ?_
    refine test_heard tt2 (good_Beh_7 C_monic_parts cells_cx qual_cx ⟨j, b, p, rfl, hval, hat, hc⟩ hsh) (fun _ => rfl) (plain_two (by decide +kernel) hok) (fun i w m => by simp only [List.mem_cons, Prod.mk.injEq, List.not_mem_nil, or_false] at m; rcases m with ⟨rfl, rfl⟩ <;> rfl) (by show 3 ≤ 1000; decide) (fun G2 Q2 s3 z => ⟨_, rfl, _, _, rfl, hsh.same s3, z⟩) fun G3 x3 t3 => ?_
    exact iteF ⟨_, rfl, ex.trans x3, t3⟩
  rintro G σ' H3 s2 ⟨y3, rfl, ex, tt2⟩
  have e3 : LamX.ExtN H1 H3 := (ext_of s2).trans ex
  have hp3 : PotAt H3 a := by
    obtain ⟨p1, p2, e, z⟩ := hp1
    exact ⟨p1, p2, e3 _ _ e lst_no, z⟩
  have hv3 : Ln false H3 l0 [x, y] := ⟨e3 _ _ hv1.at_ lst_no, hv1.cn, hv1.len, hv1.bd⟩
  show Goes _ _ _ [some (.ref a), some (.ref l0), some (.ref l), y3, none, none, none, none] H3
  refine Goes.cons (ps_set (i := 4) S__law_behind_right.nd rfl (Or.inl rfl) (pe_op op_add pe_int (pe_u C__law_draw hG hr (by decide) (by rfl) pass0 (pa_cons (pv 0) (pa_cons pe_int pa_nil))))) ?_
  refine ⟨_, rfl, a, 12, rfl, hp3, by decide, by decide, fun H4 d c4 p4 d0 d1 => ⟨_, _, rfl, rfl, ?_⟩⟩
  obtain ⟨m, rfl⟩ : ∃ m : Nat, d = (m : Int) := ⟨d.toNat, by omega⟩
  have hm : m < 12 := by omega
  have t4 : LamX.Tabs TT H4 := by
    obtain ⟨p1, p2, e, z⟩ := hp3
    exact tabs_chg1 tt2 c4 e
  have hv4 : Ln false H4 l0 [x, y] := hv3.chg c4 la
  have em : V.int ((1 : Int) + (m : Int)) = V.int ((m + 1 : Nat) : Int) := congrArg V.int (by omega)
  show Goes _ _ _ [some (.ref a), some (.ref l0), some (.ref l), y3, some (.int ((1 : Int) + (m : Int))), none, none, none] H4
  rw [em]
  clear em
  refine Goes.cons (ps_asg (pe_tup (pa_cons (pe_op op_cat (pe_op op_rep (pe_lst (pa_cons pe_int pa_nil)) (pv 4)) (pe_lst (pa_cons pe_int pa_nil))) (pa_cons (pe_op op_cat (pe_op op_rep (pe_lst (pa_cons pe_int pa_nil)) (pe_op op_sub pe_int (pv 4))) (pe_lst (pa_cons (pe_un un_neg pe_int) pa_nil))) (pa_cons (pe_op op_cat (pe_op op_rep (pe_lst (pa_cons pe_int pa_nil)) (pe_op op_sub pe_int (pv 4))) (pe_lst (pa_cons pe_int pa_nil))) pa_nil))))
    (pg_tup rfl (pgs_cons (pg_name (i := 5) S__law_behind_right.nd rfl (Or.inr rfl)) (pgs_cons (pg_name (i := 6) S__law_behind_right.nd rfl (Or.inr rfl)) (pgs_cons (pg_name (i := 7) S__law_behind_right.nd rfl (Or.inr rfl)) pgs_nil))))) ?_
  refine three_new (e2 := .int (-2)) (k1 := m + 1) (k2 := 11 - m) (k3 := 12 - m) (fun H Q z => ⟨_, rfl, z⟩) (fun H Q z => ⟨_, rfl, _, _, rfl, rfl, ?_⟩) (fun H Q z => ⟨_, rfl, _, _, rfl, rfl, ?_⟩) (fun H Q z => z) (fun H Q z => ⟨_, rfl, z⟩) (fun H Q z => z) (by omega) (by omega) (by omega) fun G5 r1 r2 r3 s5 g1 g2 g3 => ?_
  · show Q (V.int ((12 : Int) - ((m + 1 : Nat) : Int))) H
    rw [show (12 : Int) - ((m + 1 : Nat) : Int) = ((11 - m : Nat) : Int) by omega]; exact z
  · show Q (V.int ((13 : Int) - ((m + 1 : Nat) : Int))) H
    rw [show (13 : Int) - ((m + 1 : Nat) : Int) = ((12 - m : Nat) : Int) by omega]; exact z
  have hd := draws_ok ⟨m, hm⟩
  simp only [Bool.and_eq_true] at hd
  have h1 := rep_ln g1 hd.1
  have h2 := rep_ln g2 hd.2.1
  have h3 := rep_ln g3 hd.2.2
  have t5 : LamX.Tabs TT G5 := t4.ext s5
  have hv5 := hv4.same s5
  have hl13 : (mulF (List.replicate (m + 1) 0 ++ [1]) (List.replicate (12 - m) 1 ++ [3])).length = 14 := by rw [rep_len]; omega
  have hl12 : (mulF (List.replicate (m + 1) 0 ++ [1]) (List.replicate (11 - m) 0 ++ [-2])).length = 13 := by rw [rep_len]; omega
  show Goes _ _ _ [some (.ref a), some (.ref l0), some (.ref l), y3, some (.int ((m + 1 : Nat) : Int)), some (.ref r1), some (.ref r2), some (.ref r3)] G5
  refine Goes.first (i := 2) (Ok := Heeds P w K mg base 7 _ [("_law_one", 5), ("_law_more", 7)] [(5, (V.ref r1)), (7, (V.ref r3))] G5 (Says K CL CN CZ CT [.str "degree", .int 12, .bl true])) (par := lamArgs (lBeh 10)) (bd := lamBody (lBeh 10)) (sc := lamScope (lBeh 10)) B rfl mem own rfl (LamX.lamS_by (show LamX.lamSB (defScope sBeh) (lamScope (lBeh 10)) = true by decide +kernel)) S__law_behind_right.nd rfl (Or.inl rfl) t5 (good_Beh_10 C_line_times cells_cx qual_cx h1 h3 hl13) fun l G0 k0 => ?_
  refine Goes.more (i := 2) (par := lamArgs (lBeh 11)) (bd := lamBody (lBeh 11)) (sc := lamScope (lBeh 11)) B rfl mem own rfl (LamX.lamS_by (show LamX.lamSB (defScope sBeh) (lamScope (lBeh 11)) = true by decide +kernel)) rfl (Or.inl rfl) k0 (by decide) rfl (good_Beh_11 C_line_times cells_cx qual_cx h1 h3 hl13) fun G1 k1 => ?_
  clear k0
  refine Goes.cons (ps_if (pt_not (pt_val (pe_over (caps := [("_law_one", 5), ("_law_more", 7)]) C__law_are (fun _ => rfl) (fun y i m => by simp only [List.mem_cons, Prod.mk.injEq, List.not_mem_nil, or_false] at m; rcases m with ⟨rfl, rfl⟩ | ⟨rfl, rfl⟩ <;> exact ⟨rfl, .inl rfl⟩) hG hr (by decide) (by rfl) (pa_cons (pv 2) (pa_cons (pe_lst (pa_cons pe_str (pa_cons pe_int (pa_cons pe_bl pa_nil)))) pa_nil))))) (pss_one (ps_ret pe_bl)) pss_nil) ?_
  refine not_are k1 plain_deg (fun i w m => by simp only [List.mem_cons, Prod.mk.injEq, List.not_mem_nil, or_false] at m; rcases m with ⟨rfl, rfl⟩ | ⟨rfl, rfl⟩ <;> rfl) rfl rfl (by decide) fun H6 x6 t6 => ?_
  clear k1
  refine iteF ?_
  have h16 := h1.same (ext_noT x6)
  have h26 := h2.same (ext_noT x6)
  have hv6 : Ln false (noT H6) l0 [x, y] := ⟨noT_is (x6 _ _ hv5.at_ lst_no) lst_no, hv5.cn, hv5.len, hv5.bd⟩
  show Goes _ _ _ [some (.ref a), some (.ref l0), some (.ref l), y3, some (.int ((m + 1 : Nat) : Int)), some (.ref r1), some (.ref r2), some (.ref r3)] H6
  refine Goes.first (i := 2) (Ok := Heeds P w K mg base 7 _ [("_law_line", 1), ("_law_one", 5), ("_law_other", 6)] [(1, (V.ref l0)), (5, (V.ref r1)), (6, (V.ref r2))] H6 (Says K CL CN CZ CT [.str "let"])) (par := lamArgs (lBeh 13)) (bd := lamBody (lBeh 13)) (sc := lamScope (lBeh 13)) B rfl mem own rfl (LamX.lamS_by (show LamX.lamSB (defScope sBeh) (lamScope (lBeh 13)) = true by decide +kernel)) S__law_behind_right.nd rfl (Or.inl rfl) t6 (good_Beh_13 C_line_times cells_cx qual_cx hv6 h16 h26 hl12) fun l G0 k0 => ?_
  refine Goes.more (i := 2) (par := lamArgs (lBeh 14)) (bd := lamBody (lBeh 14)) (sc := lamScope (lBeh 14)) B rfl mem own rfl (LamX.lamS_by (show LamX.lamSB (defScope sBeh) (lamScope (lBeh 14)) = true by decide +kernel)) rfl (Or.inl rfl) k0 (by decide) rfl (good_Beh_14 C_line_times cells_cx qual_cx hv6 h16 h26 hl12) fun G1 k1 => ?_
  clear k0
  refine Goes.more (i := 2) (par := lamArgs (lBeh 15)) (bd := lamBody (lBeh 15)) (sc := lamScope (lBeh 15)) B rfl mem own rfl (LamX.lamS_by (show LamX.lamSB (defScope sBeh) (lamScope (lBeh 15)) = true by decide +kernel)) rfl (Or.inl rfl) k1 (by decide) rfl (good_Beh_15 C_line_times cells_cx qual_cx hv6 h16 h26 hl12) fun G2 k2 => ?_
  clear k1
  refine Goes.more (i := 2) (par := lamArgs (lBeh 16)) (bd := lamBody (lBeh 16)) (sc := lamScope (lBeh 16)) B rfl mem own rfl (LamX.lamS_by (show LamX.lamSB (defScope sBeh) (lamScope (lBeh 16)) = true by decide +kernel)) rfl (Or.inl rfl) k2 (by decide) rfl (good_Beh_16 C_line_divided cells_cx qual_cx hv6 h16 h26 hl12) fun G3 k3 => ?_
  clear k2
  refine Goes.more (i := 2) (par := lamArgs (lBeh 17)) (bd := lamBody (lBeh 17)) (sc := lamScope (lBeh 17)) B rfl mem own rfl (LamX.lamS_by (show LamX.lamSB (defScope sBeh) (lamScope (lBeh 17)) = true by decide +kernel)) rfl (Or.inl rfl) k3 (by decide) rfl (good_Beh_17 C_resultant cells_cx qual_cx hv6 h16 h26 hl12) fun G4 k4 => ?_
  clear k3
  refine Goes.of (pss_one (ps_ret (pe_over (caps := [("_law_line", 1), ("_law_one", 5), ("_law_other", 6)]) C__law_are (fun _ => rfl) (fun y i m => by simp only [List.mem_cons, Prod.mk.injEq, List.not_mem_nil, or_false] at m; rcases m with ⟨rfl, rfl⟩ | ⟨rfl, rfl⟩ | ⟨rfl, rfl⟩ <;> exact ⟨rfl, .inl rfl⟩) hG hr (by decide) (by rfl) (pa_cons (pv 2) (pa_cons (pe_lst (pa_cons pe_str pa_nil)) pa_nil))))) ?_
  exact call_are k4 plain_let (fun i w m => by simp only [List.mem_cons, Prod.mk.injEq, List.not_mem_nil, or_false] at m; rcases m with ⟨rfl, rfl⟩ | ⟨rfl, rfl⟩ | ⟨rfl, rfl⟩ <;> rfl) rfl rfl (by decide) fun G' _ _ => q G'
/-- the pot, and the tables of what the law's defs make -/
def spRightT (T : List (Addr × Str)) : Sp := fun vs H Q _ => ∃ a : Addr, vs = [.ref a] ∧ PotAt H a ∧ LamX.Tabs T H ∧ ∀ H', Q (.bl true) H'
def spLawT (K : PySem.W.Frag) (T : List (Addr × Str)) : Sp := fun vs H Q _ => ∃ (a : Addr) (ns : List Int), vs = [.ref a] ∧ SqL K H a (ns.map V.int) ∧ ns.length ≤ 63 ∧ LamX.Tabs T H ∧ ∀ H', Q (.bl true) H'
theorem line_ok : ∀ (d : Fin 9) (e : Fin 5), lnS [((d.val : Nat) : Int) - 4, 1 + ((e.val : Nat) : Int)] = true := by decide +kernel
theorem for_valsS {K : PySem.W.Frag} {R : Hp → V → Prop} {ta : TA} {n : Nat} {g : TG} {tb r : TS} {D : Ends} {σ : L2.St} {H : Hp} (I : Hp → L2.St → Hp → Prop) (g0 : GAp R ta n σ H) (hn : n ≤ 1000) (hR : Cl1 R) (hI : ∀ G σ' H', I G σ' H' → LamX.ExtN G H')
    (h0 : ∀ G, Same H G → I G σ G) (hs : ∀ G v σ' H', Same H G → R G v → I G σ' H' → g v σ' H' fun σ2 H2 => tb { D with nx := I G, ct := I G, bk := r D } σ2 H2)
    (hd : ∀ G σ' H', Same H G → I G σ' H' → r D σ' H') : tSeq (tFor (iList K (tLst ta)) g tb) r D σ H :=
  for_vals (D := { D with nx := r D }) I g0 hn hR hI h0 hs hd
theorem ok__law_right {P : Program} {w : World} {K : PySem.W.Frag}
    {mg : Str → Option Value} {base : Heap} (T : Top K mg) {CL CN CZ CT : Addr} (X : Exc K mg CL CN CZ CT) {TT : List (Addr × Str)} (C__law_lines_right : Cl P w K mg base CX0 10 "_law_lines_right" sLin ["_law_odd", "_law_line"] (spLinR K TT)) (C__law_numbers_right : Cl P w K mg base CX0 10 "_law_numbers_right" sNum ["_law_odd", "_law_line"] (spNumR K TT)) (C__law_behind_right : Cl P w K mg base CX0 10 "_law_behind_right" sBeh ["_law_pot_here", "_law_line"] (spBehR K TT))
    (C__law_draw : Cl P w K mg base CX0 1 "_law_draw" s__law_draw ["_law_pot_here", "_law_many"] (spDraw)) :
    Cl P w K mg base CX0 11 "_law_right" s__law_right ["_law_pot_here"] (spRightT TT) := by
  refine T.d__law_right.cl fun f fd F => body_0 F S__law_right (fun vs H Q E h => by obtain ⟨_, rfl, _⟩ := h; rfl) ?_
  intro cdv A out s H vs Q E hG hr h
  obtain ⟨a, rfl, hp, tt, q⟩ := h
  refine ⟨_, (pss_cons (ps_set (i := 1) S__law_right.nd rfl (Or.inl rfl) (pe_lst (pa_cons (pe_op op_sub (pe_u C__law_draw hG hr (by decide) (by rfl) pass0 (pa_cons (pv 0) (pa_cons pe_int pa_nil))) pe_int) (pa_cons (pe_op op_add pe_int (pe_u C__law_draw hG hr (by decide) (by rfl) pass0 (pa_cons (pv 0) (pa_cons pe_int pa_nil)))) pa_nil))))
    (pss_cons (ps_for PassesOwn.never rfl (pi_list (pe_lst (pa_cons pe_non (pa_cons pe_int (pa_cons pe_int (pa_cons pe_bl (pa_cons pe_str (pa_cons pe_str (pa_cons pe_dnewK (pa_cons (pe_lst (pa_cons pe_int pa_nil)) (pa_cons (pe_lst (pa_cons pe_int (pa_cons pe_int pa_nil))) (pa_cons (pe_tup (pa_cons pe_int pa_nil)) (pa_cons (pe_lst (pa_cons pe_bl pa_nil)) (pa_cons (pe_lst (pa_cons pe_int (pa_cons pe_bl pa_nil))) (pa_cons (pe_lst (pa_cons pe_str pa_nil)) (pa_cons (pe_lst (pa_cons pe_int (pa_cons (pe_lst (pa_cons pe_int pa_nil)) pa_nil))) (pa_cons (pe_lst (pa_cons pe_non (pa_cons pe_int pa_nil))) (pa_cons (pe_op op_rep (pe_lst (pa_cons pe_int pa_nil)) pe_int) (pa_cons (pe_lst (pa_cons pe_int (pa_cons pe_int (pa_cons pe_non pa_nil)))) (pa_cons (pe_disp (pps_cons pe_int pe_int pps_nil) rfl rfl (by exact fun z => nomatch z) (by decide)) pa_nil)))))))))))))))))))) (pg_name (i := 2) S__law_right.nd rfl (Or.inl rfl))
      (pss_one (ps_if (pt_not (pt_val (pe_u C__law_lines_right hG hr (by decide) (by rfl) pass0 (pa_cons (pv 2) (pa_cons (pv 1) pa_nil)))))
      (pss_one (ps_ret pe_bl))
      pss_nil)))
    (pss_cons (ps_for PassesOwn.never rfl (pi_list (pe_lst (pa_cons pe_non (pa_cons pe_bl (pa_cons pe_bl (pa_cons pe_str (pa_cons (pe_lst (pa_cons pe_int pa_nil)) (pa_cons (pe_tup pa_nil) (pa_cons pe_dnewK (pa_cons (pe_lst (pa_cons (pe_lst (pa_cons pe_int pa_nil)) pa_nil)) pa_nil)))))))))) (pg_name (i := 2) S__law_right.nd rfl (Or.inl rfl))
      (pss_one (ps_if (pt_not (pt_val (pe_u C__law_numbers_right hG hr (by decide) (by rfl) pass0 (pa_cons (pv 2) (pa_cons (pv 1) pa_nil)))))
      (pss_one (ps_ret pe_bl))
      pss_nil)))
    (pss_one (ps_ret (pe_u C__law_behind_right hG hr (by decide) (by rfl) pass0 (pa_cons (pv 0) (pa_cons (pv 1) pa_nil)))))))), ?_⟩
  have sz : ∀ {n : Nat}, n ≤ 1000 → n ≤ sizeLine := fun h => Nat.le_of_lt (small1000 h)
  refine ⟨_, rfl, a, 9, rfl, hp, by decide, by decide, fun H1 d c1 p1 d0 d1 => ⟨_, _, rfl, rfl, ?_⟩⟩
  refine ⟨_, rfl, a, 5, rfl, p1, by decide, by decide, fun H2 e c2 p2 e0 e1 => ⟨_, _, rfl, rfl, sz (by decide : 2 ≤ 1000), fun l nl => ?_⟩⟩
  have t1 : LamX.Tabs TT H1 := by
    obtain ⟨x1, x2, ex, z⟩ := hp
    exact tabs_chg1 tt c1 ex
  have t2 : LamX.Tabs TT H2 := by
    obtain ⟨x1, x2, ex, z⟩ := p1
    exact tabs_chg1 t1 c2 ex
  have la : l ≠ a := p2.ne nl
  obtain ⟨dn, rfl⟩ : ∃ n : Nat, d = (n : Int) := ⟨d.toNat, by omega⟩
  obtain ⟨en, rfl⟩ : ∃ n : Nat, e = (n : Int) := ⟨e.toNat, by omega⟩
  generalize hg : upd H2 l _ = H3
  have el : H3 l = some (.lst [V.int ((dn : Int) - 4), V.int (1 + (en : Int))]) := by rw [← hg]; exact upd_same
  have s3 : Same H2 H3 := by rw [← hg]; exact Same.put nl
  clear hg
  have t3 : LamX.Tabs TT H3 := t2.ext s3
  have p3 : PotAt H3 a := Same.pot s3 p2
  have hl : Ln false H3 l [(dn : Int) - 4, 1 + (en : Int)] := ln_by el (line_ok ⟨dn, by omega⟩ ⟨en, by omega⟩)
  have lnE : ∀ {G : Hp}, LamX.ExtN H3 G → Ln false (noT G) l [(dn : Int) - 4, 1 + (en : Int)] := fun {G} x => ⟨noT_is (x _ _ hl.at_ lst_no) lst_no, hl.cn, hl.len, hl.bd⟩
  refine for_valsS (R := OddL K) (fun G σ' H' => ∃ y, σ' = [some (.ref a), some (.ref l), y] ∧ LamX.ExtN G H' ∧ LamX.Tabs TT H') odds_L (by decide) cl_oddL (fun G σ' H' z => z.elim fun _ z => z.2.1) (fun G s => ⟨none, rfl, LamX.ExtN.refl _, t3.ext s⟩) ?_ ?_
  · rintro G v σ' H' s hv ⟨y, rfl, ex, tt2⟩
    obtain ⟨t, hok, hval, hsh⟩ := oddL_ext ex hv
    exact ⟨_, rfl, _, rfl, v, .ref l, t, rfl, hok, hval, hsh, (lnE ((ext_of s).trans ex)).val, tt2, fun G3 x3 tt3 => ⟨true, rfl, iteF ⟨_, rfl, ex.trans x3, tt3⟩⟩⟩
  rintro G σ' H4 s4 ⟨y4, rfl, ex4, t4⟩
  have x4 : LamX.ExtN H3 H4 := (ext_of s4).trans ex4
  refine for_valsS (R := OddN K) (fun G σ' H' => ∃ y, σ' = [some (.ref a), some (.ref l), y] ∧ LamX.ExtN G H' ∧ LamX.Tabs TT H') odds_N (by decide) cl_oddN (fun G σ' H' z => z.elim fun _ z => z.2.1) (fun G s => ⟨y4, rfl, LamX.ExtN.refl _, t4.ext s⟩) ?_ ?_
  · rintro G v σ' H' s hv ⟨y, rfl, ex, tt2⟩
    obtain ⟨t, hok, hval, hsh⟩ := oddN_ext ex hv
    exact ⟨_, rfl, _, rfl, v, .ref l, t, rfl, hok, hval, hsh, (lnE (x4.trans ((ext_of s).trans ex))).val, tt2, fun G3 x3 tt3 => ⟨true, rfl, iteF ⟨_, rfl, ex.trans x3, tt3⟩⟩⟩
  rintro G σ' H5 s5 ⟨y5, rfl, ex5, t5⟩
  have x5 : LamX.ExtN H3 H5 := x4.trans ((ext_of s5).trans ex5)
  refine ⟨_, rfl, _, rfl, a, l, _, _, rfl, ?_, la, ⟨x5 _ _ hl.at_ lst_no, hl.cn, hl.len, hl.bd⟩, t5, q⟩
  obtain ⟨w1, w2, ew, z⟩ := p3
  exact ⟨w1, w2, x5 _ _ ew lst_no, z⟩
theorem fn_law {P : Program} {w : World} {K : PySem.W.Frag}
    {mg : Str → Option Value} {base : Heap} (T : Top K mg) {CL CN CZ CT : Addr} (X : Exc K mg CL CN CZ CT) {TT : List (Addr × Str)}
    (C__law_pot : Cl P w K mg base CX0 1 "_law_pot" s__law_pot ["_law_script", "_law_k"] (spPot K))
    (C__law_right : Cl P w K mg base CX0 11 "_law_right" s__law_right ["_law_pot_here"] (spRightT TT))
    {f : Addr} {fd : FuncData} (F : Fun K "law" "law" s_law f fd) :
    FnG P w K mg base CX0 12 f fd ["_law_script"] (spLawT K TT) := by
  refine body_0 F S_law (fun vs H Q E h => by obtain ⟨_, _, rfl, _⟩ := h; rfl) ?_
  intro cdv A out s H vs Q E hG hr h
  obtain ⟨a, ns, rfl, hS, hl, tt, q⟩ := h
  refine ⟨_, (pss_one (ps_ret (pe_u C__law_right hG hr (by decide) (by rfl) pass0 (pa_cons (pe_u C__law_pot hG hr (by decide) (by rfl) pass0 (pa_cons (pv 0) (pa_cons pe_int pa_nil))) pa_nil)))), ?_⟩
  exact ⟨_, rfl, a, ns, 0, rfl, hS, by decide, by decide, fun H1 p s np pp => ⟨p, rfl, pp, tt.ext s, q⟩⟩
/-- what the head leaves, told -/
theorem top_mk {K : PySem.W.Frag} {h : Heap} {mg : Str → Option Value} (X : K.In h) (G : h.Ns mainGlobals mg)
    {f__law_pot : Addr} {od__law_pot an__law_pot : Option Addr} {sl__law_pot : Array (Option Value)} {oc__law_pot kV__law_pot dc__law_pot pm__law_pot cd__law_pot ct__law_pot : Value}
    {f__law_draw : Addr} {od__law_draw an__law_draw : Option Addr} {sl__law_draw : Array (Option Value)} {oc__law_draw kV__law_draw dc__law_draw pm__law_draw cd__law_draw ct__law_draw : Value}
    {f_is_integer : Addr} {od_is_integer an_is_integer : Option Addr} {sl_is_integer : Array (Option Value)} {oc_is_integer kV_is_integer dc_is_integer pm_is_integer cd_is_integer ct_is_integer : Value}
    {f_is_list : Addr} {od_is_list an_is_list : Option Addr} {sl_is_list : Array (Option Value)} {oc_is_list kV_is_list dc_is_list pm_is_list cd_is_list ct_is_list : Value}
    {f_is_line : Addr} {od_is_line an_is_line : Option Addr} {sl_is_line : Array (Option Value)} {oc_is_line kV_is_line dc_is_line pm_is_line cd_is_line ct_is_line : Value}
    {f_poly_times : Addr} {od_poly_times an_poly_times : Option Addr} {sl_poly_times : Array (Option Value)} {oc_poly_times kV_poly_times dc_poly_times pm_poly_times cd_poly_times ct_poly_times : Value}
    {f_check_line : Addr} {od_check_line an_check_line : Option Addr} {sl_check_line : Array (Option Value)} {oc_check_line kV_check_line dc_check_line pm_check_line cd_check_line ct_check_line : Value}
    {f_check_lines : Addr} {od_check_lines an_check_lines : Option Addr} {sl_check_lines : Array (Option Value)} {oc_check_lines kV_check_lines dc_check_lines pm_check_lines cd_check_lines ct_check_lines : Value}
    {f_check_number : Addr} {od_check_number an_check_number : Option Addr} {sl_check_number : Array (Option Value)} {oc_check_number kV_check_number dc_check_number pm_check_number cd_check_number ct_check_number : Value}
    {f__check_not_nought : Addr} {od__check_not_nought an__check_not_nought : Option Addr} {sl__check_not_nought : Array (Option Value)} {oc__check_not_nought kV__check_not_nought dc__check_not_nought pm__check_not_nought cd__check_not_nought ct__check_not_nought : Value}
    {f_degree : Addr} {od_degree an_degree : Option Addr} {sl_degree : Array (Option Value)} {oc_degree kV_degree dc_degree pm_degree cd_degree ct_degree : Value}
    {f_line_slope : Addr} {od_line_slope an_line_slope : Option Addr} {sl_line_slope : Array (Option Value)} {oc_line_slope kV_line_slope dc_line_slope pm_line_slope cd_line_slope ct_line_slope : Value}
    {f_plain_line : Addr} {od_plain_line an_plain_line : Option Addr} {sl_plain_line : Array (Option Value)} {oc_plain_line kV_plain_line dc_plain_line pm_plain_line cd_plain_line ct_plain_line : Value}
    {f_line_sum : Addr} {od_line_sum an_line_sum : Option Addr} {sl_line_sum : Array (Option Value)} {oc_line_sum kV_line_sum dc_line_sum pm_line_sum cd_line_sum ct_line_sum : Value}
    {f_line_less : Addr} {od_line_less an_line_less : Option Addr} {sl_line_less : Array (Option Value)} {oc_line_less kV_line_less dc_line_less pm_line_less cd_line_less ct_line_less : Value}
    {f_line_common : Addr} {od_line_common an_line_common : Option Addr} {sl_line_common : Array (Option Value)} {oc_line_common kV_line_common dc_line_common pm_line_common cd_line_common ct_line_common : Value}
    {f_line_value : Addr} {od_line_value an_line_value : Option Addr} {sl_line_value : Array (Option Value)} {oc_line_value kV_line_value dc_line_value pm_line_value cd_line_value ct_line_value : Value}
    {f_greatest : Addr} {od_greatest an_greatest : Option Addr} {sl_greatest : Array (Option Value)} {oc_greatest kV_greatest dc_greatest pm_greatest cd_greatest ct_greatest : Value}
    {f_plain_parts : Addr} {od_plain_parts an_plain_parts : Option Addr} {sl_plain_parts : Array (Option Value)} {oc_plain_parts kV_plain_parts dc_plain_parts pm_plain_parts cd_plain_parts ct_plain_parts : Value}
    {f_whole_roots : Addr} {od_whole_roots an_whole_roots : Option Addr} {sl_whole_roots : Array (Option Value)} {oc_whole_roots kV_whole_roots dc_whole_roots pm_whole_roots cd_whole_roots ct_whole_roots : Value}
    {f_monic_parts : Addr} {od_monic_parts an_monic_parts : Option Addr} {sl_monic_parts : Array (Option Value)} {oc_monic_parts kV_monic_parts dc_monic_parts pm_monic_parts cd_monic_parts ct_monic_parts : Value}
    {f_line_times : Addr} {od_line_times an_line_times : Option Addr} {sl_line_times : Array (Option Value)} {oc_line_times kV_line_times dc_line_times pm_line_times cd_line_times ct_line_times : Value}
    {f_poly_divided : Addr} {od_poly_divided an_poly_divided : Option Addr} {sl_poly_divided : Array (Option Value)} {oc_poly_divided kV_poly_divided dc_poly_divided pm_poly_divided cd_poly_divided ct_poly_divided : Value}
    {f_sylvester : Addr} {od_sylvester an_sylvester : Option Addr} {sl_sylvester : Array (Option Value)} {oc_sylvester kV_sylvester dc_sylvester pm_sylvester cd_sylvester ct_sylvester : Value}
    {f_determinant : Addr} {od_determinant an_determinant : Option Addr} {sl_determinant : Array (Option Value)} {oc_determinant kV_determinant dc_determinant pm_determinant cd_determinant ct_determinant : Value}
    {f_line_divided : Addr} {od_line_divided an_line_divided : Option Addr} {sl_line_divided : Array (Option Value)} {oc_line_divided kV_line_divided dc_line_divided pm_line_divided cd_line_divided ct_line_divided : Value}
    {f_resultant : Addr} {od_resultant an_resultant : Option Addr} {sl_resultant : Array (Option Value)} {oc_resultant kV_resultant dc_resultant pm_resultant cd_resultant ct_resultant : Value}
    {f__law_heard : Addr} {od__law_heard an__law_heard : Option Addr} {sl__law_heard : Array (Option Value)} {oc__law_heard kV__law_heard dc__law_heard pm__law_heard cd__law_heard ct__law_heard : Value}
    {f__law_are : Addr} {od__law_are an__law_are : Option Addr} {sl__law_are : Array (Option Value)} {oc__law_are kV__law_are dc__law_are pm__law_are cd__law_are ct__law_are : Value}
    {f__law_right : Addr} {od__law_right an__law_right : Option Addr} {sl__law_right : Array (Option Value)} {oc__law_right kV__law_right dc__law_right pm__law_right cd__law_right ct__law_right : Value}
    {f_law : Addr} {od_law an_law : Option Addr} {sl_law : Array (Option Value)} {oc_law kV_law dc_law pm_law cd_law ct_law : Value}
    {t_LINE_DEGREE : Tok}
    {t_MONIC_DEGREE : Tok}
    (a__law_pot : PySem.W.nsIn K mainGlobals "_law_pot" = some (some (.ref f__law_pot)))
    (l__law_pot : K.lookup f__law_pot = some ⟨oc__law_pot, od__law_pot, .func (PySem.W.fnOf "_law_pot" "_law_pot" (defArgs s__law_pot) (defBody s__law_pot) (defScope s__law_pot) .none kV__law_pot dc__law_pot pm__law_pot an__law_pot cd__law_pot ct__law_pot), sl__law_pot⟩)
    (c__law_pot : PySem.W.codeIn K cd__law_pot "_law_pot" = true)
    (k__law_pot : PySem.W.keepIn K (.ref f__law_pot) = true)
    (a__law_draw : PySem.W.nsIn K mainGlobals "_law_draw" = some (some (.ref f__law_draw)))
    (l__law_draw : K.lookup f__law_draw = some ⟨oc__law_draw, od__law_draw, .func (PySem.W.fnOf "_law_draw" "_law_draw" (defArgs s__law_draw) (defBody s__law_draw) (defScope s__law_draw) .none kV__law_draw dc__law_draw pm__law_draw an__law_draw cd__law_draw ct__law_draw), sl__law_draw⟩)
    (c__law_draw : PySem.W.codeIn K cd__law_draw "_law_draw" = true)
    (k__law_draw : PySem.W.keepIn K (.ref f__law_draw) = true)
    (a_is_integer : PySem.W.nsIn K mainGlobals "is_integer" = some (some (.ref f_is_integer)))
    (l_is_integer : K.lookup f_is_integer = some ⟨oc_is_integer, od_is_integer, .func (PySem.W.fnOf "is_integer" "is_integer" (defArgs s_is_integer) (defBody s_is_integer) (defScope s_is_integer) .none kV_is_integer dc_is_integer pm_is_integer an_is_integer cd_is_integer ct_is_integer), sl_is_integer⟩)
    (c_is_integer : PySem.W.codeIn K cd_is_integer "is_integer" = true)
    (k_is_integer : PySem.W.keepIn K (.ref f_is_integer) = true)
    (a_is_list : PySem.W.nsIn K mainGlobals "is_list" = some (some (.ref f_is_list)))
    (l_is_list : K.lookup f_is_list = some ⟨oc_is_list, od_is_list, .func (PySem.W.fnOf "is_list" "is_list" (defArgs s_is_list) (defBody s_is_list) (defScope s_is_list) .none kV_is_list dc_is_list pm_is_list an_is_list cd_is_list ct_is_list), sl_is_list⟩)
    (c_is_list : PySem.W.codeIn K cd_is_list "is_list" = true)
    (k_is_list : PySem.W.keepIn K (.ref f_is_list) = true)
    (a_is_line : PySem.W.nsIn K mainGlobals "is_line" = some (some (.ref f_is_line)))
    (l_is_line : K.lookup f_is_line = some ⟨oc_is_line, od_is_line, .func (PySem.W.fnOf "is_line" "is_line" (defArgs s_is_line) (defBody s_is_line) (defScope s_is_line) .none kV_is_line dc_is_line pm_is_line an_is_line cd_is_line ct_is_line), sl_is_line⟩)
    (c_is_line : PySem.W.codeIn K cd_is_line "is_line" = true)
    (k_is_line : PySem.W.keepIn K (.ref f_is_line) = true)
    (a_poly_times : PySem.W.nsIn K mainGlobals "poly_times" = some (some (.ref f_poly_times)))
    (l_poly_times : K.lookup f_poly_times = some ⟨oc_poly_times, od_poly_times, .func (PySem.W.fnOf "poly_times" "poly_times" (defArgs s_poly_times) (defBody s_poly_times) (defScope s_poly_times) .none kV_poly_times dc_poly_times pm_poly_times an_poly_times cd_poly_times ct_poly_times), sl_poly_times⟩)
    (c_poly_times : PySem.W.codeIn K cd_poly_times "poly_times" = true)
    (k_poly_times : PySem.W.keepIn K (.ref f_poly_times) = true)
    (a_check_line : PySem.W.nsIn K mainGlobals "check_line" = some (some (.ref f_check_line)))
    (l_check_line : K.lookup f_check_line = some ⟨oc_check_line, od_check_line, .func (PySem.W.fnOf "check_line" "check_line" (defArgs s_check_line) (defBody s_check_line) (defScope s_check_line) .none kV_check_line dc_check_line pm_check_line an_check_line cd_check_line ct_check_line), sl_check_line⟩)
    (c_check_line : PySem.W.codeIn K cd_check_line "check_line" = true)
    (k_check_line : PySem.W.keepIn K (.ref f_check_line) = true)
    (a_check_lines : PySem.W.nsIn K mainGlobals "check_lines" = some (some (.ref f_check_lines)))
    (l_check_lines : K.lookup f_check_lines = some ⟨oc_check_lines, od_check_lines, .func (PySem.W.fnOf "check_lines" "check_lines" (defArgs s_check_lines) (defBody s_check_lines) (defScope s_check_lines) .none kV_check_lines dc_check_lines pm_check_lines an_check_lines cd_check_lines ct_check_lines), sl_check_lines⟩)
    (c_check_lines : PySem.W.codeIn K cd_check_lines "check_lines" = true)
    (k_check_lines : PySem.W.keepIn K (.ref f_check_lines) = true)
    (a_check_number : PySem.W.nsIn K mainGlobals "check_number" = some (some (.ref f_check_number)))
    (l_check_number : K.lookup f_check_number = some ⟨oc_check_number, od_check_number, .func (PySem.W.fnOf "check_number" "check_number" (defArgs s_check_number) (defBody s_check_number) (defScope s_check_number) .none kV_check_number dc_check_number pm_check_number an_check_number cd_check_number ct_check_number), sl_check_number⟩)
    (c_check_number : PySem.W.codeIn K cd_check_number "check_number" = true)
    (k_check_number : PySem.W.keepIn K (.ref f_check_number) = true)
    (a__check_not_nought : PySem.W.nsIn K mainGlobals "_check_not_nought" = some (some (.ref f__check_not_nought)))
    (l__check_not_nought : K.lookup f__check_not_nought = some ⟨oc__check_not_nought, od__check_not_nought, .func (PySem.W.fnOf "_check_not_nought" "_check_not_nought" (defArgs s__check_not_nought) (defBody s__check_not_nought) (defScope s__check_not_nought) .none kV__check_not_nought dc__check_not_nought pm__check_not_nought an__check_not_nought cd__check_not_nought ct__check_not_nought), sl__check_not_nought⟩)
    (c__check_not_nought : PySem.W.codeIn K cd__check_not_nought "_check_not_nought" = true)
    (k__check_not_nought : PySem.W.keepIn K (.ref f__check_not_nought) = true)
    (a_degree : PySem.W.nsIn K mainGlobals "degree" = some (some (.ref f_degree)))
    (l_degree : K.lookup f_degree = some ⟨oc_degree, od_degree, .func (PySem.W.fnOf "degree" "degree" (defArgs s_degree) (defBody s_degree) (defScope s_degree) .none kV_degree dc_degree pm_degree an_degree cd_degree ct_degree), sl_degree⟩)
    (c_degree : PySem.W.codeIn K cd_degree "degree" = true)
    (k_degree : PySem.W.keepIn K (.ref f_degree) = true)
    (a_line_slope : PySem.W.nsIn K mainGlobals "line_slope" = some (some (.ref f_line_slope)))
    (l_line_slope : K.lookup f_line_slope = some ⟨oc_line_slope, od_line_slope, .func (PySem.W.fnOf "line_slope" "line_slope" (defArgs s_line_slope) (defBody s_line_slope) (defScope s_line_slope) .none kV_line_slope dc_line_slope pm_line_slope an_line_slope cd_line_slope ct_line_slope), sl_line_slope⟩)
    (c_line_slope : PySem.W.codeIn K cd_line_slope "line_slope" = true)
    (k_line_slope : PySem.W.keepIn K (.ref f_line_slope) = true)
    (a_plain_line : PySem.W.nsIn K mainGlobals "plain_line" = some (some (.ref f_plain_line)))
    (l_plain_line : K.lookup f_plain_line = some ⟨oc_plain_line, od_plain_line, .func (PySem.W.fnOf "plain_line" "plain_line" (defArgs s_plain_line) (defBody s_plain_line) (defScope s_plain_line) .none kV_plain_line dc_plain_line pm_plain_line an_plain_line cd_plain_line ct_plain_line), sl_plain_line⟩)
    (c_plain_line : PySem.W.codeIn K cd_plain_line "plain_line" = true)
    (k_plain_line : PySem.W.keepIn K (.ref f_plain_line) = true)
    (a_line_sum : PySem.W.nsIn K mainGlobals "line_sum" = some (some (.ref f_line_sum)))
    (l_line_sum : K.lookup f_line_sum = some ⟨oc_line_sum, od_line_sum, .func (PySem.W.fnOf "line_sum" "line_sum" (defArgs s_line_sum) (defBody s_line_sum) (defScope s_line_sum) .none kV_line_sum dc_line_sum pm_line_sum an_line_sum cd_line_sum ct_line_sum), sl_line_sum⟩)
    (c_line_sum : PySem.W.codeIn K cd_line_sum "line_sum" = true)
    (k_line_sum : PySem.W.keepIn K (.ref f_line_sum) = true)
    (a_line_less : PySem.W.nsIn K mainGlobals "line_less" = some (some (.ref f_line_less)))
    (l_line_less : K.lookup f_line_less = some ⟨oc_line_less, od_line_less, .func (PySem.W.fnOf "line_less" "line_less" (defArgs s_line_less) (defBody s_line_less) (defScope s_line_less) .none kV_line_less dc_line_less pm_line_less an_line_less cd_line_less ct_line_less), sl_line_less⟩)
    (c_line_less : PySem.W.codeIn K cd_line_less "line_less" = true)
    (k_line_less : PySem.W.keepIn K (.ref f_line_less) = true)
    (a_line_common : PySem.W.nsIn K mainGlobals "line_common" = some (some (.ref f_line_common)))
    (l_line_common : K.lookup f_line_common = some ⟨oc_line_common, od_line_common, .func (PySem.W.fnOf "line_common" "line_common" (defArgs s_line_common) (defBody s_line_common) (defScope s_line_common) .none kV_line_common dc_line_common pm_line_common an_line_common cd_line_common ct_line_common), sl_line_common⟩)
    (c_line_common : PySem.W.codeIn K cd_line_common "line_common" = true)
    (k_line_common : PySem.W.keepIn K (.ref f_line_common) = true)
    (a_line_value : PySem.W.nsIn K mainGlobals "line_value" = some (some (.ref f_line_value)))
    (l_line_value : K.lookup f_line_value = some ⟨oc_line_value, od_line_value, .func (PySem.W.fnOf "line_value" "line_value" (defArgs s_line_value) (defBody s_line_value) (defScope s_line_value) .none kV_line_value dc_line_value pm_line_value an_line_value cd_line_value ct_line_value), sl_line_value⟩)
    (c_line_value : PySem.W.codeIn K cd_line_value "line_value" = true)
    (k_line_value : PySem.W.keepIn K (.ref f_line_value) = true)
    (a_greatest : PySem.W.nsIn K mainGlobals "greatest" = some (some (.ref f_greatest)))
    (l_greatest : K.lookup f_greatest = some ⟨oc_greatest, od_greatest, .func (PySem.W.fnOf "greatest" "greatest" (defArgs s_greatest) (defBody s_greatest) (defScope s_greatest) .none kV_greatest dc_greatest pm_greatest an_greatest cd_greatest ct_greatest), sl_greatest⟩)
    (c_greatest : PySem.W.codeIn K cd_greatest "greatest" = true)
    (k_greatest : PySem.W.keepIn K (.ref f_greatest) = true)
    (a_plain_parts : PySem.W.nsIn K mainGlobals "plain_parts" = some (some (.ref f_plain_parts)))
    (l_plain_parts : K.lookup f_plain_parts = some ⟨oc_plain_parts, od_plain_parts, .func (PySem.W.fnOf "plain_parts" "plain_parts" (defArgs s_plain_parts) (defBody s_plain_parts) (defScope s_plain_parts) .none kV_plain_parts dc_plain_parts pm_plain_parts an_plain_parts cd_plain_parts ct_plain_parts), sl_plain_parts⟩)
    (c_plain_parts : PySem.W.codeIn K cd_plain_parts "plain_parts" = true)
    (k_plain_parts : PySem.W.keepIn K (.ref f_plain_parts) = true)
    (a_whole_roots : PySem.W.nsIn K mainGlobals "whole_roots" = some (some (.ref f_whole_roots)))
    (l_whole_roots : K.lookup f_whole_roots = some ⟨oc_whole_roots, od_whole_roots, .func (PySem.W.fnOf "whole_roots" "whole_roots" (defArgs s_whole_roots) (defBody s_whole_roots) (defScope s_whole_roots) .none kV_whole_roots dc_whole_roots pm_whole_roots an_whole_roots cd_whole_roots ct_whole_roots), sl_whole_roots⟩)
    (c_whole_roots : PySem.W.codeIn K cd_whole_roots "whole_roots" = true)
    (k_whole_roots : PySem.W.keepIn K (.ref f_whole_roots) = true)
    (a_monic_parts : PySem.W.nsIn K mainGlobals "monic_parts" = some (some (.ref f_monic_parts)))
    (l_monic_parts : K.lookup f_monic_parts = some ⟨oc_monic_parts, od_monic_parts, .func (PySem.W.fnOf "monic_parts" "monic_parts" (defArgs s_monic_parts) (defBody s_monic_parts) (defScope s_monic_parts) .none kV_monic_parts dc_monic_parts pm_monic_parts an_monic_parts cd_monic_parts ct_monic_parts), sl_monic_parts⟩)
    (c_monic_parts : PySem.W.codeIn K cd_monic_parts "monic_parts" = true)
    (k_monic_parts : PySem.W.keepIn K (.ref f_monic_parts) = true)
    (a_line_times : PySem.W.nsIn K mainGlobals "line_times" = some (some (.ref f_line_times)))
    (l_line_times : K.lookup f_line_times = some ⟨oc_line_times, od_line_times, .func (PySem.W.fnOf "line_times" "line_times" (defArgs s_line_times) (defBody s_line_times) (defScope s_line_times) .none kV_line_times dc_line_times pm_line_times an_line_times cd_line_times ct_line_times), sl_line_times⟩)
    (c_line_times : PySem.W.codeIn K cd_line_times "line_times" = true)
    (k_line_times : PySem.W.keepIn K (.ref f_line_times) = true)
    (a_poly_divided : PySem.W.nsIn K mainGlobals "poly_divided" = some (some (.ref f_poly_divided)))
    (l_poly_divided : K.lookup f_poly_divided = some ⟨oc_poly_divided, od_poly_divided, .func (PySem.W.fnOf "poly_divided" "poly_divided" (defArgs s_poly_divided) (defBody s_poly_divided) (defScope s_poly_divided) .none kV_poly_divided dc_poly_divided pm_poly_divided an_poly_divided cd_poly_divided ct_poly_divided), sl_poly_divided⟩)
    (c_poly_divided : PySem.W.codeIn K cd_poly_divided "poly_divided" = true)
    (k_poly_divided : PySem.W.keepIn K (.ref f_poly_divided) = true)
    (a_sylvester : PySem.W.nsIn K mainGlobals "sylvester" = some (some (.ref f_sylvester)))
    (l_sylvester : K.lookup f_sylvester = some ⟨oc_sylvester, od_sylvester, .func (PySem.W.fnOf "sylvester" "sylvester" (defArgs s_sylvester) (defBody s_sylvester) (defScope s_sylvester) .none kV_sylvester dc_sylvester pm_sylvester an_sylvester cd_sylvester ct_sylvester), sl_sylvester⟩)
    (c_sylvester : PySem.W.codeIn K cd_sylvester "sylvester" = true)
    (k_sylvester : PySem.W.keepIn K (.ref f_sylvester) = true)
    (a_determinant : PySem.W.nsIn K mainGlobals "determinant" = some (some (.ref f_determinant)))
    (l_determinant : K.lookup f_determinant = some ⟨oc_determinant, od_determinant, .func (PySem.W.fnOf "determinant" "determinant" (defArgs s_determinant) (defBody s_determinant) (defScope s_determinant) .none kV_determinant dc_determinant pm_determinant an_determinant cd_determinant ct_determinant), sl_determinant⟩)
    (c_determinant : PySem.W.codeIn K cd_determinant "determinant" = true)
    (k_determinant : PySem.W.keepIn K (.ref f_determinant) = true)
    (a_line_divided : PySem.W.nsIn K mainGlobals "line_divided" = some (some (.ref f_line_divided)))
    (l_line_divided : K.lookup f_line_divided = some ⟨oc_line_divided, od_line_divided, .func (PySem.W.fnOf "line_divided" "line_divided" (defArgs s_line_divided) (defBody s_line_divided) (defScope s_line_divided) .none kV_line_divided dc_line_divided pm_line_divided an_line_divided cd_line_divided ct_line_divided), sl_line_divided⟩)
    (c_line_divided : PySem.W.codeIn K cd_line_divided "line_divided" = true)
    (k_line_divided : PySem.W.keepIn K (.ref f_line_divided) = true)
    (a_resultant : PySem.W.nsIn K mainGlobals "resultant" = some (some (.ref f_resultant)))
    (l_resultant : K.lookup f_resultant = some ⟨oc_resultant, od_resultant, .func (PySem.W.fnOf "resultant" "resultant" (defArgs s_resultant) (defBody s_resultant) (defScope s_resultant) .none kV_resultant dc_resultant pm_resultant an_resultant cd_resultant ct_resultant), sl_resultant⟩)
    (c_resultant : PySem.W.codeIn K cd_resultant "resultant" = true)
    (k_resultant : PySem.W.keepIn K (.ref f_resultant) = true)
    (a__law_heard : PySem.W.nsIn K mainGlobals "_law_heard" = some (some (.ref f__law_heard)))
    (l__law_heard : K.lookup f__law_heard = some ⟨oc__law_heard, od__law_heard, .func (PySem.W.fnOf "_law_heard" "_law_heard" (defArgs s__law_heard) (defBody s__law_heard) (defScope s__law_heard) .none kV__law_heard dc__law_heard pm__law_heard an__law_heard cd__law_heard ct__law_heard), sl__law_heard⟩)
    (c__law_heard : PySem.W.codeIn K cd__law_heard "_law_heard" = true)
    (k__law_heard : PySem.W.keepIn K (.ref f__law_heard) = true)
    (a__law_are : PySem.W.nsIn K mainGlobals "_law_are" = some (some (.ref f__law_are)))
    (l__law_are : K.lookup f__law_are = some ⟨oc__law_are, od__law_are, .func (PySem.W.fnOf "_law_are" "_law_are" (defArgs s__law_are) (defBody s__law_are) (defScope s__law_are) .none kV__law_are dc__law_are pm__law_are an__law_are cd__law_are ct__law_are), sl__law_are⟩)
    (c__law_are : PySem.W.codeIn K cd__law_are "_law_are" = true)
    (k__law_are : PySem.W.keepIn K (.ref f__law_are) = true)
    (a__law_right : PySem.W.nsIn K mainGlobals "_law_right" = some (some (.ref f__law_right)))
    (l__law_right : K.lookup f__law_right = some ⟨oc__law_right, od__law_right, .func (PySem.W.fnOf "_law_right" "_law_right" (defArgs s__law_right) (defBody s__law_right) (defScope s__law_right) .none kV__law_right dc__law_right pm__law_right an__law_right cd__law_right ct__law_right), sl__law_right⟩)
    (c__law_right : PySem.W.codeIn K cd__law_right "_law_right" = true)
    (k__law_right : PySem.W.keepIn K (.ref f__law_right) = true)
    (a_law : PySem.W.nsIn K mainGlobals "law" = some (some (.ref f_law)))
    (l_law : K.lookup f_law = some ⟨oc_law, od_law, .func (PySem.W.fnOf "law" "law" (defArgs s_law) (defBody s_law) (defScope s_law) .none kV_law dc_law pm_law an_law cd_law ct_law), sl_law⟩)
    (c_law : PySem.W.codeIn K cd_law "law" = true)
    (k_law : PySem.W.keepIn K (.ref f_law) = true)
    (z_ValueError : PySem.W.nsIn K mainGlobals "ValueError" = some none)
    (z_abs : PySem.W.nsIn K mainGlobals "abs" = some none)
    (z_all : PySem.W.nsIn K mainGlobals "all" = some none)
    (z_bool : PySem.W.nsIn K mainGlobals "bool" = some none)
    (z_LINE_DEGREE : PySem.W.nsIn K mainGlobals "LINE_DEGREE" = some (some (.int 12 t_LINE_DEGREE)))
    (z_MONIC_DEGREE : PySem.W.nsIn K mainGlobals "MONIC_DEGREE" = some (some (.int 4 t_MONIC_DEGREE)))
    (z_divmod : PySem.W.nsIn K mainGlobals "divmod" = some none)
    (z_enumerate : PySem.W.nsIn K mainGlobals "enumerate" = some none)
    (z_int : PySem.W.nsIn K mainGlobals "int" = some none)
    (z_isinstance : PySem.W.nsIn K mainGlobals "isinstance" = some none)
    (z_len : PySem.W.nsIn K mainGlobals "len" = some none)
    (z_list : PySem.W.nsIn K mainGlobals "list" = some none)
    (z_gcd : PySem.W.nsIn K mainGlobals "gcd" = some (some (.builtin "math.gcd")))
    (z_max : PySem.W.nsIn K mainGlobals "max" = some none)
    (z_range : PySem.W.nsIn K mainGlobals "range" = some none)
    (z_repr : PySem.W.nsIn K mainGlobals "repr" = some none)
    (z_sorted : PySem.W.nsIn K mainGlobals "sorted" = some none)
    (z_tuple : PySem.W.nsIn K mainGlobals "tuple" = some none) :
    Top K mg where
  d__law_pot := ⟨_, _, fun_mk l__law_pot c__law_pot k__law_pot, PySem.W.mg_of X G a__law_pot, (fun_mk l__law_pot c__law_pot k__law_pot).binds (ps := ["_law_script", "_law_k"]) fun _ _ _ _ _ _ us hl => match us, hl with | [_, _], _ => rfl⟩
  d__law_draw := ⟨_, _, fun_mk l__law_draw c__law_draw k__law_draw, PySem.W.mg_of X G a__law_draw, (fun_mk l__law_draw c__law_draw k__law_draw).binds (ps := ["_law_pot_here", "_law_many"]) fun _ _ _ _ _ _ us hl => match us, hl with | [_, _], _ => rfl⟩
  d_is_integer := ⟨_, _, fun_mk l_is_integer c_is_integer k_is_integer, PySem.W.mg_of X G a_is_integer, (fun_mk l_is_integer c_is_integer k_is_integer).binds (ps := ["value"]) fun _ _ _ _ _ _ us hl => match us, hl with | [_], _ => rfl⟩
  d_is_list := ⟨_, _, fun_mk l_is_list c_is_list k_is_list, PySem.W.mg_of X G a_is_list, (fun_mk l_is_list c_is_list k_is_list).binds (ps := ["value"]) fun _ _ _ _ _ _ us hl => match us, hl with | [_], _ => rfl⟩
  d_is_line := ⟨_, _, fun_mk l_is_line c_is_line k_is_line, PySem.W.mg_of X G a_is_line, (fun_mk l_is_line c_is_line k_is_line).binds (ps := ["value"]) fun _ _ _ _ _ _ us hl => match us, hl with | [_], _ => rfl⟩
  d_poly_times := ⟨_, _, fun_mk l_poly_times c_poly_times k_poly_times, PySem.W.mg_of X G a_poly_times, (fun_mk l_poly_times c_poly_times k_poly_times).binds (ps := ["one", "two"]) fun _ _ _ _ _ _ us hl => match us, hl with | [_, _], _ => rfl⟩
  d_check_line := ⟨_, _, fun_mk l_check_line c_check_line k_check_line, PySem.W.mg_of X G a_check_line, (fun_mk l_check_line c_check_line k_check_line).binds (ps := ["line"]) fun _ _ _ _ _ _ us hl => match us, hl with | [_], _ => rfl⟩
  d_check_lines := ⟨_, _, fun_mk l_check_lines c_check_lines k_check_lines, PySem.W.mg_of X G a_check_lines, (fun_mk l_check_lines c_check_lines k_check_lines).binds (ps := ["line", "other"]) fun _ _ _ _ _ _ us hl => match us, hl with | [_, _], _ => rfl⟩
  d_check_number := ⟨_, _, fun_mk l_check_number c_check_number k_check_number, PySem.W.mg_of X G a_check_number, (fun_mk l_check_number c_check_number k_check_number).binds (ps := ["number"]) fun _ _ _ _ _ _ us hl => match us, hl with | [_], _ => rfl⟩
  d__check_not_nought := ⟨_, _, fun_mk l__check_not_nought c__check_not_nought k__check_not_nought, PySem.W.mg_of X G a__check_not_nought, (fun_mk l__check_not_nought c__check_not_nought k__check_not_nought).binds (ps := ["line"]) fun _ _ _ _ _ _ us hl => match us, hl with | [_], _ => rfl⟩
  d_degree := ⟨_, _, fun_mk l_degree c_degree k_degree, PySem.W.mg_of X G a_degree, (fun_mk l_degree c_degree k_degree).binds (ps := ["line"]) fun _ _ _ _ _ _ us hl => match us, hl with | [_], _ => rfl⟩
  d_line_slope := ⟨_, _, fun_mk l_line_slope c_line_slope k_line_slope, PySem.W.mg_of X G a_line_slope, (fun_mk l_line_slope c_line_slope k_line_slope).binds (ps := ["line"]) fun _ _ _ _ _ _ us hl => match us, hl with | [_], _ => rfl⟩
  d_plain_line := ⟨_, _, fun_mk l_plain_line c_plain_line k_plain_line, PySem.W.mg_of X G a_plain_line, (fun_mk l_plain_line c_plain_line k_plain_line).binds (ps := ["line"]) fun _ _ _ _ _ _ us hl => match us, hl with | [_], _ => rfl⟩
  d_line_sum := ⟨_, _, fun_mk l_line_sum c_line_sum k_line_sum, PySem.W.mg_of X G a_line_sum, (fun_mk l_line_sum c_line_sum k_line_sum).binds (ps := ["line", "other"]) fun _ _ _ _ _ _ us hl => match us, hl with | [_, _], _ => rfl⟩
  d_line_less := ⟨_, _, fun_mk l_line_less c_line_less k_line_less, PySem.W.mg_of X G a_line_less, (fun_mk l_line_less c_line_less k_line_less).binds (ps := ["line", "other"]) fun _ _ _ _ _ _ us hl => match us, hl with | [_, _], _ => rfl⟩
  d_line_common := ⟨_, _, fun_mk l_line_common c_line_common k_line_common, PySem.W.mg_of X G a_line_common, (fun_mk l_line_common c_line_common k_line_common).binds (ps := ["line", "other"]) fun _ _ _ _ _ _ us hl => match us, hl with | [_, _], _ => rfl⟩
  d_line_value := ⟨_, _, fun_mk l_line_value c_line_value k_line_value, PySem.W.mg_of X G a_line_value, (fun_mk l_line_value c_line_value k_line_value).binds (ps := ["line", "number"]) fun _ _ _ _ _ _ us hl => match us, hl with | [_, _], _ => rfl⟩
  d_greatest := ⟨_, _, fun_mk l_greatest c_greatest k_greatest, PySem.W.mg_of X G a_greatest, (fun_mk l_greatest c_greatest k_greatest).binds (ps := ["number", "other"]) fun _ _ _ _ _ _ us hl => match us, hl with | [_, _], _ => rfl⟩
  d_plain_parts := ⟨_, _, fun_mk l_plain_parts c_plain_parts k_plain_parts, PySem.W.mg_of X G a_plain_parts, (fun_mk l_plain_parts c_plain_parts k_plain_parts).binds (ps := ["line"]) fun _ _ _ _ _ _ us hl => match us, hl with | [_], _ => rfl⟩
  d_whole_roots := ⟨_, _, fun_mk l_whole_roots c_whole_roots k_whole_roots, PySem.W.mg_of X G a_whole_roots, (fun_mk l_whole_roots c_whole_roots k_whole_roots).binds (ps := ["line"]) fun _ _ _ _ _ _ us hl => match us, hl with | [_], _ => rfl⟩
  d_monic_parts := ⟨_, _, fun_mk l_monic_parts c_monic_parts k_monic_parts, PySem.W.mg_of X G a_monic_parts, (fun_mk l_monic_parts c_monic_parts k_monic_parts).binds (ps := ["line"]) fun _ _ _ _ _ _ us hl => match us, hl with | [_], _ => rfl⟩
  d_line_times := ⟨_, _, fun_mk l_line_times c_line_times k_line_times, PySem.W.mg_of X G a_line_times, (fun_mk l_line_times c_line_times k_line_times).binds (ps := ["line", "other"]) fun _ _ _ _ _ _ us hl => match us, hl with | [_, _], _ => rfl⟩
  d_poly_divided := ⟨_, _, fun_mk l_poly_divided c_poly_divided k_poly_divided, PySem.W.mg_of X G a_poly_divided, (fun_mk l_poly_divided c_poly_divided k_poly_divided).binds (ps := ["one", "two"]) fun _ _ _ _ _ _ us hl => match us, hl with | [_, _], _ => rfl⟩
  d_sylvester := ⟨_, _, fun_mk l_sylvester c_sylvester k_sylvester, PySem.W.mg_of X G a_sylvester, (fun_mk l_sylvester c_sylvester k_sylvester).binds (ps := ["one", "two", "nought"]) fun _ _ _ _ _ _ us hl => match us, hl with | [_, _, _], _ => rfl⟩
  d_determinant := ⟨_, _, fun_mk l_determinant c_determinant k_determinant, PySem.W.mg_of X G a_determinant, (fun_mk l_determinant c_determinant k_determinant).binds (ps := ["rows"]) fun _ _ _ _ _ _ us hl => match us, hl with | [_], _ => rfl⟩
  d_line_divided := ⟨_, _, fun_mk l_line_divided c_line_divided k_line_divided, PySem.W.mg_of X G a_line_divided, (fun_mk l_line_divided c_line_divided k_line_divided).binds (ps := ["line", "other"]) fun _ _ _ _ _ _ us hl => match us, hl with | [_, _], _ => rfl⟩
  d_resultant := ⟨_, _, fun_mk l_resultant c_resultant k_resultant, PySem.W.mg_of X G a_resultant, (fun_mk l_resultant c_resultant k_resultant).binds (ps := ["line", "other"]) fun _ _ _ _ _ _ us hl => match us, hl with | [_, _], _ => rfl⟩
  d__law_heard := ⟨_, _, fun_mk l__law_heard c__law_heard k__law_heard, PySem.W.mg_of X G a__law_heard, (fun_mk l__law_heard c__law_heard k__law_heard).binds (ps := ["_law_call"]) fun _ _ _ _ _ _ us hl => match us, hl with | [_], _ => rfl⟩
  d__law_are := ⟨_, _, fun_mk l__law_are c__law_are k__law_are, PySem.W.mg_of X G a__law_are, (fun_mk l__law_are c__law_are k__law_are).binds (ps := ["_law_calls", "_law_due"]) fun _ _ _ _ _ _ us hl => match us, hl with | [_, _], _ => rfl⟩
  d__law_right := ⟨_, _, fun_mk l__law_right c__law_right k__law_right, PySem.W.mg_of X G a__law_right, (fun_mk l__law_right c__law_right k__law_right).binds (ps := ["_law_pot_here"]) fun _ _ _ _ _ _ us hl => match us, hl with | [_], _ => rfl⟩
  d_law := ⟨_, _, fun_mk l_law c_law k_law, PySem.W.mg_of X G a_law, (fun_mk l_law c_law k_law).binds (ps := ["_law_script"]) fun _ _ _ _ _ _ us hl => match us, hl with | [_], _ => rfl⟩
  n_ValueError := PySem.W.mg_none_of X G z_ValueError
  n_abs := PySem.W.mg_none_of X G z_abs
  n_all := PySem.W.mg_none_of X G z_all
  n_bool := PySem.W.mg_none_of X G z_bool
  c_LINE_DEGREE := ⟨_, PySem.W.mg_of X G z_LINE_DEGREE⟩
  c_MONIC_DEGREE := ⟨_, PySem.W.mg_of X G z_MONIC_DEGREE⟩
  n_divmod := PySem.W.mg_none_of X G z_divmod
  n_enumerate := PySem.W.mg_none_of X G z_enumerate
  n_int := PySem.W.mg_none_of X G z_int
  n_isinstance := PySem.W.mg_none_of X G z_isinstance
  n_len := PySem.W.mg_none_of X G z_len
  n_list := PySem.W.mg_none_of X G z_list
  m_gcd := PySem.W.mg_of X G z_gcd
  n_max := PySem.W.mg_none_of X G z_max
  n_range := PySem.W.mg_none_of X G z_range
  n_repr := PySem.W.mg_none_of X G z_repr
  n_sorted := PySem.W.mg_none_of X G z_sorted
  n_tuple := PySem.W.mg_none_of X G z_tuple
section
open PySem.W
theorem exc_mk {K : PySem.W.Frag} {h : Heap} {mg : Str → Option Value} (X : K.In h) (G : h.Ns mainGlobals mg)
    {CL CN CZ CT CE CS CM : Addr}
    {cdL cdN cdZ cdT cdE cdS cdM : ClassData}
    {fIL : Addr} {oIL kIL dIL pIL aIL tIL : Value} {odIL anIL : Option Addr} {slIL : Array (Option Value)}
    {fIN : Addr} {oIN kIN dIN pIN aIN tIN : Value} {odIN anIN : Option Addr} {slIN : Array (Option Value)}
    {fIT : Addr} {oIT kIT dIT pIT aIT tIT : Value} {odIT anIT : Option Addr} {slIT : Array (Option Value)}
    (xaL : nsIn K mainGlobals "InvalidLine" = some (some (.ref CL)))
    (xaN : nsIn K mainGlobals "InvalidNumber" = some (some (.ref CN)))
    (xaZ : nsIn K mainGlobals "ZeroLine" = some (some (.ref CZ)))
    (xaT : nsIn K mainGlobals "TooMany" = some (some (.ref CT)))
    (xaE : nsIn K mainGlobals "CurveError" = some (some (.ref CE)))
    (xaS : nsIn K mainGlobals "StateError" = some (some (.ref CS)))
    (xaM : nsIn K mainGlobals "LimitError" = some (some (.ref CM)))
    (xnV : nsIn K mainGlobals "ValueError" = some none)
    (xcL : clsIn K CL = some cdL)
    (xtL : typeIn K (.ref CL) = some (.type "type"))
    (xcN : clsIn K CN = some cdN)
    (xtN : typeIn K (.ref CN) = some (.type "type"))
    (xcZ : clsIn K CZ = some cdZ)
    (xtZ : typeIn K (.ref CZ) = some (.type "type"))
    (xcT : clsIn K CT = some cdT)
    (xtT : typeIn K (.ref CT) = some (.type "type"))
    (xcE : clsIn K CE = some cdE)
    (xtE : typeIn K (.ref CE) = some (.type "type"))
    (xcS : clsIn K CS = some cdS)
    (xtS : typeIn K (.ref CS) = some (.type "type"))
    (xcM : clsIn K CM = some cdM)
    (xtM : typeIn K (.ref CM) = some (.type "type"))
    (xbL : subIn K (.ref CL) (.type "BaseException") = some true)
    (xkL : keepIn K (.ref CL) = true)
    (xgL : findIn K (.ref CL) "__getattribute__" = some (some (.builtin "BaseException.__getattribute__")))
    (xhL : findIn K (.ref CL) "__getattr__" = some none)
    (xoL : findIn K (.ref CL) "__class__" = some (some (.builtin "object.__class__")))
    (xmL : mroIn K CL (.type "object") = some true)
    (xbN : subIn K (.ref CN) (.type "BaseException") = some true)
    (xkN : keepIn K (.ref CN) = true)
    (xgN : findIn K (.ref CN) "__getattribute__" = some (some (.builtin "BaseException.__getattribute__")))
    (xhN : findIn K (.ref CN) "__getattr__" = some none)
    (xoN : findIn K (.ref CN) "__class__" = some (some (.builtin "object.__class__")))
    (xmN : mroIn K CN (.type "object") = some true)
    (xbZ : subIn K (.ref CZ) (.type "BaseException") = some true)
    (xkZ : keepIn K (.ref CZ) = true)
    (xgZ : findIn K (.ref CZ) "__getattribute__" = some (some (.builtin "BaseException.__getattribute__")))
    (xhZ : findIn K (.ref CZ) "__getattr__" = some none)
    (xoZ : findIn K (.ref CZ) "__class__" = some (some (.builtin "object.__class__")))
    (xmZ : mroIn K CZ (.type "object") = some true)
    (xbT : subIn K (.ref CT) (.type "BaseException") = some true)
    (xkT : keepIn K (.ref CT) = true)
    (xgT : findIn K (.ref CT) "__getattribute__" = some (some (.builtin "BaseException.__getattribute__")))
    (xhT : findIn K (.ref CT) "__getattr__" = some none)
    (xoT : findIn K (.ref CT) "__class__" = some (some (.builtin "object.__class__")))
    (xmT : mroIn K CT (.type "object") = some true)
    (xsp : specialIn K (.builtin "object.__class__") "__get__" = some (some (.builtin "getset_descriptor.__get__")))
    (xtk : takesIn K (.builtin "object.__class__") = some true)
    (xiL : excInitIn K CL tailV "ValueError.__new__" = true)
    (xvL : excOver K CL tailV = true)
    (xsL : findIn K (.ref CL) "__setattr__" = some (some (.builtin "object.__setattr__")))
    (xdL : hasDictIn K CL = true)
    (xqL_value : takerIn K CL "value" = some none)
    (xrL_value : findIn K (.ref CL) "value" = some none)
    (xfL : findIn K (.ref CL) "__init__" = some (some (.ref fIL)))
    (xlL : K.lookup fIL = some ⟨oIL, odIL, .func (PySem.W.fnOf "__init__" "InvalidLine.__init__" (defArgs i_L) (defBody i_L) (defScope i_L) .none kIL dIL pIL anIL aIL tIL), slIL⟩)
    (xeL : codeIn K aIL "InvalidLine.__init__" = true)
    (xjL : keepIn K (.ref fIL) = true)
    (xyL : typeIn K (.ref fIL) = some (.type "function"))
    (xiN : excInitIn K CN tailV "ValueError.__new__" = true)
    (xvN : excOver K CN tailV = true)
    (xsN : findIn K (.ref CN) "__setattr__" = some (some (.builtin "object.__setattr__")))
    (xdN : hasDictIn K CN = true)
    (xqN_value : takerIn K CN "value" = some none)
    (xrN_value : findIn K (.ref CN) "value" = some none)
    (xfN : findIn K (.ref CN) "__init__" = some (some (.ref fIN)))
    (xlN : K.lookup fIN = some ⟨oIN, odIN, .func (PySem.W.fnOf "__init__" "InvalidNumber.__init__" (defArgs i_N) (defBody i_N) (defScope i_N) .none kIN dIN pIN anIN aIN tIN), slIN⟩)
    (xeN : codeIn K aIN "InvalidNumber.__init__" = true)
    (xjN : keepIn K (.ref fIN) = true)
    (xyN : typeIn K (.ref fIN) = some (.type "function"))
    (xiT : excInitIn K CT [.type "ArithmeticError", .type "Exception", .type "BaseException", .type "object"] "ArithmeticError.__new__" = true)
    (xvT : excOver K CT [.type "ArithmeticError", .type "Exception", .type "BaseException", .type "object"] = true)
    (xsT : findIn K (.ref CT) "__setattr__" = some (some (.builtin "object.__setattr__")))
    (xdT : hasDictIn K CT = true)
    (xqT_what : takerIn K CT "what" = some none)
    (xrT_what : findIn K (.ref CT) "what" = some none)
    (xqT_limit : takerIn K CT "limit" = some none)
    (xrT_limit : findIn K (.ref CT) "limit" = some none)
    (xfT : findIn K (.ref CT) "__init__" = some (some (.ref fIT)))
    (xlT : K.lookup fIT = some ⟨oIT, odIT, .func (PySem.W.fnOf "__init__" "TooMany.__init__" (defArgs i_T) (defBody i_T) (defScope i_T) .none kIT dIT pIT anIT aIT tIT), slIT⟩)
    (xeT : codeIn K aIT "TooMany.__init__" = true)
    (xjT : keepIn K (.ref fIT) = true)
    (xyT : typeIn K (.ref fIT) = some (.type "function"))
    (xz : excIn K CZ [.type "RuntimeError", .type "Exception", .type "BaseException", .type "object"] "RuntimeError.__new__" = true)
    (xxLL : subIn K (.ref CL) (.ref CL) = some true)
    (xxNL : subIn K (.ref CN) (.ref CL) = some false)
    (xxNN : subIn K (.ref CN) (.ref CN) = some true)
    (xxZL : subIn K (.ref CZ) (.ref CL) = some false)
    (xxZN : subIn K (.ref CZ) (.ref CN) = some false)
    (xxZZ : subIn K (.ref CZ) (.ref CZ) = some true)
    (xxTL : subIn K (.ref CT) (.ref CL) = some false)
    (xxTN : subIn K (.ref CT) (.ref CN) = some false)
    (xxTZ : subIn K (.ref CT) (.ref CZ) = some false)
    (xxTT : subIn K (.ref CT) (.ref CT) = some true)
    (xxLE : subIn K (.ref CL) (.ref CE) = some true)
    (xxNE : subIn K (.ref CN) (.ref CE) = some true)
    (xxZS : subIn K (.ref CZ) (.ref CS) = some true)
    (xxTM : subIn K (.ref CT) (.ref CM) = some true)
    (xxLV : subIn K (.ref CL) (.type "ValueError") = some true) :
    Exc K mg CL CN CZ CT where
  vl := ⟨⟨PySem.F.excBase_ValueError, PySem.F.store_ValueError, xiL, xvL, xsL, xbL, xtL, xkL, xdL⟩, PySem.W.mg_of X G xaL, xqL_value, ⟨_, _, fun_mk xlL xeL xjL, (fun_mk (st := i_L) xlL xeL xjL).binds (ps := ["self", "value"]) fun _ _ _ _ _ _ us hl => match us, hl with | [_, _], _ => rfl, xfL, xyL⟩⟩
  vn := ⟨⟨PySem.F.excBase_ValueError, PySem.F.store_ValueError, xiN, xvN, xsN, xbN, xtN, xkN, xdN⟩, PySem.W.mg_of X G xaN, xqN_value, ⟨_, _, fun_mk xlN xeN xjN, (fun_mk (st := i_N) xlN xeN xjN).binds (ps := ["self", "value"]) fun _ _ _ _ _ _ us hl => match us, hl with | [_, _], _ => rfl, xfN, xyN⟩⟩
  zo := xz
  zm := PySem.W.mg_of X G xaZ
  zk := xkZ
  zs := xbZ
  zt := xtZ
  vt := ⟨⟨PySem.F.excBase_ArithmeticError, PySem.F.store_ArithmeticError, xiT, xvT, xsT, xbT, xtT, xkT, xdT⟩, PySem.W.mg_of X G xaT, xqT_what, xqT_limit, ⟨_, _, fun_mk xlT xeT xjT, (fun_mk (st := i_T) xlT xeT xjT).binds (ps := ["self", "what", "limit"]) fun _ _ _ _ _ _ us hl => match us, hl with | [_, _, _], _ => rfl, xfT, xyT⟩⟩
  xfL := ⟨xgL, xhL, xbL, xdL⟩
  xfN := ⟨xgN, xhN, xbN, xdN⟩
  xfT := ⟨xgT, xhT, xbT, xdT⟩
  vL := xrL_value
  vN := xrN_value
  vW := xrT_what
  vM := xrT_limit
  xqL := ⟨by rw [xcL]; rfl, xgL, xhL, xbL, xoL, xsp, xtk, xmL⟩
  xqN := ⟨by rw [xcN]; rfl, xgN, xhN, xbN, xoN, xsp, xtk, xmN⟩
  xqZ := ⟨by rw [xcZ]; rfl, xgZ, xhZ, xbZ, xoZ, xsp, xtk, xmZ⟩
  xqT := ⟨by rw [xcT]; rfl, xgT, xhT, xbT, xoT, xsp, xtk, xmT⟩
  eLL := exm_by xbL xcL xtL xxLL
  eNL := exm_by xbL xcL xtL xxNL
  eNN := exm_by xbN xcN xtN xxNN
  eZL := exm_by xbL xcL xtL xxZL
  eZN := exm_by xbN xcN xtN xxZN
  eZZ := exm_by xbZ xcZ xtZ xxZZ
  eTL := exm_by xbL xcL xtL xxTL
  eTN := exm_by xbN xcN xtN xxTN
  eTZ := exm_by xbZ xcZ xtZ xxTZ
  eTT := exm_by xbT xcT xtT xxTT
  cE := ⟨_, PySem.W.mg_of X G xaE, kit_by xcE xtE xxLE, kit_by xcE xtE xxNE⟩
  cV := kitV_by xxLV
  nV := PySem.W.mg_none_of X G xnV
  cS := ⟨_, PySem.W.mg_of X G xaS, kit_by xcS xtS xxZS⟩
  cM := ⟨_, PySem.W.mg_of X G xaM, kit_by xcM xtM xxTM⟩
end
theorem own3 {P1 P2 P3 : Addr} {q1 q2 q3 : Str} (n12 : P1 ≠ P2) (n13 : P1 ≠ P3) (n23 : P2 ≠ P3) : (∀ p ∈ [(P1, q1), (P2, q2), (P3, q3)], p.1 = P1 → p.2 = q1) ∧ (∀ p ∈ [(P1, q1), (P2, q2), (P3, q3)], p.1 = P2 → p.2 = q2) ∧ ∀ p ∈ [(P1, q1), (P2, q2), (P3, q3)], p.1 = P3 → p.2 = q3 := by
  refine ⟨fun p m e => ?_, fun p m e => ?_, fun p m e => ?_⟩ <;> simp only [List.mem_cons, List.not_mem_nil, or_false] at m <;> rcases m with rfl | rfl | rfl
  · rfl
  · exact absurd e n12.symm
  · exact absurd e n13.symm
  · exact absurd e n12
  · rfl
  · exact absurd e n23.symm
  · exact absurd e n13
  · exact absurd e n23
  · rfl
theorem law_mk10 {P : Program} {w : World} {K : PySem.W.Frag} {mg : Str → Option Value} {fa : Addr} {h : Heap} (T : Top K mg) {CL CN CZ CT : Addr} (X : Exc K mg CL CN CZ CT) {c1 c2 c3 P1 P2 P3 : Addr}
    (D1 : LamD K mg h "_law_lines_right" sLin ["_law_odd", "_law_line"] c1 P1) (D2 : LamD K mg h "_law_numbers_right" sNum ["_law_odd", "_law_line"] c2 P2) (D3 : LamD K mg h "_law_behind_right" sBeh ["_law_pot_here", "_law_line"] c3 P3)
    (n12 : P1 ≠ P2) (n13 : P1 ≠ P3) (n23 : P2 ≠ P3) (hfa : mg "law" = some (.ref fa)) :
    ∃ (fd : FuncData) (cs : List (Addr × Addr)) (sp : Sp), TabsAt K cs h ∧ (∀ (s : Shared) (u : Value), BindsTo s fd ⟨[u], []⟩ [("_law_script", u)]) ∧
      (∀ (H : Hp) (a : Addr) (ns : List Int), ns.length ≤ 63 → (∀ p ∈ cs, H p.2 = some (.tbl #[])) → SqL K H a (ns.map V.int) → sp [.ref a] H (fun v _ => v = .bl true) fun _ _ _ => False) ∧
      ∀ base : Heap, K.In base → base.Ns mainGlobals mg → (∀ p ∈ cs, LamX.TabB base mg p.1 p.2) → FnG P w K mg base CX0 12 fa fd ["_law_script"] sp := by
  obtain ⟨f, fd, F, g, b⟩ := T.d_law.ex
  cases hfa.symm.trans g
  refine ⟨fd, [(c1, P1), (c2, P2), (c3, P3)], spLawT K [(P1, qLin), (P2, qNum), (P3, qBeh)], ⟨?_, ?_, ?_⟩, fun s u => ?_, fun H a ns hl full hS => ⟨a, ns, rfl, hS, hl, ?_, fun _ => rfl⟩, fun base _ _ tb => ?_⟩
  · intro p m
    simp only [List.mem_cons, List.not_mem_nil, or_false] at m
    rcases m with rfl | rfl | rfl
    · exact D1.at_
    · exact D2.at_
    · exact D3.at_
  · intro p m
    simp only [List.mem_cons, List.not_mem_nil, or_false] at m
    rcases m with rfl | rfl | rfl
    · exact D1.off
    · exact D2.off
    · exact D3.off
  · intro p m
    simp only [List.mem_cons, List.not_mem_nil, or_false] at m
    rcases m with rfl | rfl | rfl
    · exact D1.hd
    · exact D2.hd
    · exact D3.hd
  · obtain ⟨oc, od, kV, doc, pm, an, cdv, ct, osl, rfl, _, _⟩ := F.ex
    exact .of_eq rfl
  · intro p m
    simp only [List.mem_cons, List.not_mem_nil, or_false] at m
    rcases m with rfl | rfl | rfl
    · exact LamX.TabS.nil (full _ (.head _))
    · exact LamX.TabS.nil (full _ (.tail _ (.head _)))
    · exact LamX.TabS.nil (full _ (.tail _ (.tail _ (.head _))))
  · skip
    have C__law_pot := ok__law_pot (P := P) (w := w) (base := base) T X
    have C__law_draw := ok__law_draw (P := P) (w := w) (base := base) T X
    have C_is_integer := ok_is_integer (P := P) (w := w) (base := base) T X
    have C_is_list := ok_is_list (P := P) (w := w) (base := base) T X
    have C_is_line := ok_is_line (P := P) (w := w) (base := base) T X C_is_integer C_is_list
    have C_poly_times := ok_poly_times (P := P) (w := w) (base := base) T X
    have C_check_line := ok_check_line (P := P) (w := w) (base := base) T X C_is_line
    have C_check_lines := ok_check_lines (P := P) (w := w) (base := base) T X C_check_line
    have C_check_number := ok_check_number (P := P) (w := w) (base := base) T X C_is_integer
    have C__check_not_nought := ok__check_not_nought (P := P) (w := w) (base := base) T X C_check_line
    have C_degree := ok_degree (P := P) (w := w) (base := base) T X C_check_line
    have C_line_slope := ok_line_slope (P := P) (w := w) (base := base) T X C_check_line
    have C_plain_line := ok_plain_line (P := P) (w := w) (base := base) T X C_check_line
    have C_line_sum := ok_line_sum (P := P) (w := w) (base := base) T X C_check_lines
    have C_line_less := ok_line_less (P := P) (w := w) (base := base) T X C_check_lines
    have C_line_common := ok_line_common (P := P) (w := w) (base := base) T X C_check_lines
    have C_line_value := ok_line_value (P := P) (w := w) (base := base) T X C_check_line C_check_number
    have C_greatest := ok_greatest (P := P) (w := w) (base := base) T X C_check_number
    have C_plain_parts := ok_plain_parts (P := P) (w := w) (base := base) T X C__check_not_nought
    have C_whole_roots := ok_whole_roots (P := P) (w := w) (base := base) T X C__check_not_nought
    have C_monic_parts := ok_monic_parts (P := P) (w := w) (base := base) T X C_is_line
    have C_line_times := ok_line_times (P := P) (w := w) (base := base) T X C_check_lines C_poly_times
    have C_poly_divided := ok_poly_divided (P := P) (w := w) (base := base) T X
    have C_sylvester := ok_sylvester (P := P) (w := w) (base := base) T X
    have C_determinant := ok_determinant (P := P) (w := w) (base := base) T X
    have C_line_divided := ok_line_divided (P := P) (w := w) (base := base) T X C_check_lines C_poly_divided
    have C_resultant := ok_resultant (P := P) (w := w) (base := base) T X C_check_lines C_determinant C_sylvester
    have C__law_heard := ok__law_heard (P := P) (w := w) (base := base) T X
    have C__law_are := ok__law_are (P := P) (w := w) (base := base) T X C__law_heard
    have C__law_lines_right := ok__law_lines_right (TT := [(P1, qLin), (P2, qNum), (P3, qBeh)]) (P := P) (w := w) (base := base) T X D1.D (tb _ (.head _)) (.head _) (own3 n12 n13 n23).1 C_degree C_line_value C_line_slope C_plain_line C_line_sum C_line_less C_line_times C_line_divided C_line_common C_resultant C_plain_parts C_whole_roots C_monic_parts C__law_are
    have C__law_numbers_right := ok__law_numbers_right (TT := [(P1, qLin), (P2, qNum), (P3, qBeh)]) (P := P) (w := w) (base := base) T X D2.D (tb _ (.tail _ (.head _))) (.tail _ (.head _)) (own3 n12 n13 n23).2.1 C_line_value C_greatest C__law_are
    have C__law_behind_right := ok__law_behind_right (TT := [(P1, qLin), (P2, qNum), (P3, qBeh)]) (P := P) (w := w) (base := base) T X D3.D (tb _ (.tail _ (.tail _ (.head _)))) (.tail _ (.tail _ (.head _))) (own3 n12 n13 n23).2.2 C_line_divided C_resultant C_plain_parts C_whole_roots C_monic_parts C_line_times C__law_heard C__law_draw C__law_are
    have C__law_right := ok__law_right (P := P) (w := w) (base := base) T X C__law_lines_right C__law_numbers_right C__law_behind_right C__law_draw
    exact fn_law T X C__law_pot C__law_right F
end Kr
open PySem PySem.W PyProof.Rows
set_option maxHeartbeats 0 in
theorem PySem.Challenge.cw_curvepieces_k10_lines_refused_holds : PySem.Challenge.rw_curvepieces_k10_lines_refused.Holds := by
  w_on; o_law; k_head; (case hw => w_witness2)
  k_fill
  refine Kr.walkTG (l := PySem.Challenge.rw_curvepieces_k10_lines_refused) (n := 63) (k := 12) (x := "_law_script") rfl (by decide) rfl ⟨rfl, by decide, by decide⟩ (fun w h Y => km_in_of Y) ?F
  case F =>
    intro w mg fa h Y KX G hmg
    refine' Kr.law_mk10 (Kr.top_mk KX G ?a__law_pot ?l__law_pot ?c__law_pot ?k__law_pot ?a__law_draw ?l__law_draw ?c__law_draw ?k__law_draw ?a_is_integer ?l_is_integer ?c_is_integer ?k_is_integer ?a_is_list ?l_is_list ?c_is_list ?k_is_list ?a_is_line ?l_is_line ?c_is_line ?k_is_line ?a_poly_times ?l_poly_times ?c_poly_times ?k_poly_times ?a_check_line ?l_check_line ?c_check_line ?k_check_line ?a_check_lines ?l_check_lines ?c_check_lines ?k_check_lines ?a_check_number ?l_check_number ?c_check_number ?k_check_number ?a__check_not_nought ?l__check_not_nought ?c__check_not_nought ?k__check_not_nought ?a_degree ?l_degree ?c_degree ?k_degree ?a_line_slope ?l_line_slope ?c_line_slope ?k_line_slope ?a_plain_line ?l_plain_line ?c_plain_line ?k_plain_line ?a_line_sum ?l_line_sum ?c_line_sum ?k_line_sum ?a_line_less ?l_line_less ?c_line_less ?k_line_less ?a_line_common ?l_line_common ?c_line_common ?k_line_common ?a_line_value ?l_line_value ?c_line_value ?k_line_value ?a_greatest ?l_greatest ?c_greatest ?k_greatest ?a_plain_parts ?l_plain_parts ?c_plain_parts ?k_plain_parts ?a_whole_roots ?l_whole_roots ?c_whole_roots ?k_whole_roots ?a_monic_parts ?l_monic_parts ?c_monic_parts ?k_monic_parts ?a_line_times ?l_line_times ?c_line_times ?k_line_times ?a_poly_divided ?l_poly_divided ?c_poly_divided ?k_poly_divided ?a_sylvester ?l_sylvester ?c_sylvester ?k_sylvester ?a_determinant ?l_determinant ?c_determinant ?k_determinant ?a_line_divided ?l_line_divided ?c_line_divided ?k_line_divided ?a_resultant ?l_resultant ?c_resultant ?k_resultant ?a__law_heard ?l__law_heard ?c__law_heard ?k__law_heard ?a__law_are ?l__law_are ?c__law_are ?k__law_are ?a__law_right ?l__law_right ?c__law_right ?k__law_right ?a_law ?l_law ?c_law ?k_law ?z_ValueError ?z_abs ?z_all ?z_bool ?z_LINE_DEGREE ?z_MONIC_DEGREE ?z_divmod ?z_enumerate ?z_int ?z_isinstance ?z_len ?z_list ?z_gcd ?z_max ?z_range ?z_repr ?z_sorted ?z_tuple) (Kr.exc_mk KX G ?xaL ?xaN ?xaZ ?xaT ?xaE ?xaS ?xaM ?xnV ?xcL ?xtL ?xcN ?xtN ?xcZ ?xtZ ?xcT ?xtT ?xcE ?xtE ?xcS ?xtS ?xcM ?xtM ?xbL ?xkL ?xgL ?xhL ?xoL ?xmL ?xbN ?xkN ?xgN ?xhN ?xoN ?xmN ?xbZ ?xkZ ?xgZ ?xhZ ?xoZ ?xmZ ?xbT ?xkT ?xgT ?xhT ?xoT ?xmT ?xsp ?xtk ?xiL ?xvL ?xsL ?xdL ?xqL_value ?xrL_value ?xfL ?xlL ?xeL ?xjL ?xyL ?xiN ?xvN ?xsN ?xdN ?xqN_value ?xrN_value ?xfN ?xlN ?xeN ?xjN ?xyN ?xiT ?xvT ?xsT ?xdT ?xqT_what ?xrT_what ?xqT_limit ?xrT_limit ?xfT ?xlT ?xeT ?xjT ?xyT ?xz ?xxLL ?xxNL ?xxNN ?xxZL ?xxZN ?xxZZ ?xxTL ?xxTN ?xxTZ ?xxTT ?xxLE ?xxNE ?xxZS ?xxTM ?xxLV) (Kr.lamD_mk (x := "_law_lines_right") (st := Kr.sLin) (ps := ["_law_odd", "_law_line"]) KX G ?a_lin ?l_lin ?cd_lin ?k_lin ?b_lin ?lc_lin ?h11_lin ?g11_lin ?g18_lin ?g7_lin ?g9_lin ?g10_lin ?ne_lin ?at_lin ?off_lin) (Kr.lamD_mk (x := "_law_numbers_right") (st := Kr.sNum) (ps := ["_law_odd", "_law_line"]) KX G ?a_num ?l_num ?cd_num ?k_num ?b_num ?lc_num ?h11_num ?g11_num ?g18_num ?g7_num ?g9_num ?g10_num ?ne_num ?at_num ?off_num) (Kr.lamD_mk (x := "_law_behind_right") (st := Kr.sBeh) (ps := ["_law_pot_here", "_law_line"]) KX G ?a_beh ?l_beh ?cd_beh ?k_beh ?b_beh ?lc_beh ?h11_beh ?g11_beh ?g18_beh ?g7_beh ?g9_beh ?g10_beh ?ne_beh ?at_beh ?off_beh) ?n12 ?n13 ?n23 hmg
    (case a__law_pot => k_is)
    (case l__law_pot => k_is)
    (case c__law_pot => k_is)
    (case k__law_pot => k_is)
    (case a__law_draw => k_is)
    (case l__law_draw => k_is)
    (case c__law_draw => k_is)
    (case k__law_draw => k_is)
    (case a_is_integer => k_is)
    (case l_is_integer => k_is)
    (case c_is_integer => k_is)
    (case k_is_integer => k_is)
    (case a_is_list => k_is)
    (case l_is_list => k_is)
    (case c_is_list => k_is)
    (case k_is_list => k_is)
    (case a_is_line => k_is)
    (case l_is_line => k_is)
    (case c_is_line => k_is)
    (case k_is_line => k_is)
    (case a_poly_times => k_is)
    (case l_poly_times => k_is)
    (case c_poly_times => k_is)
    (case k_poly_times => k_is)
    (case a_check_line => k_is)
    (case l_check_line => k_is)
    (case c_check_line => k_is)
    (case k_check_line => k_is)
    (case a_check_lines => k_is)
    (case l_check_lines => k_is)
    (case c_check_lines => k_is)
    (case k_check_lines => k_is)
    (case a_check_number => k_is)
    (case l_check_number => k_is)
    (case c_check_number => k_is)
    (case k_check_number => k_is)
    (case a__check_not_nought => k_is)
    (case l__check_not_nought => k_is)
    (case c__check_not_nought => k_is)
    (case k__check_not_nought => k_is)
    (case a_degree => k_is)
    (case l_degree => k_is)
    (case c_degree => k_is)
    (case k_degree => k_is)
    (case a_line_slope => k_is)
    (case l_line_slope => k_is)
    (case c_line_slope => k_is)
    (case k_line_slope => k_is)
    (case a_plain_line => k_is)
    (case l_plain_line => k_is)
    (case c_plain_line => k_is)
    (case k_plain_line => k_is)
    (case a_line_sum => k_is)
    (case l_line_sum => k_is)
    (case c_line_sum => k_is)
    (case k_line_sum => k_is)
    (case a_line_less => k_is)
    (case l_line_less => k_is)
    (case c_line_less => k_is)
    (case k_line_less => k_is)
    (case a_line_common => k_is)
    (case l_line_common => k_is)
    (case c_line_common => k_is)
    (case k_line_common => k_is)
    (case a_line_value => k_is)
    (case l_line_value => k_is)
    (case c_line_value => k_is)
    (case k_line_value => k_is)
    (case a_greatest => k_is)
    (case l_greatest => k_is)
    (case c_greatest => k_is)
    (case k_greatest => k_is)
    (case a_plain_parts => k_is)
    (case l_plain_parts => k_is)
    (case c_plain_parts => k_is)
    (case k_plain_parts => k_is)
    (case a_whole_roots => k_is)
    (case l_whole_roots => k_is)
    (case c_whole_roots => k_is)
    (case k_whole_roots => k_is)
    (case a_monic_parts => k_is)
    (case l_monic_parts => k_is)
    (case c_monic_parts => k_is)
    (case k_monic_parts => k_is)
    (case a_line_times => k_is)
    (case l_line_times => k_is)
    (case c_line_times => k_is)
    (case k_line_times => k_is)
    (case a_poly_divided => k_is)
    (case l_poly_divided => k_is)
    (case c_poly_divided => k_is)
    (case k_poly_divided => k_is)
    (case a_sylvester => k_is)
    (case l_sylvester => k_is)
    (case c_sylvester => k_is)
    (case k_sylvester => k_is)
    (case a_determinant => k_is)
    (case l_determinant => k_is)
    (case c_determinant => k_is)
    (case k_determinant => k_is)
    (case a_line_divided => k_is)
    (case l_line_divided => k_is)
    (case c_line_divided => k_is)
    (case k_line_divided => k_is)
    (case a_resultant => k_is)
    (case l_resultant => k_is)
    (case c_resultant => k_is)
    (case k_resultant => k_is)
    (case a__law_heard => k_is)
    (case l__law_heard => k_is)
    (case c__law_heard => k_is)
    (case k__law_heard => k_is)
    (case a__law_are => k_is)
    (case l__law_are => k_is)
    (case c__law_are => k_is)
    (case k__law_are => k_is)
    (case a__law_right => k_is)
    (case l__law_right => k_is)
    (case c__law_right => k_is)
    (case k__law_right => k_is)
    (case a_law => k_is)
    (case l_law => k_is)
    (case c_law => k_is)
    (case k_law => k_is)
    (case z_ValueError => k_is)
    (case z_abs => k_is)
    (case z_all => k_is)
    (case z_bool => k_is)
    (case z_LINE_DEGREE => k_is)
    (case z_MONIC_DEGREE => k_is)
    (case z_divmod => k_is)
    (case z_enumerate => k_is)
    (case z_int => k_is)
    (case z_isinstance => k_is)
    (case z_len => k_is)
    (case z_list => k_is)
    (case z_gcd => k_is)
    (case z_max => k_is)
    (case z_range => k_is)
    (case z_repr => k_is)
    (case z_sorted => k_is)
    (case z_tuple => k_is)
    (case xaL => k_is)
    (case xaN => k_is)
    (case xaZ => k_is)
    (case xaT => k_is)
    (case xaE => k_is)
    (case xaS => k_is)
    (case xaM => k_is)
    (case xnV => k_is)
    (case xcL => k_is)
    (case xtL => k_is)
    (case xcN => k_is)
    (case xtN => k_is)
    (case xcZ => k_is)
    (case xtZ => k_is)
    (case xcT => k_is)
    (case xtT => k_is)
    (case xcE => k_is)
    (case xtE => k_is)
    (case xcS => k_is)
    (case xtS => k_is)
    (case xcM => k_is)
    (case xtM => k_is)
    (case xbL => k_is)
    (case xkL => k_is)
    (case xgL => k_is)
    (case xhL => k_is)
    (case xoL => k_is)
    (case xmL => k_is)
    (case xbN => k_is)
    (case xkN => k_is)
    (case xgN => k_is)
    (case xhN => k_is)
    (case xoN => k_is)
    (case xmN => k_is)
    (case xbZ => k_is)
    (case xkZ => k_is)
    (case xgZ => k_is)
    (case xhZ => k_is)
    (case xoZ => k_is)
    (case xmZ => k_is)
    (case xbT => k_is)
    (case xkT => k_is)
    (case xgT => k_is)
    (case xhT => k_is)
    (case xoT => k_is)
    (case xmT => k_is)
    (case xsp => k_is)
    (case xtk => k_is)
    (case xiL => kx_is)
    (case xvL => kx_is)
    (case xsL => k_is)
    (case xdL => k_is)
    (case xqL_value => k_is)
    (case xrL_value => k_is)
    (case xfL => k_is)
    (case xlL => k_is)
    (case xeL => k_is)
    (case xjL => k_is)
    (case xyL => k_is)
    (case xiN => kx_is)
    (case xvN => kx_is)
    (case xsN => k_is)
    (case xdN => k_is)
    (case xqN_value => k_is)
    (case xrN_value => k_is)
    (case xfN => k_is)
    (case xlN => k_is)
    (case xeN => k_is)
    (case xjN => k_is)
    (case xyN => k_is)
    (case xiT => kx_is)
    (case xvT => kx_is)
    (case xsT => k_is)
    (case xdT => k_is)
    (case xqT_what => k_is)
    (case xrT_what => k_is)
    (case xqT_limit => k_is)
    (case xrT_limit => k_is)
    (case xfT => k_is)
    (case xlT => k_is)
    (case xeT => k_is)
    (case xjT => k_is)
    (case xyT => k_is)
    (case xz => k_exc)
    (case xxLL => k_is)
    (case xxNL => k_is)
    (case xxNN => k_is)
    (case xxZL => k_is)
    (case xxZN => k_is)
    (case xxZZ => k_is)
    (case xxTL => k_is)
    (case xxTN => k_is)
    (case xxTZ => k_is)
    (case xxTT => k_is)
    (case xxLE => k_is)
    (case xxNE => k_is)
    (case xxZS => k_is)
    (case xxTM => k_is)
    (case xxLV => k_is)
    (case a_lin => k_is)
    (case l_lin => k_is)
    (case cd_lin => k_is)
    (case k_lin => k_is)
    (case b_lin => exact fun _ _ _ _ _ _ us hl => match us, hl with | [_, _], _ => rfl)
    (case lc_lin => k_is)
    (case h11_lin => exact rfl)
    (case g11_lin => exact rfl)
    (case g18_lin => exact rfl)
    (case g7_lin => exact rfl)
    (case g9_lin => exact rfl)
    (case g10_lin => exact rfl)
    (case ne_lin => decide)
    (case at_lin => exact km_tabs_of Y _ (by decide))
    (case off_lin => exact rfl)
    (case a_num => k_is)
    (case l_num => k_is)
    (case cd_num => k_is)
    (case k_num => k_is)
    (case b_num => exact fun _ _ _ _ _ _ us hl => match us, hl with | [_, _], _ => rfl)
    (case lc_num => k_is)
    (case h11_num => exact rfl)
    (case g11_num => exact rfl)
    (case g18_num => exact rfl)
    (case g7_num => exact rfl)
    (case g9_num => exact rfl)
    (case g10_num => exact rfl)
    (case ne_num => decide)
    (case at_num => exact km_tabs_of Y _ (by decide))
    (case off_num => exact rfl)
    (case a_beh => k_is)
    (case l_beh => k_is)
    (case cd_beh => k_is)
    (case k_beh => k_is)
    (case b_beh => exact fun _ _ _ _ _ _ us hl => match us, hl with | [_, _], _ => rfl)
    (case lc_beh => k_is)
    (case h11_beh => exact rfl)
    (case g11_beh => exact rfl)
    (case g18_beh => exact rfl)
    (case g7_beh => exact rfl)
    (case g9_beh => exact rfl)
    (case g10_beh => exact rfl)
    (case ne_beh => decide)
    (case at_beh => exact km_tabs_of Y _ (by decide))
    (case off_beh => exact rfl)
    (case n12 => decide)
    (case n13 => decide)
    (case n23 => decide)
