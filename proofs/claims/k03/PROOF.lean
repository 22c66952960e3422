import PyProof.Rows.All
import Wide.All
import OpenK.AllK
import Wide.FinOn
import HandS.ForMost
import HandS.Wide
import HandS.IsInst
import HandS.Gcd
import HandS.Style
import HandS.Flow
import HandS.NoneIn
import HandS.Defaults
import HandS.SetFor
import HandS.WideBits
import HandS.Codes
import HandS.Walk
import KE.KMathGC
import KE.KBits
import HandS.ForExc
import HandS.ExcInit
import HandS.ExcIs
import HandS.ExcValue
import HandS.Lambda
import HandS.EndTab
import KE.KExcIs
import HandS.ExcField
import KE.KNestM
import HandS.EndBits
import HandS.WordsExc
import HandS.FStr
import HandS.TupLen
import PyProof.ReprRoads
import PySem.Challenge.RW_nodice_k03_fractions_by_own_reckoning
set_option Elab.async false
set_option linter.all false
set_option maxRecDepth 100000
set_option maxHeartbeats 4000000
namespace Nd
open PySem PySem.Spec PyProof.Rows L2

/-! ### defs that may only be called where nothing is being shown -/
structure FnG (P : Program) (w : World) (K : PySem.W.Frag) (mg : Str → Option Value) (base : Heap)
    (CX : CXT) (k : Nat) (f : Addr) (fd : FuncData) (ps : List Str) (sp : Sp) : Prop where
  many : ∀ vs H Q E, sp vs H Q E → vs.length = ps.length
  go : ∀ (A : Around) (fr : List Env) (s : Shared) (H : Hp) (args : Args) (us : List Value)
    (vs : List V) (Q : VK) (E : XK), A.guards = some [] → Room k A →
    Env0 P w K mg base A fr s H → BindsTo s fd args (ps.zip us) → Vals vs us → sp vs H Q E →
    codeAny (model P w) A (.call (.ref f) args) (CR CX fr P w H s Q E) s

section
variable {P : Program} {w : World} {K : PySem.W.Frag} {mg : Str → Option Value} {base : Heap}
theorem FnG.ofOk {CX : CXT} {k : Nat} {f : Addr} {fd : FuncData} {ps : List Str} {sp : Sp}
    (F : FnOk P w K mg base CX k f fd ps sp) : FnG P w K mg base CX k f fd ps sp :=
  ⟨F.len, fun A fr s H args us vs Q E _ hr => F.run A fr s H args us vs Q E hr⟩

theorem okG {CX : CXT} {x qual : Str} {st : Stmt} {f : Addr} {fd : FuncData} {N ps : List Str}
    {k : Nat} {sp : Sp} (F : Fun K x qual st f fd) (S : FnScope N ps (defScope st))
    (many : ∀ vs H Q E, sp vs H Q E → vs.length = ps.length)
    (body : ∀ (cdv : Value) (A : Around) (fr : List Env) (s : Shared) (H : Hp) (vs : List V)
      (Q : VK) (E : XK),
      (cxOf CX P w K mg base N qual (defScope st) f cdv A fr s H E).A.guards = some [] →
      Room k (cxOf CX P w K mg base N qual (defScope st) f cdv A fr s H E).A → sp vs H Q E →
      ∃ t, PSs (cxOf CX P w K mg base N qual (defScope st) f cdv A fr s H E) (defBody st) t ∧
        t { nx := fun _ H' => Q .non H', rt := Q } (start N vs) H) :
    FnG P w K mg base CX (k + 1) f fd ps sp := by
  obtain ⟨oc, od, kV, doc, pm, an, cdv, ct, osl, rfl, lk, hcd⟩ := F.ex
  refine ⟨many, ?_⟩
  intro A fr s H args us vs Q E hG room env bind rel want
  have inK := env.mod.kin.keeps fun b o e => (env.bs b o e).1
  have noL := env.mod.nolimit.keeps fun b o e => (env.bs b o e).1
  have kinds : ∀ y ∈ ps.zip us, (defScope st).names.lookup y.1 = some .local ∨
      ((defScope st).names.lookup y.1 = some .cell ∧
        ((cellsFrom (s.heap.objs.size + 1) (defScope st).names []).lookup y.1).isSome = true) := by
    rintro ⟨n, v⟩ hy
    cases S.par n (List.of_mem_zip hy).1 with
    | inl q => exact .inl q
    | inr q => exact .inr ⟨q, PySem.W.cellsFrom_some _ _ _ (.inl q)⟩
  apply codeAny_call_function room.depth (inK _ _ lk) rfl S.co S.gen rfl
    (PySem.W.codeRec_of inK hcd) (bind _ _ _ _ ?_)
  apply wpAny_newFunctionEnv_cells S.kind kinds
  rintro env' rfl s1 x
  refine ⟨noL.keeps x.toInCall.keep, codeAny_func ?_⟩
  obtain ⟨t, ht, hq⟩ := body cdv A fr s H vs Q E hG (room.deeper _) want
  have I := inv_start (CX := CX) (E := E) S room.hd env (many _ _ _ _ want) rel x
  refine wpAny_mono (ht.run [] s1 (start N vs) H _ I hq) ?_ fun e s' hs => hs
  intro fl s' hs
  cases fl with
  | brk => exact False.elim hs.choose_spec.choose_spec.2
  | cont => exact False.elim hs.choose_spec.choose_spec.2
  | next =>
    obtain ⟨σ', H', J, q⟩ := hs
    exact ⟨V.non, H', J.os, J.bare, J.base, J.hok, rfl, q⟩
  | ret u =>
    obtain ⟨v, σ', H', J, rv, q⟩ := hs
    exact ⟨v, H', J.os, J.bare, J.base, J.hok, rv, q⟩
end

section
variable {X : Cx} {CX : CXT} {k : Nat} {f : Addr} {fd : FuncData} {ps : List Str} {sp : Sp}
  {dvs : List V} {ds : List Value} {E : XK} {x : Str} {p pos : Pos} {e : Expr} {es : List Expr} {t : TA}
theorem goG {pins : List (Addr × Obj)} {σ : L2.St} {H : Hp} {s : Shared} {Q : VK} {us : List Value}
    {vs : List V} (F : FnG X.prog X.w X.K X.mg X.base CX k f fd ps sp) (hG : X.A.guards = some [])
    (hr : Room k X.A) (hb : Binds X.K fd ps ds) (hd : Vals dvs ds) (hx : Passes CX X E)
    (I : Inv X pins σ H s) (r : Vals vs us) (h : sp (vs ++ dvs) H Q E) :
    wpAny (model X.prog X.w) X.A (call (.ref f) us) (EP X pins σ Q) X.xe s := by
  have r2 := r.append hd
  have hl : (us ++ ds).length = ps.length := r2.length.symm.trans (F.many _ _ _ _ h)
  have run := F.go X.A X.stack s H ⟨us, []⟩ (us ++ ds) (vs ++ dvs) Q E hG hr I.env0
    (hb s us I.kIn hl) r2 h
  refine wpAny_call (codeAny_mono run ?_)
  rintro (e' | fl) s' hq
  · exact hx pins σ H s e' s' I hq
  · cases fl with
    | ret u => exact I.after hq
    | next => exact hq.elim
    | brk => exact hq.elim
    | cont => exact hq.elim

theorem pe_callG (F : FnG X.prog X.w X.K X.mg X.base CX k f fd ps sp) (hG : X.A.guards = some [])
    (hr : Room k X.A) (hg : Gl X x) (hm : X.mg x = some (.ref f))
    (hk : PySem.W.keepIn X.K (.ref f) = true) (hb : Binds X.K fd ps ds) (hd : Vals dvs ds)
    (hx : Passes CX X E) (ha : PA X (e :: es) t)
    (hdb : (x == ("__debug__" : Str)) = false := by decide)
    (he : starEach (e :: es) X.env = (false, eval e X.env) :: starEach es X.env := by rfl)
    (hpl : (backTo pos (starEach es X.env)).any (·.1) = false := by rfl) :
    PE X (.Call (.Name x p) (e :: es) [] pos) (tCall sp dvs E t) := by
  constructor
  intro pins s σ H Q I h
  apply wpAny_Call_Name_kw (ld_glob I hg hm ?_ hdb)
  apply PySem.W.callWith_K (h₀ := X.base) I.ok.mod.kin hk ?_ he hpl
  apply thn (ha.run pos pins s σ H _ I h)
  rintro us s1 ⟨vs, H1, I1, r, q⟩
  exact ⟨I1.kIn, goG F hG hr hb hd hx I1 r q⟩
end

/-! ### the law's own call -/
theorem entG {P : Program} {w : World} {K : PySem.W.Frag} {mg mb : Str → Option Value} {CX : CXT}
    {k : Nat} {fa a : Addr} {fd : FuncData} {x : Str} {sp : Sp} {s₁ : Shared} {vs : List Value}
    {ns : List Int} (KX : K.In s₁.heap) (hns : s₁.heap.Ns mainGlobals mg)
    (hb : s₁.heap.Ns builtinsNs mb) (hbb : ∀ y : Str, y ≠ "__name__" → mb y = bootBuiltins y)
    (hlim : s₁.heap.NoLimit) (hg : s₁.gens = #[])
    (ha : s₁.heap.get? a = some { cls := .type "list", data := .seq vs.toArray })
    (hi : IntsAre vs ns) (hl : ns.length ≤ sizeLine) (hr : Room k callerA)
    (F : ∀ base : Heap, K.In base → base.Ns mainGlobals mg → FnG P w K mg base CX k fa fd [x] sp)
    (hbind : ∀ (s : Shared) (u : Value), BindsTo s fd ⟨[u], []⟩ [(x, u)])
    (hsp : ∀ H : Hp, Only H → SqL K H a (ns.map V.int) → sp [.ref a] H (fun v _ => v = .bl true) E0)
    (hCX : ∀ H e s', CX [] H s₁ E0 e s' → False) :
    codeAny (model P w) callerA (.call (.ref fa) ⟨[.ref a], []⟩)
      (fun r s' => r = .ok (.ret (.bool true)) ∧ OldK s₁.heap s'.heap ∧ s'.os = s₁.os ∧
        AllBare s'.gens) s₁ := by
  have main : ∀ H : Hp, Only H → SqL K H a (ns.map V.int) → HOk P w H s₁.heap →
      (∀ b, H b ≠ none → b = a) → (H a ≠ none → K.lookup a = none) →
      codeAny (model P w) callerA (.call (.ref fa) ⟨[.ref a], []⟩)
        (fun r s' => r = .ok (.ret (.bool true)) ∧ OldK s₁.heap s'.heap ∧ s'.os = s₁.os ∧
          AllBare s'.gens) s₁ := by
    intro H only sq ok one off
    have cases' : ∀ b, H b = none ∨ b = a := fun b => by
      by_cases z : H b = none
      · exact .inl z
      · exact .inr (one b z)
    have dictFree : ∀ {b : Addr} {o : Obj} {es : Array DictEntry} {ep : Nat},
        s₁.heap.get? b = some o → o.data = .dict es ep → H b = none := by
      intro b o es ep e d
      rcases cases' b with z | z
      · exact z
      · subst z
        obtain rfl := Option.some.inj (e.symm.trans ha)
        cases (show Data.seq vs.toArray _ = Data.dict es ep from d)
    have keepNs : ∀ {b : Addr} {m : Str → Option Value}, s₁.heap.Ns b m →
        (hidT s₁.heap H).Ns b m := by
      rintro b m ⟨o, es, ep, e, d, r⟩
      exact ⟨o, es, ep, hidT_get e (dictFree e d), d, r⟩
    have inH : K.In (hidT s₁.heap H) := by
      intro b o e
      refine hidT_get (KX b o e) ?_
      rcases cases' b with z | z
      · exact z
      · subst z
        by_cases y : H b = none
        · exact y
        · cases (off y).symm.trans e
    obtain ⟨mc, l1, l2⟩ := hlim
    have md : Mod K mg (hidT s₁.heap H) :=
      ⟨inH, keepNs hns, ⟨mb, keepNs hb, hbb⟩, mc, keepNs l1, l2⟩
    have env : Env0 P w K mg (hidT s₁.heap H) callerA [] s₁ H :=
      { frames := rfl, mod := md, bs := fun b o e => of_hidT e
        bsz := Nat.le_of_eq (hidT_size _ _), funs := trivial
        frf := fun b hb => (List.not_mem_nil (show b ∈ ([] : List Addr) from hb)).elim
        hok := ok, bare := .of_eq hg }
    have run := (F _ inH (keepNs hns)).go callerA [] s₁ H ⟨[.ref a], []⟩ [.ref a] [.ref a] _ _ rfl hr
      env (hbind s₁ (.ref a)) (.cons rfl .nil) (hsp H only sq)
    refine codeAny_mono run ?_
    rintro (e | fl) s' h
    · exact (hCX H e s' h).elim
    cases fl with
    | next => exact h.elim
    | brk => exact h.elim
    | cont => exact h.elim
    | ret u =>
      obtain ⟨v, H', os, bare, un, ok', rv, rfl⟩ := h
      cases (show u = Value.bool true from rv)
      refine ⟨rfl, .of_keep fun b o e => ?_, os, bare⟩
      rcases only b with z | ⟨ob, xs, z⟩
      · exact un.keep b o e z (fun m => (List.not_mem_nil (show b ∈ ([] : List Addr) from m)).elim) (by simp)
      · have old := (ok b _ z).1
        have new := (ok' b _ (un.frzs b ob _ z)).1
        exact new.trans (old.symm.trans e)
  have rv := vals_ints hi
  by_cases hk : K.lookup a = none
  · let S : Obj := { cls := .type "list", data := .seq vs.toArray }
    let H : Hp := fun b => if b = a then some (.frz S (.lst (ns.map V.int))) else none
    have at' : H a = some (.frz S (.lst (ns.map V.int))) := if_pos rfl
    have off : ∀ b, b ≠ a → H b = none := fun b n => if_neg n
    refine main H (fun b => ?_) (.inl (.inr ⟨S, at'⟩)) (fun b u z => ?_) (fun b z => ?_) fun _ => hk
    · by_cases q : b = a
      · exact .inr ⟨_, _, q ▸ at'⟩
      · exact .inl (off b q)
    · by_cases q : b = a
      · subst q
        obtain rfl := Option.some.inj (at'.symm.trans z)
        exact ⟨ha, by rw [List.length_map]; exact hl, vs, _, rv, ha⟩
      · cases (off b q).symm.trans z
    · by_cases q : b = a
      · exact q
      · exact absurd (off b q) z
  · obtain ⟨o, e⟩ := Option.ne_none_iff_exists'.mp hk
    obtain rfl := Option.some.inj ((KX a o e).symm.trans ha)
    refine main (fun _ => none) (fun _ => .inl rfl) (.inr ⟨_, vs.toArray, _, e, rfl, rfl, rfl, ?_, ?_⟩)
      (fun b u z => nomatch (show (none : Option HO) = some u from z)) (fun b z => absurd rfl z) fun z => absurd rfl z
    · rw [List.size_toArray, hi.length]
      exact hl
    · simpa using rv

theorem walkG {l : PySem.W.OpenLaw} {n k : Nat} {q : Program} {loose : List Str}
    {XP : (Str → Option Value) → Heap → Prop} {YP : World → Heap → Prop} {d : DefRec}
    {K : Params → PySem.W.Frag} {CX : World → CXT} {sp : World → Sp} {x : Str}
    (hn : l.most = some n) (hn2 : n ≤ sizeLine) (hdf : d.params.defaults = []) (hr : Room k callerA)
    (hY : ∀ (w : World) (h : Heap), YP w h → (K w.params).In h)
    (F : ∀ (w : World) (mg : Str → Option Value) (fa : Addr) (h : Heap), (K w.params).In h →
      h.Ns mainGlobals mg → mg d.name = some (.ref fa) →
      ∃ fd : FuncData, (∀ (s : Shared) (u : Value), BindsTo s fd ⟨[u], []⟩ [(x, u)]) ∧
        ∀ base : Heap, (K w.params).In base → base.Ns mainGlobals mg →
          FnG l.prog w (K w.params) mg base (CX w) k fa fd [x] (sp w))
    (hsp : ∀ (w : World) (H : Hp) (a : Addr) (ns : List Int), ns.length ≤ n → Only H →
      SqL (K w.params) H a (ns.map V.int) → sp w [.ref a] H (fun v _ => v = .bl true) E0)
    (hCX : ∀ (w : World) (H : Hp) (s : Shared) (e : Value) (s' : Shared), CX w [] H s E0 e s' → False) :
    PySem.W.WalkO q loose XP YP l.row.toRowW d [] (fun f vs => PySem.call f vs) := by
  apply Att.attach_call hn hdf
  intro w s₀ s₁ mg mb fa o pm cd doc a vs ns G Y _ _ _ hmg hobj hints hlen hg
  obtain ⟨fd, hb, hF⟩ := F w mg fa _ (hY w _ Y) G.T.g hmg
  exact entG (hY w _ Y) G.T.g G.T.b G.T.builtins G.T.nolimit hg hobj hints (Nat.le_trans hlen hn2) hr hF hb
    (fun H hO hS => hsp w H a ns hlen hO hS) (fun H e s' => hCX w H s₁ e s')
end Nd
namespace Nd
open PySem PySem.Spec PyProof.Rows L2
/-! ### repr of data -/
mutual
theorem noDict {K : PySem.W.Frag} {H : Hp} : ∀ {d : PyData} {v : V}, Dp K H v d → d.hasDict = false
  | .none, _, _ => rfl
  | .bool _, _, _ => rfl
  | .int _, _, _ => rfl
  | .str _, _, _ => rfl
  | .list ds, _, h => by
    cases h with
    | lst _ ha => simpa [PyData.hasDict] using noDicts ha
  | .tuple ds, _, h => by
    cases h with
    | tup _ ha => simpa [PyData.hasDict] using noDicts ha
  | .dict _, _, h => by cases h
theorem noDicts {K : PySem.W.Frag} {H : Hp} : ∀ {ds : List PyData} {vs : List V}, DpAll K H vs ds → PyData.hasDictAll ds = false
  | [], _, _ => rfl
  | d :: ds, _, h => by
    cases h with
    | cons h1 h2 => simp [PyData.hasDictAll, noDict h1, noDicts h2]
end
def rRepr (K : PySem.W.Frag) : List V → Hp → VK → Prop := fun vs H Q => ∃ (v : V) (d : PyData), vs = [v] ∧
  Dp K H v d ∧ d.showable = true ∧ d.depth ≤ 60 ∧ d.shown.length ≤ sizeLine ∧ Q (.str d.shown) H
theorem repr_leaf_bool {P : Program} {w : World} {A : Around} {E : Value → Shared → Prop} {s : Shared} {b : Bool} {Q : Value → Shared → Prop}
    (h : Q (.str (PyData.bool b).shown s.toks) { s with toks := s.toks + 1 }) : wpAny (model P w) A (call (.builtin "repr") [.bool b]) Q E s := by
  refine PySem.P.repr_of_bool ?_
  rw [PyData.shown_bool] at h
  exact h
theorem cr_repr {X : Cx} (hG : X.A.guards = some []) {k : Nat} (hr : Room k X.A) : CallR X (.builtin "repr") (rRepr X.K) := by
  intro pins s σ H xs us Q I r h
  obtain ⟨v, d, rfl, hd, hs, hdep, hz, q⟩ := h
  obtain ⟨u, rfl, ru⟩ := vals1 r
  have nd := noDict hd
  obtain ⟨as, rd⟩ := Dp.reads I d v u hd ru
  have fin : ∀ t tk, EP X pins σ Q (.str d.shown t) { s with toks := tk } := fun t tk => ⟨.str d.shown, H, I.tok tk, ⟨t, rfl⟩, q⟩
  cases hd with
  | non =>
    cases ru
    refine P.repr_of_none ?_
    have e := fin s.toks (s.toks + 1)
    rw [PyData.shown_none] at e
    exact e
  | bl b =>
    cases ru
    exact repr_leaf_bool (fin _ _)
  | int i =>
    obtain ⟨t, rfl⟩ := ru
    refine P.repr_of_int (by simpa [PyData.showable] using hs) ?_
    have e := fin s.toks (s.toks + 1)
    rw [PyData.shown_int] at e
    exact e
  | str x =>
    obtain ⟨t, rfl⟩ := ru
    rw [PyData.shown_str] at hz
    refine P.repr_of_str ?_ hz
    have e := fin s.toks (s.toks + 1)
    rw [PyData.shown_str] at e
    exact e
  | lst hl ha =>
    cases ru
    exact repr_of_reads' rd hs (fun e => by rw [nd] at e; cases e) hG (by have := hr.un; omega) (fun _ _ e => e)
      (fun h' t tk keep => ⟨.str _, H, I.kept keep, ⟨t, rfl⟩, q⟩) hz
  | tup hl ha =>
    cases ru
    exact repr_of_reads' rd hs (fun e => by rw [nd] at e; cases e) hG (by have := hr.un; omega) (fun _ _ e => e)
      (fun h' t tk keep => ⟨.str _, H, I.kept keep, ⟨t, rfl⟩, q⟩) hz
end Nd

namespace Nd
open PySem PySem.Spec PyProof.Rows L2
section
variable {P : Program} {w : World} {K : PySem.W.Frag} {mg : Str → Option Value} {base : Heap}
/-- a def out of which no exception comes -/
theorem okG0 {x qual : Str} {st : Stmt} {f : Addr} {fd : FuncData} {N ps : List Str}
    {k : Nat} {sp : Sp} (F : Fun K x qual st f fd) (S : FnScope N ps (defScope st))
    (many : ∀ vs H Q E, sp vs H Q E → vs.length = ps.length)
    (body : ∀ (cdv : Value) (A : Around) (fr : List Env) (s : Shared) (H : Hp) (vs : List V) (Q : VK) (E : XK),
      (cxOf CX0 P w K mg base N qual (defScope st) f cdv A fr s H E).nox.A.guards = some [] →
      Room k (cxOf CX0 P w K mg base N qual (defScope st) f cdv A fr s H E).nox.A → sp vs H Q E →
      ∃ t, PSs (cxOf CX0 P w K mg base N qual (defScope st) f cdv A fr s H E).nox (defBody st) t ∧
        t { nx := fun _ H' => Q .non H', rt := Q } (start N vs) H) :
    FnG P w K mg base CX0 (k + 1) f fd ps sp := by
  refine okG F S many fun cdv A fr s H vs Q E hG hr h => ?_
  obtain ⟨t, h1, h2⟩ := body cdv A fr s H vs Q E hG hr h
  exact ⟨t, h1.nox, h2⟩
/-- what a caller knows of a def -/
structure Cal (P : Program) (w : World) (K : PySem.W.Frag) (mg : Str → Option Value) (base : Heap) (CX : CXT) (k : Nat) (x : Str) (sp : Sp) : Prop where
  ex : ∃ (f : Addr) (fd : FuncData) (ps : List Str), FnG P w K mg base CX k f fd ps sp ∧ mg x = some (.ref f) ∧
    PySem.W.keepIn K (.ref f) = true ∧ Binds K fd ps []
end
theorem pe_f {X : Cx} {CX : CXT} {k : Nat} {x : Str} {sp : Sp} {E : XK} {p pos : Pos} {e : Expr} {es : List Expr} {t : TA}
    (c : Cal X.prog X.w X.K X.mg X.base CX k x sp) (hG : X.A.guards = some []) (hr : Room k X.A) (hg : Gl X x) (hx : Passes CX X E)
    (ha : PA X (e :: es) t) (hdb : (x == ("__debug__" : Str)) = false := by decide)
    (he : starEach (e :: es) X.env = (false, eval e X.env) :: starEach es X.env := by rfl)
    (hpl : (backTo pos (starEach es X.env)).any (·.1) = false := by rfl) :
    PE X (.Call (.Name x p) (e :: es) [] pos) (tCall sp [] E t) := by
  obtain ⟨f, fd, ps, F, hm, hk, hb⟩ := c.ex
  exact pe_callG F hG hr hg hm hk hb .nil hx ha hdb he hpl
end Nd
namespace Nd
open PySem PySem.Spec PyProof.Rows L2
/-! ### what a law draws from: a list of its numbers, a place, a rest -/
/-- all that was tracked stays, but the one at r, a list whose first item stays -/
structure Gr (r : Addr) (H H' : Hp) : Prop where
  all : ∀ b o, b ≠ r → H b = some o → H' b = some o
  own : ∀ c t, H r = some (.lst (.ref c :: t)) → ∃ t', H' r = some (.lst (.ref c :: t'))
instance {r : Addr} {H H' : Hp} : CoeFun (Gr r H H') (fun _ => ∀ b o, b ≠ r → H b = some o → H' b = some o) := ⟨fun g => g.all⟩
theorem Gr.rfl' {r : Addr} {H : Hp} : Gr r H H := ⟨fun _ _ _ e => e, fun _ t e => ⟨t, e⟩⟩
theorem Gr.trans {r : Addr} {H H1 H2 : Hp} (a : Gr r H H1) (b : Gr r H1 H2) : Gr r H H2 := ⟨fun c o n e => b.all c o n (a.all c o n e), fun c t e => by
  obtain ⟨t1, e1⟩ := a.own c t e
  exact b.own c t1 e1⟩
theorem Gr.same {r : Addr} {H H' : Hp} (a : Same H H') : Gr r H H' := ⟨fun c o _ e => a c o e, fun c t e => ⟨t, a _ _ e⟩⟩
theorem Gr.new {r p : Addr} {H : Hp} {o : HO} (h : H p = none) : Gr r H (upd H p o) := Gr.same fun b u e => by
  rw [upd_ne (ne_of_none e h)]
  exact e
theorem Gr.put {r c : Addr} {H : Hp} {t t' : List V} (h : H r = some (.lst (.ref c :: t))) : Gr r H (upd H r (.lst (.ref c :: t'))) := ⟨fun b u n e => by
  rw [upd_ne n]
  exact e, fun c' _ e => by
  rw [h] at e
  cases e
  exact ⟨t', upd_same⟩⟩
theorem Same.new {p : Addr} {H : Hp} {o : HO} (h : H p = none) : Same H (upd H p o) := fun b u e => by
  rw [upd_ne (ne_of_none e h)]
  exact e
structure Rid (r : Addr) (n : Nat) (H : Hp) : Prop where
  ex : ∃ (c : Addr) (ns : List Int) (a z : Int), r ≠ c ∧ H r = some (.lst [.ref c, .int a, .int z]) ∧
    H c = some (.lst (ns.map V.int)) ∧ ns.length ≤ 60 ∧ 0 ≤ a ∧ a ≤ n ∧ 0 ≤ z
theorem Rid.mono {r : Addr} {n m : Nat} {H : Hp} (h : Rid r n H) (l : n ≤ m) : Rid r m H := by
  obtain ⟨c, ns, a, z, h1, h2, h3, h4, h5, h6, h7⟩ := h.ex
  exact ⟨c, ns, a, z, h1, h2, h3, h4, h5, by omega, h7⟩
theorem Rid.same {r : Addr} {n : Nat} {H H' : Hp} (h : Rid r n H) (s : Same H H') : Rid r n H' := by
  obtain ⟨c, ns, a, z, h1, h2, h3, h4⟩ := h.ex
  exact ⟨c, ns, a, z, h1, s _ _ h2, s _ _ h3, h4⟩
theorem Rid.new {r p : Addr} {n : Nat} {H : Hp} {o : HO} (h : Rid r n H) (hp : H p = none) : Rid r n (upd H p o) := h.same (Same.new hp)
/-- as Rid, and neither list of it is D -/
structure RidN (D r : Addr) (n : Nat) (H : Hp) : Prop where
  rid : Rid r n H
  ne : D ≠ r
  off : ∀ c t, H r = some (.lst (.ref c :: t)) → c ≠ D
theorem Rid.newN {D r : Addr} {n : Nat} {H : Hp} {o : HO} (h : Rid r n H) (hD : H D = none) : RidN D r n (upd H D o) := by
  obtain ⟨c, ns, a, z, h1, h2, h3, h4⟩ := h.ex
  have n1 : r ≠ D := ne_of_none h2 hD
  refine ⟨h.new hD, n1.symm, fun c' t e => ?_⟩
  rw [upd_ne n1, h2] at e
  cases e
  exact ne_of_none h3 hD
theorem RidN.gr {D r : Addr} {n m : Nat} {H H' : Hp} (h : RidN D r n H) (g : Gr r H H') (k : Rid r m H') : RidN D r m H' := by
  refine ⟨k, h.ne, fun c t e => ?_⟩
  obtain ⟨c0, ns, a, z, h1, h2, h3, h4⟩ := h.rid.ex
  obtain ⟨t', e'⟩ := g.own _ _ h2
  rw [e'] at e
  cases e
  exact h.off _ _ h2
theorem RidN.put {D r : Addr} {n : Nat} {H : Hp} {o : HO} (h : RidN D r n H) : RidN D r n (upd H D o) := by
  obtain ⟨c, ns, a, z, h1, h2, h3, h4⟩ := h.rid.ex
  have n1 : r ≠ D := h.ne.symm
  refine ⟨⟨c, ns, a, z, h1, (upd_ne n1).trans h2, (upd_ne (h.off _ _ h2)).trans h3, h4⟩, h.ne, fun c' t e => ?_⟩
  rw [upd_ne n1] at e
  exact h.off _ _ e
theorem RidN.same {D r : Addr} {n : Nat} {H H' : Hp} (h : RidN D r n H) (s : Same H H') : RidN D r n H' := h.gr (Gr.same s) (h.rid.same s)
def spDraw : Sp := fun vs H Q _ => ∃ (r : Addr) (n : Nat) (many : Int), vs = [.ref r, .int many] ∧ Rid r n H ∧ n < 1000000 ∧
  0 < many ∧ many < 1073741824 ∧ ∀ H' v, Gr r H H' → Rid r (n + 1) H' → 0 ≤ v → v < many → Q (.int v) H'
def spPick : Sp := fun vs H Q _ => ∃ (r l : Addr) (n : Nat) (xs : List V), vs = [.ref r, .ref l] ∧ Rid r n H ∧ n < 1000000 ∧
  l ≠ r ∧ H l = some (.lst xs) ∧ 0 < xs.length ∧ xs.length < 1000 ∧ ∀ H' v, Gr r H H' → Rid r (n + 1) H' → v ∈ xs → Q v H'
end Nd

namespace Nd
open PySem PySem.Spec PyProof.Rows L2
theorem dpInts {K : PySem.W.Frag} {H : Hp} : ∀ ns : List Int, DpAll K H (ns.map V.int) (ns.map PyData.int)
  | [] => .nil
  | n :: ns => .cons (.int n) (dpInts ns)
theorem canInts : ∀ ns : List Int, PyData.canLayAll0 (ns.map PyData.int) = true
  | [] => by simp only [List.map_nil, PyData.canLayAll0]
  | n :: ns => by simp only [List.map_cons, PyData.canLayAll0, PyData.canLay0, canInts ns, Bool.and_self]
theorem depInts : ∀ ns : List Int, PyData.depthAll (ns.map PyData.int) = 0
  | [] => by simp only [List.map_nil, PyData.depthAll]
  | n :: ns => by simp only [List.map_cons, PyData.depthAll, PyData.depth, depInts ns, Nat.max_self]
theorem shInts (ns : List Int) : SeqAt.shaped (.list (ns.map PyData.int)) = true := by
  simp [SeqAt.shaped, PyData.canLay0, PyData.depth, canInts ns, depInts ns]
theorem shNil : SeqAt.shaped (.list []) = true := by
  simp [SeqAt.shaped, PyData.canLay0, PyData.depth, PyData.canLayAll0, PyData.depthAll]
theorem eqvNil (ns : List Int) : PyData.eqv (.list (ns.map PyData.int)) (.list []) = ns.isEmpty := by
  cases ns with
  | nil => simp only [List.map_nil, PyData.eqv, PyData.eqvAll, List.isEmpty_nil]
  | cons n ns => simp only [List.map_cons, PyData.eqv, PyData.eqvAll, List.isEmpty_cons]
theorem atInts {ns : List Int} {i : Int} (h0 : 0 ≤ i) (h1 : i < ns.length) : ∃ v, ns[i.toNat]? = some v ∧ atI (ns.map V.int) i = some (V.int v) := by
  obtain ⟨j, rfl⟩ := Int.eq_ofNat_of_zero_le h0
  have hj : j < ns.length := by omega
  refine ⟨ns[j], by simp [hj], ?_⟩
  exact atI_nat (by simp [hj])
theorem mixBig {u a k l m : Int} (u0 : 0 ≤ u) (u1 : u < 2147483648) (a0 : 0 ≤ a) (a1 : a ≤ 1000000) (k0 : 0 ≤ k) (k1 : k < 1000000)
    (l0 : 0 ≤ l) (l1 : l < 1000000) (m0 : 0 ≤ m) (m1 : m < 1000000) : (u * (2 * a + k) + l * a * a + m).natAbs < 2 ^ 64 := by
  have h1 : u * (2 * a + k) ≤ 2147483648 * 3000000 := Int.mul_le_mul (by omega) (by omega) (by omega) (by omega)
  have h2 : l * a ≤ 1000000 * 1000000 := Int.mul_le_mul (by omega) (by omega) (by omega) (by omega)
  have h3 : 0 ≤ l * a := Int.mul_nonneg l0 a0
  have h4 : l * a * a ≤ 1000000000000 * 1000000 := Int.mul_le_mul (by omega) (by omega) (by omega) (by omega)
  have h5 : 0 ≤ u * (2 * a + k) := Int.mul_nonneg u0 (by omega)
  have h6 : 0 ≤ l * a * a := Int.mul_nonneg h3 a0
  omega
def spRiddle (K : PySem.W.Frag) : Sp := fun vs H Q _ => ∃ (a : Addr) (ns : List Int), vs = [.ref a] ∧ SqL K H a (ns.map V.int) ∧ ns.length ≤ 63 ∧
  ∀ H' r, Same H H' → H r = none → Rid r 0 H' → Q (.ref r) H'
end Nd


namespace Nd
open PySem PySem.Spec PyProof.Rows L2
/-! ### readings, a step each -/
theorem k_seq {t u : TS} {nx bk ct : L2.St → Hp → Prop} {rt : VK} {σ : L2.St} {H : Hp} (h : t (Ends.mk (u (Ends.mk nx rt bk ct)) rt bk ct) σ H) :
    tSeq t u (Ends.mk nx rt bk ct) σ H := h
theorem k_next {nx bk ct : L2.St → Hp → Prop} {rt : VK} {σ : L2.St} {H : Hp} (h : nx σ H) :
    tNext (Ends.mk nx rt bk ct) σ H := h
theorem k_brk {nx bk ct : L2.St → Hp → Prop} {rt : VK} {σ : L2.St} {H : Hp} (h : bk σ H) :
    tBreak (Ends.mk nx rt bk ct) σ H := h
theorem k_cont {nx bk ct : L2.St → Hp → Prop} {rt : VK} {σ : L2.St} {H : Hp} (h : ct σ H) :
    tCont (Ends.mk nx rt bk ct) σ H := h
theorem k_drop {te : TE} {nx bk ct : L2.St → Hp → Prop} {rt : VK} {σ : L2.St} {H : Hp} (h : te σ H fun _ H1 => nx σ H1) :
    tDrop te (Ends.mk nx rt bk ct) σ H := h
theorem k_ret {te : TE} {nx bk ct : L2.St → Hp → Prop} {rt : VK} {σ : L2.St} {H : Hp} (h : te σ H rt) :
    tRet te (Ends.mk nx rt bk ct) σ H := h
theorem k_retN {nx bk ct : L2.St → Hp → Prop} {rt : VK} {σ : L2.St} {H : Hp} (h : rt .non H) :
    tRetN (Ends.mk nx rt bk ct) σ H := h
theorem k_if {c : TT} {t u : TS} {D : Ends} {σ : L2.St} {H : Hp} (h : c σ H fun b H1 => if b = true then t D σ H1 else u D σ H1) :
    tIfS c t u D σ H := h
theorem k_asg {te : TE} {g : TG} {nx bk ct : L2.St → Hp → Prop} {rt : VK} {σ : L2.St} {H : Hp} (h : te σ H fun x H1 => g x σ H1 nx) :
    tAsg te g (Ends.mk nx rt bk ct) σ H := h
theorem k_gname {i : Nat} {v : V} {σ : L2.St} {H : Hp} {Q : L2.St → Hp → Prop} (h : Q (σ.set i (some v)) H) :
    gName i v σ H Q := h
theorem k_gsub {to ti : TE} {t : TSet} {v : V} {σ : L2.St} {H : Hp} {Q : L2.St → Hp → Prop} (h : to σ H fun o H1 => ti σ H1 fun i H2 => t o i v H2 fun H3 => Q σ H3) :
    gSub to ti t v σ H Q := h
theorem k_gtup {K : PySem.W.Frag} {n : Nat} {t : TGs} {a : Addr} {xs : List V} {σ : L2.St} {H : Hp} {Q : L2.St → Hp → Prop} (h1 : SqT K H a xs) (h2 : xs.length = n) (h : t xs σ H Q) :
    gTup K n t (.ref a) σ H Q := ⟨a, xs, rfl, h1, h2, h⟩
theorem k_gunl {K : PySem.W.Frag} {n : Nat} {t : TGs} {a : Addr} {xs : List V} {σ : L2.St} {H : Hp} {Q : L2.St → Hp → Prop} (h1 : SqL K H a xs) (h2 : xs.length = n) (h : t xs σ H Q) :
    gUnl K n t (.ref a) σ H Q := ⟨a, xs, rfl, h1, h2, h⟩
theorem k_gcons {t : TG} {u : TGs} {v : V} {vs : List V} {σ : L2.St} {H : Hp} {Q : L2.St → Hp → Prop} (h : t v σ H fun σ1 H1 => u vs σ1 H1 Q) :
    gCons t u (v :: vs) σ H Q := ⟨v, vs, rfl, h⟩
theorem k_gnil {σ : L2.St} {H : Hp} {Q : L2.St → Hp → Prop} (h : Q σ H) :
    gNil [] σ H Q := ⟨rfl, h⟩
theorem k_par {i j : Nat} {ta : TA} {nx bk ct : L2.St → Hp → Prop} {rt : VK} {σ : L2.St} {H : Hp} (h : ta σ H fun vs H1 => ∃ v w, vs = [v, w] ∧ nx ((σ.set i (some v)).set j (some w)) H1) :
    tPar i j ta (Ends.mk nx rt bk ct) σ H := h
theorem k_par3 {i j l : Nat} {ta : TA} {nx bk ct : L2.St → Hp → Prop} {rt : VK} {σ : L2.St} {H : Hp} (h : ta σ H fun vs H1 => ∃ u v w, vs = [u, v, w] ∧ nx (((σ.set i (some u)).set j (some v)).set l (some w)) H1) :
    tPar3 i j l ta (Ends.mk nx rt bk ct) σ H := h
theorem k_aug {i : Nat} {te : TE} {ti : TIp} {x : V} {nx bk ct : L2.St → Hp → Prop} {rt : VK} {σ : L2.St} {H : Hp} (hx : σ[i]? = some (some x)) (h : te σ H fun y H1 => ti x y H1 fun z H2 => nx (σ.set i (some z)) H2) :
    tAug i te ti (Ends.mk nx rt bk ct) σ H := ⟨x, hx, h⟩
theorem k_var {i : Nat} {v : V} {σ : L2.St} {H : Hp} {Q : VK} (h : σ[i]? = some (some v)) (q : Q v H) :
    tVar i σ H Q := ⟨v, h, q⟩
theorem k_c {v : V} {σ : L2.St} {H : Hp} {Q : VK} (q : Q v H) :
    tC v σ H Q := q
theorem k_op {r : R2} {ta tb : TE} {σ : L2.St} {H : Hp} {Q : VK} (h : ta σ H fun x H1 => tb σ H1 fun y H2 => r x y H2 Q) :
    tOp r ta tb σ H Q := h
theorem k_un {r : V → Hp → VK → Prop} {ta : TE} {σ : L2.St} {H : Hp} {Q : VK} (h : ta σ H fun x H1 => r x H1 Q) :
    tUn r ta σ H Q := h
theorem k_I0 {g : Int → Int → V} {i j : Int} {H : Hp} {Q : VK} (h : Q (g i j) H) :
    rI0 g (.int i) (.int j) H Q := ⟨i, j, rfl, rfl, h⟩
theorem k_I {C : Int → Int → Prop} {g : Int → Int → V} {i j : Int} {H : Hp} {Q : VK} (c : C i j) (h : Q (g i j) H) :
    rI C g (.int i) (.int j) H Q := ⟨i, j, rfl, rfl, c, h⟩
theorem k_U {g : Int → V} {i : Int} {H : Hp} {Q : VK} (h : Q (g i) H) :
    rU g (.int i) H Q := ⟨i, rfl, h⟩
theorem k_eq {x y : V} {H : Hp} {Q : VK} (c : scal x y = true) (h : Q (.bl (decide (x = y))) H) :
    rEq x y H Q := ⟨c, h⟩
theorem k_ne {x y : V} {H : Hp} {Q : VK} (c : scal x y = true) (h : Q (.bl (!decide (x = y))) H) :
    rNe x y H Q := ⟨c, h⟩
theorem k_cb {r : List V → Hp → VK → Prop} {t : TA} {σ : L2.St} {H : Hp} {Q : VK} (h : t σ H fun vs H1 => r vs H1 Q) :
    tCB r t σ H Q := h
theorem k_call {sp : Sp} {dvs : List V} {E : XK} {t : TA} {σ : L2.St} {H : Hp} {Q : VK} (h : t σ H fun vs H1 => sp (vs ++ dvs) H1 Q E) :
    tCall sp dvs E t σ H Q := h
theorem k_nil {σ : L2.St} {H : Hp} {Q : List V → Hp → Prop} (h : Q [] H) :
    tNil σ H Q := h
theorem k_cons {ta : TE} {tr : TA} {σ : L2.St} {H : Hp} {Q : List V → Hp → Prop} (h : ta σ H fun x H1 => tr σ H1 fun xs H2 => Q (x :: xs) H2) :
    tCons ta tr σ H Q := h
theorem k_tup {t : TA} {σ : L2.St} {H : Hp} {Q : VK} (h : t σ H fun xs H1 => xs.length ≤ sizeLine ∧ ∀ p, H1 p = none → Q (.ref p) (upd H1 p (.tup xs))) :
    tTup t σ H Q := h
theorem k_lst {t : TA} {σ : L2.St} {H : Hp} {Q : VK} (h : t σ H fun xs H1 => xs.length ≤ sizeLine ∧ ∀ p, H1 p = none → Q (.ref p) (upd H1 p (.lst xs))) :
    tLst t σ H Q := h
theorem k_ife {t : TT} {ta tb : TE} {σ : L2.St} {H : Hp} {Q : VK} (h : t σ H fun c H1 => if c = true then ta σ H1 Q else tb σ H1 Q) :
    tIf t ta tb σ H Q := h
theorem k_andV {ta tb : TE} {σ : L2.St} {H : Hp} {Q : VK} (h : ta σ H fun x H1 => ∃ c, x = .bl c ∧ if c = true then tb σ H1 Q else Q (.bl false) H1) :
    tAndV ta tb σ H Q := h
theorem k_orV {ta tb : TE} {σ : L2.St} {H : Hp} {Q : VK} (h : ta σ H fun x H1 => ∃ c, x = .bl c ∧ if c = true then Q (.bl true) H1 else tb σ H1 Q) :
    tOrV ta tb σ H Q := h
theorem k_notV {ta : TE} {σ : L2.St} {H : Hp} {Q : VK} (h : ta σ H fun x H1 => ∃ c, x = .bl c ∧ Q (.bl (!c)) H1) :
    tNotV ta σ H Q := h
theorem k_tB {t : TE} {σ : L2.St} {H : Hp} {Q : Bool → Hp → Prop} (h : t σ H fun x H1 => ∃ c, x = .bl c ∧ Q c H1) :
    tB t σ H Q := h
theorem k_test {t : TE} {σ : L2.St} {H : Hp} {Q : Bool → Hp → Prop} (h : t σ H fun x H1 => ∃ c, x = .bl c ∧ Q c H1) :
    tTest t σ H Q := h
theorem k_tAnd {t u : TT} {σ : L2.St} {H : Hp} {Q : Bool → Hp → Prop} (h : t σ H fun c H1 => if c = true then u σ H1 Q else Q false H1) :
    tAnd t u σ H Q := h
theorem k_tOr {t u : TT} {σ : L2.St} {H : Hp} {Q : Bool → Hp → Prop} (h : t σ H fun c H1 => if c = true then Q true H1 else u σ H1 Q) :
    tOr t u σ H Q := h
theorem k_tNot {t : TT} {σ : L2.St} {H : Hp} {Q : Bool → Hp → Prop} (h : t σ H fun c H1 => Q (!c) H1) :
    tNot t σ H Q := h
theorem k_tYes {σ : L2.St} {H : Hp} {Q : Bool → Hp → Prop} (h : Q true H) :
    tYes σ H Q := h
theorem k_ixL {K : PySem.W.Frag} {p : Addr} {xs : List V} {i : Int} {v : V} {H : Hp} {Q : VK} (h : SqL K H p xs) (ha : atI xs i = some v) (q : Q v H) :
    rIxL K (.ref p) (.int i) H Q := ⟨p, xs, i, v, rfl, rfl, h, ha, q⟩
theorem k_ixT {K : PySem.W.Frag} {p : Addr} {xs : List V} {i : Int} {v : V} {H : Hp} {Q : VK} (h : SqT K H p xs) (ha : atI xs i = some v) (q : Q v H) :
    rIxT K (.ref p) (.int i) H Q := ⟨p, xs, i, v, rfl, rfl, h, ha, q⟩
theorem k_setL {p : Addr} {xs : List V} {k : Int} {j : Nat} {v : V} {H : Hp} {Q : Hp → Prop} (h : H p = some (.lst xs)) (hj : ixN xs.length k = some j) (q : Q (upd H p (.lst (xs.set j v)))) :
    rSetL (.ref p) (.int k) v H Q := ⟨p, xs, k, j, rfl, rfl, h, hj, q⟩
theorem k_sl {r : V → Option Int → Option Int → Hp → VK → Prop} {te : TE} {tl th : TO} {σ : L2.St} {H : Hp} {Q : VK} (h : te σ H fun x H1 => tl σ H1 fun l H2 => th σ H2 fun u H3 => r x l u H3 Q) :
    tSl r te tl th σ H Q := h
theorem k_noPart {σ : L2.St} {H : Hp} {Q : Option Int → Hp → Prop} (h : Q none H) :
    tNoPart σ H Q := h
theorem k_part {t : TE} {σ : L2.St} {H : Hp} {Q : Option Int → Hp → Prop} (h : t σ H fun x H1 => ∃ i, x = .int i ∧ Q (some i) H1) :
    tPart t σ H Q := h
theorem k_slL {K : PySem.W.Frag} {a : Addr} {xs : List V} {lo hi : Option Int} {H : Hp} {Q : VK} (h : SqL K H a xs) (q : ∀ p, H p = none → Q (.ref p) (upd H p (.lst (cutV xs lo hi)))) :
    rSlL K (.ref a) lo hi H Q := ⟨a, xs, rfl, h, q⟩
theorem k_cat {l b : Addr} {xs zs : List V} {H : Hp} {Q : VK} (h1 : H l = some (.lst xs)) (h2 : H b = some (.lst zs)) (h3 : xs.length + zs.length ≤ sizeLine) (q : ∀ p, H p = none → Q (.ref p) (upd H p (.lst (xs ++ zs)))) :
    rCat (.ref l) (.ref b) H Q := ⟨l, b, xs, zs, rfl, rfl, h1, h2, h3, q⟩
theorem k_bm {K : PySem.W.Frag} {T : String} {r : V → List V → Hp → VK → Prop} {to : TE} {t : TA} {σ : L2.St} {H : Hp} {Q : VK} (h : to σ H fun x H1 => tyV K T x H1 ∧ t σ H1 fun xs H2 => r x xs H2 Q) :
    tBM K T r to t σ H Q := h
theorem k_app {l : Addr} {xs : List V} {y : V} {H : Hp} {Q : VK} (h : H l = some (.lst xs)) (hz : xs.length < sizeLine) (q : Q .non (upd H l (.lst (xs ++ [y])))) :
    rAppend (.ref l) [y] H Q := ⟨l, xs, y, rfl, rfl, h, hz, q⟩
theorem k_eqD {K : PySem.W.Frag} {x y : V} {d e : PyData} {H : Hp} {Q : VK} (h1 : Dp K H x d) (h2 : Dp K H y e) (s1 : SeqAt.shaped d = true) (s2 : SeqAt.shaped e = true) (q : Q (.bl (PyData.eqv d e)) H) :
    rEqD K x y H Q := ⟨d, e, h1, h2, s1, s2, q⟩
theorem k_neD {K : PySem.W.Frag} {x y : V} {d e : PyData} {H : Hp} {Q : VK} (h1 : Dp K H x d) (h2 : Dp K H y e) (s1 : SeqAt.shaped d = true) (s2 : SeqAt.shaped e = true) (q : Q (.bl (!PyData.eqv d e)) H) :
    rNeD K x y H Q := ⟨d, e, h1, h2, s1, s2, q⟩
theorem k_repr {K : PySem.W.Frag} {v : V} {d : PyData} {H : Hp} {Q : VK} (h : Dp K H v d) (h1 : d.showable = true) (h2 : d.depth ≤ 60) (h3 : d.shown.length ≤ sizeLine) (q : Q (.str d.shown) H) :
    rRepr K [v] H Q := ⟨v, d, rfl, h, h1, h2, h3, q⟩
theorem k_gcd {a b : Int} {H : Hp} {Q : VK} (q : Q (.int ((Nat.gcd a.natAbs b.natAbs : Nat) : Int)) H) :
    rGcd [.int a, .int b] H Q := ⟨a, b, rfl, q⟩
theorem k_rt {nx bk ct : L2.St → Hp → Prop} {rt : VK} {v : V} {H : Hp} (h : rt v H) :
    (Ends.mk nx rt bk ct).rt v H := h
theorem k_nx {nx bk ct : L2.St → Hp → Prop} {rt : VK} {σ : L2.St} {H : Hp} (h : nx σ H) :
    (Ends.mk nx rt bk ct).nx σ H := h
theorem k_bk {nx bk ct : L2.St → Hp → Prop} {rt : VK} {σ : L2.St} {H : Hp} (h : bk σ H) :
    (Ends.mk nx rt bk ct).bk σ H := h
theorem k_ct {nx bk ct : L2.St → Hp → Prop} {rt : VK} {σ : L2.St} {H : Hp} (h : ct σ H) :
    (Ends.mk nx rt bk ct).ct σ H := h
end Nd

namespace Nd
open PySem PySem.Spec PyProof.Rows L2
/-! ### comprehensions whose items are plain values: which turns give (f), and what (v) -/
def given (n : Nat) (f : Nat → Bool) (v : Nat → V) : List V := ((List.range n).filter f).map v
theorem given_so {n : Nat} {f : Nat → Bool} {v : Nat → V} (h : f n = true) : given (n + 1) f v = given n f v ++ [v n] := by
  simp [given, List.range_succ, List.filter_append, h]
theorem given_not {n : Nat} {f : Nat → Bool} {v : Nat → V} (h : f n = false) : given (n + 1) f v = given n f v := by
  simp [given, List.range_succ, List.filter_append, h]
theorem given_len (n : Nat) (f : Nat → Bool) (v : Nat → V) : (given n f v).length ≤ n := by
  unfold given
  rw [List.length_map]
  exact Nat.le_trans (List.length_filter_le _ _) (by rw [List.length_range]; exact Nat.le_refl _)
theorem given_all {n : Nat} {v : Nat → V} {xs : List V} (hn : xs.length = n) (h : ∀ i x, xs[i]? = some x → v i = x) : given n (fun _ => true) v = xs := by
  apply List.ext_getElem?
  intro i
  unfold given
  rw [List.filter_eq_self.mpr (by intros; rfl), List.getElem?_map]
  by_cases hi : i < n
  · rw [List.getElem?_range hi]
    have : xs[i]? = some xs[i] := by simp [hn ▸ hi]
    rw [this]
    exact congrArg some (h i _ this)
  · rw [List.getElem?_eq_none (by simpa using hi), List.getElem?_eq_none (by omega)]
    rfl
/-- D is new: what was before stays, D holds what is given so far -/
def Cw (H1 : Hp) (f : Nat → Bool) (v : Nat → V) (D : Addr) (i : Nat) (H : Hp) : Prop := Same H1 H ∧ H D = some (.lst (given i f v))
theorem cw_start {H1 : Hp} {f : Nat → Bool} {v : Nat → V} {D : Addr} (hD : H1 D = none) : Cw H1 f v D 0 (upd H1 D (.lst [])) := ⟨Same.new hD, upd_same⟩
theorem cw_step {H1 H3 H4 : Hp} {f : Nat → Bool} {v : Nat → V} {D : Addr} {i : Nat} (hD : H1 D = none) (s : Same H1 H3) (e : H3 D = some (.lst (given i f v))) (s4 : Same H3 H4)
    (hi : i ≤ 100000) (hf : f i = true) : ∃ acc, H4 D = some (.lst acc) ∧ acc.length < sizeLine ∧ Cw H1 f v D (i + 1) (upd H4 D (.lst (acc ++ [v i]))) := by
  refine ⟨given i f v, s4 _ _ e, Nat.lt_of_le_of_lt (Nat.le_trans (given_len i f v) hi) (by decide), fun b o z => ?_, ?_⟩
  · rw [upd_ne (ne_of_none z hD)]
    exact s4 _ _ (s _ _ z)
  · rw [given_so hf]
    exact upd_same
/-- the turns of a comprehension, over what J walks -/
def LcIn (J : It) (g : TG) (tt : TT) (te : TE) (vs : List Nat) (σ : L2.St) (H1 : Hp) (Q : VK) : Prop := tLc (fun _ H R => R J H) g tt te vs σ H1 Q
theorem k_lc {wi : TI} {g : TG} {tt : TT} {te : TE} {vs : List Nat} {σ : L2.St} {H : Hp} {Q : VK} (h : wi σ H fun J H1 => LcIn J g tt te vs σ H1 Q) :
    tLc wi g tt te vs σ H Q := h
theorem k_iList {K : PySem.W.Frag} {tl : TE} {σ : L2.St} {H : Hp} {R : It → Hp → Prop} (h : tl σ H fun x H1 => ∃ a, x = .ref a ∧ (∃ xs, SqL K H1 a xs) ∧ R (Itl K a) H1) :
    iList K tl σ H R := h
theorem k_iTup {K : PySem.W.Frag} {tl : TE} {σ : L2.St} {H : Hp} {R : It → Hp → Prop} (h : tl σ H fun x H1 => ∃ a, x = .ref a ∧ (∃ xs, SqT K H1 a xs) ∧ R (Itt K a) H1) :
    iTup K tl σ H R := h
theorem k_iR1 {ta : TA} {σ : L2.St} {H : Hp} {R : It → Hp → Prop} (h : ta σ H fun vs H1 => ∃ j : Int, vs = [.int j] ∧ -(2 ^ 62) ≤ j ∧ j < 2 ^ 62 ∧ R (Itr 0 j.toNat) H1) :
    iRng1 ta σ H R := h
theorem k_iR2 {ta : TA} {σ : L2.St} {H : Hp} {R : It → Hp → Prop}
    (h : ta σ H fun vs H1 => ∃ i j : Int, vs = [.int i, .int j] ∧ (-(2 ^ 62) ≤ i ∧ i < 2 ^ 62 ∧ -(2 ^ 62) ≤ j ∧ j < 2 ^ 62) ∧ R (Itr i (j - i).toNat) H1) : iRng2 ta σ H R := h
/-- one turn: the test, then the item, whatever follows -/
def Turn (tt : TT) (te : TE) (σ : L2.St) (H : Hp) (b : Bool) (y : V) : Prop :=
  (∀ QT : Bool → Hp → Prop, (∀ H3, Same H H3 → QT b H3) → tt σ H QT) ∧ (b = true → ∀ H3, Same H H3 → ∀ QE : VK, (∀ H4, Same H3 H4 → QE y H4) → te σ H3 QE)
theorem cw_turn {tt : TT} {te : TE} {σ2 σ : L2.St} {vs : List Nat} {H1 H : Hp} {f : Nat → Bool} {v : Nat → V} {D : Addr} {i : Nat} (hD : H1 D = none) (p : Cw H1 f v D i H) (hi : i ≤ 100000)
    (hw : wipe σ2 vs = wipe σ vs) (t : Turn tt te σ2 H (f i) (v i)) : wipe σ2 vs = wipe σ vs ∧ tt σ2 H fun b H3 =>
      if b = true then te σ2 H3 fun y H4 => ∃ acc, H4 D = some (.lst acc) ∧ acc.length < sizeLine ∧ Cw H1 f v D (i + 1) (upd H4 D (.lst (acc ++ [y]))) else Cw H1 f v D (i + 1) H3 := by
  refine ⟨hw, t.1 _ fun H3 s3 => ?_⟩
  cases hf : f i with
  | true =>
    rw [if_pos rfl]
    exact t.2 hf H3 s3 _ fun H4 s4 => cw_step hD (p.1.trans s3) (s3 _ _ p.2) s4 hi hf
  | false =>
    rw [if_neg (by decide)]
    refine ⟨p.1.trans s3, ?_⟩
    rw [given_not hf]
    exact s3 _ _ p.2
theorem lcIn_L {K : PySem.W.Frag} {a : Addr} {xs : List V} {j : Nat} {tt : TT} {te : TE} {vs : List Nat} {σ : L2.St} {H1 : Hp} {Q : VK} (f : Nat → Bool) (v : Nat → V)
    (hx : SqL K H1 a xs) (hz : xs.length ≤ 100000) (hw : ∀ x, wipe ((wipe σ vs).set j (some x)) vs = wipe σ vs)
    (step : ∀ i x H2, xs[i]? = some x → Same H1 H2 → Turn tt te ((wipe σ vs).set j (some x)) H2 (f i) (v i))
    (fin : ∀ p H', H1 p = none → Same H1 H' → H' p = some (.lst (given xs.length f v)) → Q (.ref p) H') : LcIn (Itl K a) (gName j) tt te vs σ H1 Q := fun D hD =>
  lc_list (xs := xs) (Cw H1 f v D) (cw_start hD) (fun i H' _ p => p.1.seq hx) (fun i x H' hi p =>
    cw_turn hD p (by have := (List.getElem?_eq_some_iff.mp hi).1; omega) (hw x) (step i x H' hi p.1)) (fun H' p => fin D H' hD p.1 p.2)
theorem Same.seqT {K : PySem.W.Frag} {H H' : Hp} {a : Addr} {xs : List V} (e : Same H H') (h : SqT K H a xs) : SqT K H' a xs := by
  rcases h with (h | ⟨o, h⟩) | h
  · exact .inl (.inl (e _ _ h))
  · exact .inl (.inr ⟨o, e _ _ h⟩)
  · exact .inr h
theorem lcIn_T {K : PySem.W.Frag} {a : Addr} {xs : List V} {j : Nat} {tt : TT} {te : TE} {vs : List Nat} {σ : L2.St} {H1 : Hp} {Q : VK} (f : Nat → Bool) (v : Nat → V)
    (hx : SqT K H1 a xs) (hz : xs.length ≤ 100000) (hw : ∀ x, wipe ((wipe σ vs).set j (some x)) vs = wipe σ vs)
    (step : ∀ i x H2, xs[i]? = some x → Same H1 H2 → Turn tt te ((wipe σ vs).set j (some x)) H2 (f i) (v i))
    (fin : ∀ p H', H1 p = none → Same H1 H' → H' p = some (.lst (given xs.length f v)) → Q (.ref p) H') : LcIn (Itt K a) (gName j) tt te vs σ H1 Q := fun D hD =>
  lc_tup (xs := xs) (Cw H1 f v D) (cw_start hD) (fun i H' _ p => Same.seqT p.1 hx) (fun i x H' hi p =>
    cw_turn hD p (by have := (List.getElem?_eq_some_iff.mp hi).1; omega) (hw x) (step i x H' hi p.1)) (fun H' p => fin D H' hD p.1 p.2)
theorem lcIn_R {lo : Int} {n : Nat} {j : Nat} {tt : TT} {te : TE} {vs : List Nat} {σ : L2.St} {H1 : Hp} {Q : VK} (f : Nat → Bool) (v : Nat → V)
    (hz : n ≤ 100000) (hw : ∀ x, wipe ((wipe σ vs).set j (some x)) vs = wipe σ vs)
    (step : ∀ i H2, i < n → Same H1 H2 → Turn tt te ((wipe σ vs).set j (some (.int (lo + i)))) H2 (f i) (v i))
    (fin : ∀ p H', H1 p = none → Same H1 H' → H' p = some (.lst (given n f v)) → Q (.ref p) H') : LcIn (Itr lo n) (gName j) tt te vs σ H1 Q := fun D hD =>
  lc_range (lo := lo) (n := n) (Cw H1 f v D) (cw_start hD) (fun i H' hi p => cw_turn hD p (by omega) (hw _) (step i H' hi p.1)) (fun H' p => fin D H' hD p.1 p.2)
theorem k_new {H : Hp} {o : HO} {Q : Addr → Hp → Prop} (h : ∀ p H', H p = none → Same H H' → H' p = some o → Q p H') : ∀ p, H p = none → Q p (upd H p o) :=
  fun p hp => h p _ hp (Same.new hp) upd_same
theorem k_while {c : TT} {tb : TS} {nx bk ct : L2.St → Hp → Prop} {rt : VK} {σ : L2.St} {H : Hp} (W : Nat → L2.St → Hp → Prop) (m0 : Nat) (h0 : W m0 σ H)
    (hs : ∀ m σ H, W m σ H → c σ H fun b H1 => if b = true then ∃ N : L2.St → Hp → Prop, (∀ σ' H', N σ' H' → ∃ m', m' < m ∧ W m' σ' H') ∧
      tb (Ends.mk N rt nx N) σ H1 else nx σ H1) : tWhile c tb (Ends.mk nx rt bk ct) σ H := ⟨W, ⟨m0, h0⟩, hs⟩
theorem upd_facts {H H' : Hp} {p : Addr} {o : HO} (e : upd H p o = H') (h : H p = none) : Same H H' ∧ H' p = some o := e ▸ ⟨Same.new h, upd_same⟩
theorem Rid.ne {r p : Addr} {n : Nat} {H : Hp} (R : Rid r n H) (h : H p = none) : p ≠ r := by
  obtain ⟨c, ns, a, z, _, h2, _⟩ := R.ex
  exact fun e => by rw [e, h2] at h; cases h
/-- new for a heap is new for what it came from -/
theorem Gr.ne {r p : Addr} {H H' : Hp} {a : Addr} {o : HO} (g : Gr r H H') (n : a ≠ r) (e : H a = some o) (h : H' p = none) : a ≠ p := fun z => by
  rw [← z, g _ _ n e] at h
  cases h
theorem k_disp1 {i j : Nat} {k : Int} {v : V} {σ : L2.St} {H : Hp} {Q : VK} (h1 : σ[i]? = some (some (.int k))) (h2 : σ[j]? = some (some v))
    (q : ∀ p H', H p = none → Same H H' → H' p = some (.dK [(.inl k, v)]) → Q (.ref p) H') : tDisp [(tVar i, tVar j)] σ H Q := fun p hp => by
  refine ⟨_, h1, _, h2, ?_⟩
  refine ⟨upd_same, [(.inl k, v)], rfl, by simp, ?_⟩
  refine q p _ hp ?_ upd_same
  rw [upd_upd]
  exact Same.new hp
end Nd

namespace Nd
open PySem PySem.Spec PyProof.Rows L2
/-! ### data that stands apart from r -/
def keyD : Key → PyData
  | .inl i => .int i
  | .inr x => .str x
mutual
inductive Dr (r : Addr) (H : Hp) : V → PyData → Prop
  | non : Dr r H .non .none
  | bl (b : Bool) : Dr r H (.bl b) (.bool b)
  | int (i : Int) : Dr r H (.int i) (.int i)
  | str (x : Str) : Dr r H (.str x) (.str x)
  | lst {a : Addr} {xs : List V} {ds : List PyData} : a ≠ r → H a = some (.lst xs) → DrAll r H xs ds → Dr r H (.ref a) (.list ds)
  | tup {a : Addr} {xs : List V} {ds : List PyData} : a ≠ r → H a = some (.tup xs) → DrAll r H xs ds → Dr r H (.ref a) (.tuple ds)
  | dct {a : Addr} {kvs : List (Key × V)} {ds : List PyData} : a ≠ r → H a = some (.dK kvs) → DrAll r H (kvs.map (·.2)) ds →
      Dr r H (.ref a) (.dict ((kvs.map fun kv => keyD kv.1).zip ds))
inductive DrAll (r : Addr) (H : Hp) : List V → List PyData → Prop
  | nil : DrAll r H [] []
  | cons {v : V} {vs : List V} {d : PyData} {ds : List PyData} : Dr r H v d → DrAll r H vs ds → DrAll r H (v :: vs) (d :: ds)
end
mutual
theorem Dr.gr {r : Addr} {H H' : Hp} (g : Gr r H H') : ∀ {v : V} {d : PyData}, Dr r H v d → Dr r H' v d
  | _, _, .non => .non
  | _, _, .bl b => .bl b
  | _, _, .int i => .int i
  | _, _, .str x => .str x
  | _, _, .lst n e h => .lst n (g _ _ n e) (DrAll.gr g h)
  | _, _, .tup n e h => .tup n (g _ _ n e) (DrAll.gr g h)
  | _, _, .dct n e h => .dct n (g _ _ n e) (DrAll.gr g h)
theorem DrAll.gr {r : Addr} {H H' : Hp} (g : Gr r H H') : ∀ {vs : List V} {ds : List PyData}, DrAll r H vs ds → DrAll r H' vs ds
  | _, _, .nil => .nil
  | _, _, .cons h t => .cons (Dr.gr g h) (DrAll.gr g t)
end
theorem Dr.same {r : Addr} {H H' : Hp} (s : Same H H') {v : V} {d : PyData} (h : Dr r H v d) : Dr r H' v d := h.gr (Gr.same s)
theorem DrAll.same {r : Addr} {H H' : Hp} (s : Same H H') {v : List V} {d : List PyData} (h : DrAll r H v d) : DrAll r H' v d := h.gr (Gr.same s)
theorem DrAll.length {r : Addr} {H : Hp} : ∀ {vs : List V} {ds : List PyData}, DrAll r H vs ds → vs.length = ds.length
  | _, _, .nil => rfl
  | _, _, .cons _ t => congrArg (· + 1) (DrAll.length t)
theorem DrAll.get {r : Addr} {H : Hp} : ∀ {vs : List V} {ds : List PyData} {i : Nat} {v : V}, DrAll r H vs ds → vs[i]? = some v → ∃ d, ds[i]? = some d ∧ Dr r H v d
  | _, _, 0, _, .cons h _, e => by cases e; exact ⟨_, rfl, h⟩
  | _, _, i + 1, _, .cons _ t, e => DrAll.get (i := i) t e
  | _, _, 0, _, .nil, e => nomatch e
  | _, _, _ + 1, _, .nil, e => nomatch e
theorem DrAll.mem {r : Addr} {H : Hp} : ∀ {vs : List V} {ds : List PyData} {v : V}, DrAll r H vs ds → v ∈ vs → ∃ d, d ∈ ds ∧ Dr r H v d
  | _, _, _, .nil, e => nomatch e
  | _, _, _, .cons h t, e => by
    rcases List.mem_cons.mp e with rfl | e
    · exact ⟨_, List.mem_cons_self, h⟩
    · obtain ⟨d, m, h2⟩ := DrAll.mem t e
      exact ⟨d, List.mem_cons_of_mem _ m, h2⟩
mutual
theorem Dr.dp {r : Addr} {H : Hp} {K : PySem.W.Frag} : ∀ {v : V} {d : PyData}, Dr r H v d → d.hasDict = false → Dp K H v d
  | _, _, .non, _ => .non
  | _, _, .bl b, _ => .bl b
  | _, _, .int i, _ => .int i
  | _, _, .str x, _ => .str x
  | _, _, .lst _ e h, z => .lst (.inl (.inl e)) (DrAll.dp h (by simpa [PyData.hasDict] using z))
  | _, _, .tup _ e h, z => .tup (.inl (.inl e)) (DrAll.dp h (by simpa [PyData.hasDict] using z))
  | _, _, .dct _ _ _, z => by simp [PyData.hasDict] at z
theorem DrAll.dp {r : Addr} {H : Hp} {K : PySem.W.Frag} : ∀ {vs : List V} {ds : List PyData}, DrAll r H vs ds → PyData.hasDictAll ds = false → DpAll K H vs ds
  | _, _, .nil, _ => .nil
  | _, _, .cons h t, z => by
    simp only [PyData.hasDictAll, Bool.or_eq_false_iff] at z
    exact .cons (Dr.dp h z.1) (DrAll.dp t z.2)
end
/-! ### types -/
def tyD : PyData → String
  | .none => "NoneType"
  | .bool _ => "bool"
  | .int _ => "int"
  | .str _ => "str"
  | .list _ => "list"
  | .tuple _ => "tuple"
  | .dict _ => "dict"
theorem Dr.ty {r : Addr} {H : Hp} {K : PySem.W.Frag} {v : V} {d : PyData} (h : Dr r H v d) : TyX K H v (.type (tyD d)) := by
  cases h with
  | non => exact .base .non
  | bl b => exact .base (.bl b)
  | int i => exact .base (.int i)
  | str x => exact .base (.str x)
  | lst n e _ => exact .base (.lst e)
  | tup n e _ => exact .base (.tup e)
  | dct n e _ => exact .base (.dK e)
def isD (c : String) (d : PyData) : Bool := tyD d == c || (c == "int" && tyD d == "bool")
def cls6 : List String := ["int", "bool", "str", "list", "tuple", "dict"]
def tys7 : List String := ["NoneType", "bool", "int", "str", "list", "tuple", "dict"]
theorem kit42 : (tys7.all fun t => cls6.all fun c => decide (kitB t c = some (t == c || (c == "int" && t == "bool")))) = true := by decide +kernel
theorem kitD {K : PySem.W.Frag} {c : String} (d : PyData) (hc : c ∈ cls6) : PySem.W.kitOne K (.type (tyD d)) (.type c) = some (isD c d) := by
  have h := List.all_eq_true.mp kit42 (tyD d) (by cases d <;> simp [tyD, tys7])
  exact kit_ty (of_decide_eq_true (List.all_eq_true.mp h c hc))
theorem k_isi {r : Addr} {K : PySem.W.Frag} {H : Hp} {v : V} {d : PyData} {c : String} {Q : VK} (h : Dr r H v d) (hc : c ∈ cls6) (q : Q (.bl (isD c d)) H) : rIsi K [v, .ty c] H Q :=
  ⟨v, .ty c, _, _, _, rfl, .ty c, h.ty, kitD d hc, q⟩
theorem k_isi2 {r p : Addr} {K : PySem.W.Frag} {H : Hp} {v : V} {d : PyData} {c e : String} {Q : VK} (h : Dr r H v d) (hp : H p = some (.tup [.ty c, .ty e])) (hc : c ∈ cls6) (he : e ∈ cls6)
    (q : Q (.bl (isD c d || isD e d)) H) : rIsiT K [v, .ref p] H Q := by
  refine ⟨v, p, _, _, _, _, rfl, hp, .cons (.ty c) (.cons (.ty e) .nil), h.ty, ?_, q⟩
  refine kitAny_cons (kitD d hc) (fun z => ?_) (fun z => by rw [z]; rfl)
  rw [z, Bool.false_or]
  exact kitAny_cons (kitD d he) (fun z => by rw [z]; exact kitAny_nil) (fun z => z)
/-! ### == of any list with an empty one; is not True -/
def rEqNil (K : PySem.W.Frag) : R2 := fun x y H Q => ∃ a b xs, x = .ref a ∧ y = .ref b ∧ SqL K H a xs ∧ SqL K H b [] ∧ Q (.bl xs.isEmpty) H
theorem op_eqNil {X : Cx} (hu : X.A.units + 64 < cLine) : OpR X (compareOp .Eq) (rEqNil X.K) := by
  intro pins s σ H x y v u Q I rx ry h
  obtain ⟨a, b, xs, rfl, rfl, ha, hb, q⟩ := h
  cases xs with
  | nil => exact op_eqD hu pins s σ H _ _ v u Q I rx ry ⟨_, _, .lst ha .nil, .lst hb .nil, shNil, shNil, by simpa [PyData.eqv, PyData.eqvAll] using q⟩
  | cons z zs =>
    cases rx
    cases ry
    obtain ⟨i1, r1, l1, _⟩ := I.list ha
    obtain ⟨i2, r2, l2, _⟩ := I.list hb
    cases r2
    cases r1
    exact SeqAt.eq_list_lengthsAt l1.isList l2.isList (by simp) (by omega) ⟨.bl false, H, I, rfl, q⟩
theorem k_eqNil {K : PySem.W.Frag} {a b : Addr} {xs : List V} {H : Hp} {Q : VK} (ha : SqL K H a xs) (hb : SqL K H b []) (q : Q (.bl xs.isEmpty) H) : rEqNil K (.ref a) (.ref b) H Q := ⟨a, b, xs, rfl, rfl, ha, hb, q⟩
def rNotBl : R2 := fun x y H Q => ∃ b : Bool, y = .bl b ∧ ((∃ i, x = .int i ∧ Q (.bl true) H) ∨ ∃ c, x = .bl c ∧ Q (.bl (!decide (c = b))) H)
theorem op_notBl2 {X : Cx} : OpR X (compareOp .IsNot) rNotBl := by
  intro pins s σ H x y v u Q I rx ry h
  obtain ⟨b, rfl, h⟩ := h
  cases ry
  rcases h with ⟨i, rfl, q⟩ | ⟨c, rfl, q⟩
  · obtain ⟨t, rfl⟩ := rx
    exact wpAny_isNot_other (by rfl) (fun e => nomatch e) ⟨.bl true, H, I, rfl, q⟩
  · cases rx
    by_cases e : c = b
    · subst e
      exact wpAny_isNot_self (by cases c <;> rfl) ⟨.bl false, H, I, rfl, by simpa using q⟩
    · exact wpAny_isNot_other (by cases c <;> rfl) (fun z => e (by injection z)) ⟨.bl true, H, I, rfl, by simpa [e] using q⟩
/-! ### what the program's own looks say of data -/
def ndInt : PyData → Bool
  | .int _ => true
  | _ => false
def itemsD : PyData → Option (List PyData)
  | .list xs => some xs
  | .tuple xs => some xs
  | _ => none
def areIntsD (d : PyData) (k : Int) : Bool := match itemsD d with
  | some xs => decide ((xs.length : Int) = k) && xs.all ndInt
  | none => false
def fracD (d : PyData) : Bool := match itemsD d with
  | some [.int u, .int w] => decide (0 < w) && decide (Nat.gcd u.natAbs w.natAbs = 1)
  | _ => false
def lowD (i : Int) : Option Int → Bool
  | none => true
  | some x => decide (x ≤ i)
def highD (i : Int) : Option Int → Bool
  | none => true
  | some x => decide (i ≤ x)
def withinD (d : PyData) (l m : Option Int) : Bool := match d with
  | .int i => lowD i l && highD i m
  | _ => false
def optV : Option Int → V
  | none => .non
  | some i => .int i
theorem isInt_eq (d : PyData) : (isD "int" d && !isD "bool" d) = ndInt d := by cases d <;> rfl
def spIsInt : Sp := fun vs H Q _ => ∃ (r : Addr) (v : V) (d : PyData), vs = [v] ∧ Dr r H v d ∧ ∀ H', Same H H' → Q (.bl (ndInt d)) H'
def spWithin : Sp := fun vs H Q _ => ∃ (r : Addr) (v : V) (d : PyData) (l m : Option Int), vs = [v, optV l, optV m] ∧ Dr r H v d ∧ ∀ H', Same H H' → Q (.bl (withinD d l m)) H'
def spAreInts : Sp := fun vs H Q _ => ∃ (r : Addr) (v : V) (d : PyData) (k : Int), vs = [v, .int k] ∧ Dr r H v d ∧ (∀ xs, itemsD d = some xs → xs.length ≤ 1000) ∧ ∀ H', Same H H' → Q (.bl (areIntsD d k)) H'
def spFrac : Sp := fun vs H Q _ => ∃ (r : Addr) (v : V) (d : PyData), vs = [v] ∧ Dr r H v d ∧ (∀ xs, itemsD d = some xs → xs.length ≤ 1000) ∧ ∀ H', Same H H' → Q (.bl (fracD d)) H'
theorem ndInt_int : ∀ {d : PyData}, ndInt d = true → ∃ i, d = .int i
  | .int i, _ => ⟨i, rfl⟩
theorem two_ints {d : PyData} (h : areIntsD d 2 = true) : ∃ u z, itemsD d = some [.int u, .int z] := by
  unfold areIntsD at h
  cases hi : itemsD d with
  | none => rw [hi] at h; cases h
  | some xs =>
    rw [hi] at h
    simp only [Bool.and_eq_true, decide_eq_true_eq] at h
    obtain ⟨h1, h2⟩ := h
    match xs, h1, h2 with
    | [x, y], _, h2 =>
      simp only [List.all_cons, List.all_nil, Bool.and_true, Bool.and_eq_true] at h2
      obtain ⟨i, rfl⟩ := ndInt_int h2.1
      obtain ⟨j, rfl⟩ := ndInt_int h2.2
      exact ⟨i, j, rfl⟩
    | [], h1, _ => exact absurd h1 (by decide)
    | [_], h1, _ => exact absurd h1 (by simp)
    | _ :: _ :: _ :: _, h1, _ =>
      simp only [List.length_cons] at h1
      omega
theorem frac_of {d : PyData} (h : fracD d = true) : ∃ u z, itemsD d = some [.int u, .int z] := by
  unfold fracD at h
  split at h
  · exact ⟨_, _, by assumption⟩
  · cases h
theorem fracD_no {d : PyData} (h : areIntsD d 2 = false) : fracD d = false := by
  cases hf : fracD d with
  | false => rfl
  | true =>
    obtain ⟨u, z, e⟩ := frac_of hf
    rw [areIntsD, e] at h
    exact absurd h (by simp [ndInt])
theorem gcd_one (a : Nat) : (((a : Nat) : Int) = 1) ↔ a = 1 := by omega
def spDiv : Sp := fun vs H Q _ => ∃ a b : Int, vs = [.int a, .int b] ∧ ∀ H', Same H H' → Q (.int ((Nat.gcd a.natAbs b.natAbs : Nat) : Int)) H'
theorem gcd_turn {x y : Nat} : Nat.gcd y (x % y) = Nat.gcd x y := by
  rw [Nat.gcd_comm x y, Nat.gcd_rec y x, Nat.gcd_comm]
theorem given_none {n : Nat} {f : Nat → Bool} {v : Nat → V} : (given n f v).isEmpty = (List.range n).all fun i => !f i := by
  unfold given
  rw [List.isEmpty_map]
  induction (List.range n) with
  | nil => rfl
  | cons a r ih =>
    rw [List.filter_cons, List.all_cons]
    cases f a with
    | true => rfl
    | false => simpa using ih
theorem all_range_ds {p : PyData → Bool} {ds : List PyData} : (List.range ds.length).all (fun i => p (ds.getD i .none)) = ds.all p := by
  induction ds with
  | nil => rfl
  | cons d ds ih =>
    rw [List.length_cons, List.range_succ_eq_map, List.all_cons, List.all_map, List.all_cons, ← ih]
    rfl
def spNum (k : Nat) (B : Nat) : Sp := fun vs H Q _ => ∃ (r : Addr) (n : Nat), vs = [.ref r] ∧ Rid r n H ∧ n + k < 1000000 ∧
  ∀ H' (i : Int), Gr r H H' → Rid r (n + k) H' → i.natAbs ≤ B → Q (.int i) H'
/-- data of some form -/
def spDat (k : Nat) (G : PyData → Prop) : Sp := fun vs H Q _ => ∃ (r : Addr) (n : Nat), vs = [.ref r] ∧ Rid r n H ∧ n + k < 1000000 ∧
  ∀ H' v d, Gr r H H' → Rid r (n + k) H' → Dr r H' v d → G d → Q v H'
end Nd

namespace Nd
open PySem PySem.Spec PyProof.Rows L2
/-! ### calls by names alone -/
def byIx (ix : List Nat) {α : Type} (l : List α) : List α := ix.filterMap fun i => l[i]?
theorem byIx_vals {zs : List V} {ws : List Value} (r : Vals zs ws) : ∀ ix : List Nat, Vals (byIx ix zs) (byIx ix ws)
  | [] => .nil
  | i :: ix => by
    unfold byIx
    rw [List.filterMap_cons, List.filterMap_cons]
    cases h : zs[i]? with
    | none =>
      rw [r.none_of h]
      exact byIx_vals r ix
    | some x =>
      obtain ⟨u, h1, h2⟩ := r.get h
      rw [h1]
      exact .cons h2 (byIx_vals r ix)
structure CalK (P : Program) (w : World) (K : PySem.W.Frag) (mg : Str → Option Value) (base : Heap) (CX : CXT) (k : Nat) (x : Str) (ks : List Str) (ix : List Nat) (sp : Sp) : Prop where
  ex : ∃ (f : Addr) (fd : FuncData) (ps : List Str), FnG P w K mg base CX k f fd ps sp ∧ mg x = some (.ref f) ∧ PySem.W.keepIn K (.ref f) = true ∧
    ∀ (s : Shared) (ws : List Value), ws.length = ks.length → BindsTo s fd ⟨[], ks.zip ws⟩ (ps.zip (byIx ix ws))
theorem kwBinds {K : PySem.W.Frag} {x qual : Str} {st : Stmt} {f : Addr} {fd : FuncData} {ps ks : List Str} {ix : List Nat} (F : Fun K x qual st f fd)
    (h : ∀ (kV doc pm : Value) (an : Option Addr) (cdv ct : Value) (ws : List Value), ws.length = ks.length →
      bindArgs (PySem.W.fnOf x qual (defArgs st) (defBody st) (defScope st) .none kV doc pm an cdv ct) ⟨[], ks.zip ws⟩ = pure (ps.zip (byIx ix ws))) :
    ∀ (s : Shared) (ws : List Value), ws.length = ks.length → BindsTo s fd ⟨[], ks.zip ws⟩ (ps.zip (byIx ix ws)) := by
  obtain ⟨oc, od, kV, doc, pm, an, cdv, ct, osl, rfl, lk, hcd⟩ := F.ex
  exact fun s ws hl => .of_eq (h kV doc pm an cdv ct ws hl)
def tKw (n : Nat) (ix : List Nat) (sp : Sp) (E : XK) (tk : TA) : TE := fun σ H Q => tk σ H fun zs H2 => zs.length = n ∧ sp (byIx ix zs) H2 Q E
theorem pe_kw {X : Cx} {CX : CXT} {k : Nat} {x : Str} {ks : List Str} {ix : List Nat} {sp : Sp} {E : XK} {p pos : Pos} {kws : List Keyword} {tk : TA}
    (c : CalK X.prog X.w X.K X.mg X.base CX k x ks ix sp) (hG : X.A.guards = some []) (hr : Room k X.A) (hg : Gl X x) (hx : Passes CX X E) (hkw : PK X kws tk)
    (hall : (backToKw pos (keywordEach kws X.env)).all (·.1.isSome) = true := by rfl) (hks : (backToKw pos (keywordEach kws X.env)).filterMap (·.1) = ks := by rfl) (hdb : (x == ("__debug__" : Str)) = false := by decide)
    (hpl : ((backTo pos (starEach [] X.env)).any (·.1) || (backToKw pos (keywordEach kws X.env)).any (·.1.isNone)) = false := by rfl) :
    PE X (.Call (.Name x p) [] kws pos) (tKw ks.length ix sp E tk) := by
  obtain ⟨f, fd, ps, F, hm, hk, hb⟩ := c.ex
  constructor
  intro pins s σ H Q I h
  apply wpAny_Call_Name_kw (ld_glob I hg hm ?_ hdb)
  apply PySem.W.callWith_KW0 (h₀ := X.base) I.ok.mod.kin hk hall ?_ hpl
  apply thn (hkw.run pos pins s σ H _ I h)
  rintro ws s2 ⟨zs, H2, I2, rz, l2, q2⟩
  refine ⟨I2.kIn, ?_⟩
  rw [hks]
  have run := F.go X.A X.stack s2 H2 ⟨[], ks.zip ws⟩ (byIx ix ws) (byIx ix zs) Q E hG hr I2.env0 (hb s2 ws (rz.length.symm.trans l2)) (byIx_vals rz ix) q2
  refine wpAny_call (codeAny_mono run ?_)
  rintro (e' | fl) s' hq
  · exact hx pins σ H2 s2 e' s' I2 hq
  · cases fl with
    | ret u => exact I2.after hq
    | next => exact hq.elim
    | brk => exact hq.elim
    | cont => exact hq.elim
theorem k_kw {n : Nat} {ix : List Nat} {sp : Sp} {E : XK} {tk : TA} {σ : L2.St} {H : Hp} {Q : VK} (h : tk σ H fun zs H2 => zs.length = n ∧ sp (byIx ix zs) H2 Q E) : tKw n ix sp E tk σ H Q := h
/-! ### for loops -/
def ForIn (J : It) (g : TG) (tb : TS) (D : Ends) (σ : L2.St) (H : Hp) : Prop := tFor (fun _ H R => R J H) g tb D σ H
theorem k_for {wi : TI} {g : TG} {tb : TS} {D : Ends} {σ : L2.St} {H : Hp} (h : wi σ H fun J H1 => ForIn J g tb D σ H1) : tFor wi g tb D σ H := h
theorem forIn_R {lo : Int} {n : Nat} {g : TG} {tb : TS} {nx bk ct : L2.St → Hp → Prop} {rt : VK} {σ : L2.St} {H : Hp} (Pv : Nat → L2.St → Hp → Prop) (h0 : Pv 0 σ H)
    (hs : ∀ i σ H, i < n → Pv i σ H → g (.int (lo + i)) σ H fun σ2 H2 => tb (Ends.mk (Pv (i + 1)) rt nx (Pv (i + 1))) σ2 H2)
    (hd : ∀ σ H, Pv n σ H → nx σ H) : ForIn (Itr lo n) g tb (Ends.mk nx rt bk ct) σ H := for_range (lo := lo) (n := n) Pv h0 hs hd
theorem forIn_L {K : PySem.W.Frag} {a : Addr} {xs : List V} {g : TG} {tb : TS} {nx bk ct : L2.St → Hp → Prop} {rt : VK} {σ : L2.St} {H : Hp} (Pv : Nat → L2.St → Hp → Prop) (h0 : Pv 0 σ H)
    (hl : ∀ i σ H, i ≤ xs.length → Pv i σ H → SqL K H a xs)
    (hs : ∀ i x σ H, xs[i]? = some x → Pv i σ H → g x σ H fun σ2 H2 => tb (Ends.mk (Pv (i + 1)) rt nx (Pv (i + 1))) σ2 H2)
    (hd : ∀ σ H, Pv xs.length σ H → nx σ H) : ForIn (Itl K a) g tb (Ends.mk nx rt bk ct) σ H := for_list (K := K) (a := a) (xs := xs) Pv h0 hl hs hd
/-! ### an expression, a test, by what it gives, once for all that follows -/
theorem k_cutE {te : TE} {σ : L2.St} {H : Hp} {Q : VK} (v : V) (h : ∀ Q' : VK, (∀ H', Same H H' → Q' v H') → te σ H Q') (k : ∀ H', Same H H' → Q v H') : te σ H Q := h Q k
theorem k_cutT {tt : TT} {σ : L2.St} {H : Hp} {Q : Bool → Hp → Prop} (b : Bool) (h : ∀ Q' : Bool → Hp → Prop, (∀ H', Same H H' → Q' b H') → tt σ H Q') (k : ∀ H', Same H H' → Q b H') : tt σ H Q := h Q k
theorem k_andV' {ta tb : TE} {σ : L2.St} {H : Hp} {Q : VK} (h : tAndV ta tb σ H Q) : tAndV ta tb σ H Q := h
theorem withinD_no {d : PyData} {l m : Option Int} (h : ndInt d = false) : withinD d l m = false := by cases d <;> first | rfl | cases h
end Nd

namespace Nd
open PySem PySem.Spec PyProof.Rows L2
/-! ### fractions -/
def fq (q : Rat) : PyData := .tuple [.int q.num, .int (q.den : Int)]
def Fr (r : Addr) (H : Hp) (v : V) (q : Rat) : Prop := ∃ a, v = .ref a ∧ a ≠ r ∧ H a = some (.tup [.int q.num, .int (q.den : Int)])
/-- a new one -/
def FrN (H H' : Hp) (v : V) (q : Rat) : Prop := ∃ a, v = .ref a ∧ H a = none ∧ H' a = some (.tup [.int q.num, .int (q.den : Int)])
theorem FrN.fr {r : Addr} {n : Nat} {H H' : Hp} {v : V} {q : Rat} (h : FrN H H' v q) (R : Rid r n H) : Fr r H' v q := by
  obtain ⟨a, h1, h2, h3⟩ := h
  exact ⟨a, h1, R.ne h2, h3⟩
theorem Fr.gr {r : Addr} {H H' : Hp} {v : V} {q : Rat} (h : Fr r H v q) (g : Gr r H H') : Fr r H' v q := by
  obtain ⟨a, h1, h2, h3⟩ := h
  exact ⟨a, h1, h2, g.all _ _ h2 h3⟩
theorem Fr.same {r : Addr} {H H' : Hp} {v : V} {q : Rat} (h : Fr r H v q) (s : Same H H') : Fr r H' v q := h.gr (Gr.same s)
theorem Fr.put {r D : Addr} {H : Hp} {xs ys : List V} {v : V} {q : Rat} (h : Fr r H v q) (hD : H D = some (.lst xs)) : Fr r (upd H D (.lst ys)) v q := by
  obtain ⟨a, h1, h2, h3⟩ := h
  refine ⟨a, h1, h2, ?_⟩
  rw [upd_ne]
  · exact h3
  · rintro rfl
    rw [hD] at h3
    cases h3
theorem Fr.dr {r : Addr} {H : Hp} {v : V} {q : Rat} (h : Fr r H v q) : Dr r H v (fq q) := by
  obtain ⟨a, rfl, h2, h3⟩ := h
  exact .tup h2 h3 (.cons (.int _) (.cons (.int _) .nil))
theorem Fr.dp {r : Addr} {H : Hp} {K : PySem.W.Frag} {v : V} {q : Rat} (h : Fr r H v q) : Dp K H v (fq q) := by
  obtain ⟨a, rfl, h2, h3⟩ := h
  exact .tup (.inl (.inl h3)) (.cons (.int _) (.cons (.int _) .nil))
theorem k_ix0 {K : PySem.W.Frag} {r : Addr} {v : V} {q : Rat} {H : Hp} {Q : VK} (h : Fr r H v q) (k : Q (.int q.num) H) : rIxT K v (.int 0) H Q := by
  obtain ⟨a, rfl, h2, h3⟩ := h
  exact k_ixT (.inl (.inl h3)) rfl k
theorem k_ix1 {K : PySem.W.Frag} {r : Addr} {v : V} {q : Rat} {H : Hp} {Q : VK} (h : Fr r H v q) (k : Q (.int (q.den : Int)) H) : rIxT K v (.int 1) H Q := by
  obtain ⟨a, rfl, h2, h3⟩ := h
  exact k_ixT (.inl (.inl h3)) rfl k
theorem fq_inj {p q : Rat} (h : p.num = q.num ∧ p.den = q.den) : p = q := Rat.ext h.1 h.2
theorem eqv_fq (p q : Rat) : PyData.eqv (fq p) (fq q) = decide (p = q) := by
  unfold fq
  simp only [PyData.eqv, PyData.eqvAll, Bool.and_true]
  by_cases h : p = q
  · subst h
    simp
  · rw [decide_eq_false h]
    rw [Bool.eq_false_iff]
    intro z
    simp only [Bool.and_eq_true, beq_iff_eq, decide_eq_true_eq] at z
    exact h (fq_inj ⟨z.1, by have := z.2; omega⟩)
theorem sh_fq (q : Rat) : SeqAt.shaped (fq q) = true := by
  simp [fq, SeqAt.shaped, PyData.canLay0, PyData.depth, PyData.canLayAll0, PyData.depthAll]
def Sz (n : Nat) (q : Rat) : Prop := q.num.natAbs < 2 ^ n ∧ q.den < 2 ^ n
theorem Sz.le {n m : Nat} {q : Rat} (h : Sz n q) (l : n ≤ m) : Sz m q := ⟨Nat.lt_of_lt_of_le h.1 (Nat.pow_le_pow_right (by decide) l), Nat.lt_of_lt_of_le h.2 (Nat.pow_le_pow_right (by decide) l)⟩
theorem sz_divInt {u w : Int} {n : Nat} (h0 : w ≠ 0) (hu : u.natAbs < 2 ^ n) (hw : w.natAbs < 2 ^ n) : Sz n (Rat.divInt u w) := by
  constructor
  · rw [Rat.num_divInt]
    have : (w.sign * u / (w.gcd u : Int)).natAbs ≤ u.natAbs := by
      rw [Int.natAbs_ediv_of_dvd]
      · refine Nat.le_trans (Nat.div_le_self _ _) ?_
        rw [Int.natAbs_mul, Int.natAbs_sign_of_ne_zero h0, Nat.one_mul]
        exact Nat.le_refl _
      · exact Int.dvd_mul_of_dvd_right (Int.gcd_dvd_right ..)
    omega
  · rw [Rat.den_divInt, if_neg h0]
    exact Nat.lt_of_le_of_lt (Nat.div_le_self _ _) hw
theorem lt_two {n : Nat} (a : Nat) (h : a < 2 ^ n) : (a : Int).natAbs < 2 ^ n := by rw [Int.natAbs_natCast]; exact h
theorem lt_add {i j : Int} {n : Nat} (hi : i.natAbs < 2 ^ n) (hj : j.natAbs < 2 ^ n) : (i + j).natAbs < 2 ^ (n + 1) := by
  rw [Nat.pow_succ]
  omega
theorem lt_sub {i j : Int} {n : Nat} (hi : i.natAbs < 2 ^ n) (hj : j.natAbs < 2 ^ n) : (i - j).natAbs < 2 ^ (n + 1) := by
  rw [Nat.pow_succ]
  omega
theorem add_divInt (p q : Rat) : p + q = Rat.divInt (p.num * q.den + q.num * p.den) ((p.den : Int) * q.den) := by
  rw [Rat.add_def', ← Rat.divInt_ofNat, Int.natCast_mul]
theorem sub_divInt (p q : Rat) : p - q = Rat.divInt (p.num * q.den - q.num * p.den) ((p.den : Int) * q.den) := by
  rw [Rat.sub_def', ← Rat.divInt_ofNat, Int.natCast_mul]
theorem mul_divInt (p q : Rat) : p * q = Rat.divInt (p.num * q.num) ((p.den : Int) * q.den) := by
  rw [Rat.mul_def', ← Rat.divInt_ofNat, Int.natCast_mul]
theorem den_ne (p q : Rat) : (p.den : Int) * q.den ≠ 0 := Int.mul_ne_zero (by have := p.den_nz; omega) (by have := q.den_nz; omega)
theorem up_lt {i : Int} {n m : Nat} (l : n ≤ m) (h : i.natAbs < 2 ^ n) : i.natAbs < 2 ^ m := Nat.lt_of_lt_of_le h (Nat.pow_le_pow_right (by decide) l)
theorem Sz.add {n m : Nat} {p q : Rat} (hp : Sz n p) (hq : Sz m q) : Sz (n + m + 1) (p + q) := by
  rw [add_divInt]
  refine sz_divInt (den_ne p q) (lt_add (wide_lt hp.1 (lt_two _ hq.2)) ?_) (up_lt (Nat.le_succ _) (wide_lt (lt_two _ hp.2) (lt_two _ hq.2)))
  rw [Nat.add_comm n m]
  exact wide_lt hq.1 (lt_two _ hp.2)
theorem Sz.sub {n m : Nat} {p q : Rat} (hp : Sz n p) (hq : Sz m q) : Sz (n + m + 1) (p - q) := by
  rw [sub_divInt]
  refine sz_divInt (den_ne p q) (lt_sub (wide_lt hp.1 (lt_two _ hq.2)) ?_) (up_lt (Nat.le_succ _) (wide_lt (lt_two _ hp.2) (lt_two _ hq.2)))
  rw [Nat.add_comm n m]
  exact wide_lt hq.1 (lt_two _ hp.2)
theorem Sz.mul {n m : Nat} {p q : Rat} (hp : Sz n p) (hq : Sz m q) : Sz (n + m + 1) (p * q) := by
  rw [mul_divInt]
  exact sz_divInt (den_ne p q) (up_lt (Nat.le_succ _) (wide_lt hp.1 hq.1)) (up_lt (Nat.le_succ _) (wide_lt (lt_two _ hp.2) (lt_two _ hq.2)))
/-! ### the program's reckoning -/
/-- // by any divisor but 0, below 2 ^ 9000 -/
theorem op_fdivZ {X : Cx} : OpR X (binaryOp .FloorDiv) (rI (fun _ j => j ≠ 0 ∧ j.natAbs.log2 < 9000) fun i j => .int (i.fdiv j)) := opI fun i j _ _ _ _ _ hc q =>
  floordiv_int hc.1 q (.inl (PyProof.noPylong_of_log2 hc.2))
def redG (u w : Int) : Int := if w < 0 then -((Nat.gcd u.natAbs w.natAbs : Nat) : Int) else ((Nat.gcd u.natAbs w.natAbs : Nat) : Int)
theorem gcd_le {u w : Int} (h : w ≠ 0) : 0 < Nat.gcd u.natAbs w.natAbs ∧ Nat.gcd u.natAbs w.natAbs ≤ w.natAbs := ⟨Nat.gcd_pos_of_pos_right _ (by omega), Nat.gcd_le_right _ (by omega)⟩
theorem redG_ok {u w : Int} {n : Nat} (h : w ≠ 0) (hw : w.natAbs < 2 ^ n) (h0 : 0 < n) (h9 : n ≤ 9000) : redG u w ≠ 0 ∧ (redG u w).natAbs.log2 < 9000 := by
  have := gcd_le (u := u) h
  unfold redG
  split
  · exact ⟨by omega, Nat.lt_of_lt_of_le (PySem.Flt.log2_lt_of h0 (Nat.lt_of_le_of_lt (by omega) hw)) h9⟩
  · exact ⟨by omega, Nat.lt_of_lt_of_le (PySem.Flt.log2_lt_of h0 (Nat.lt_of_le_of_lt (by omega) hw)) h9⟩
theorem red_up {u w : Int} (h : w ≠ 0) : u.fdiv (redG u w) = (Rat.divInt u w).num := by
  rw [Rat.num_divInt]
  have d : ((Nat.gcd u.natAbs w.natAbs : Nat) : Int) ∣ u := Int.ofNat_dvd_left.mpr (Nat.gcd_dvd_left _ _)
  have e : (w.gcd u : Int) = ((Nat.gcd u.natAbs w.natAbs : Nat) : Int) := by rw [Int.gcd_comm]; rfl
  rw [e]
  unfold redG
  split
  · rw [Int.fdiv_eq_ediv_of_dvd (Int.neg_dvd.mpr d), Int.ediv_neg, Int.sign_eq_neg_one_of_neg (by omega), Int.neg_mul, Int.one_mul, Int.neg_ediv_of_dvd d]
  · rw [Int.fdiv_eq_ediv_of_dvd d, Int.sign_eq_one_of_pos (by omega), Int.one_mul]
theorem red_down {u w : Int} (h : w ≠ 0) : w.fdiv (redG u w) = ((Rat.divInt u w).den : Int) := by
  rw [Rat.den_divInt, if_neg h]
  have d : ((Nat.gcd u.natAbs w.natAbs : Nat) : Int) ∣ w := Int.ofNat_dvd_left.mpr (Nat.gcd_dvd_right _ _)
  have e : w.gcd u = Nat.gcd u.natAbs w.natAbs := by rw [Int.gcd_comm]; rfl
  rw [e, Int.natCast_ediv]
  unfold redG
  split
  · rw [Int.fdiv_eq_ediv_of_dvd (Int.neg_dvd.mpr d), Int.ediv_neg, ← Int.neg_ediv_of_dvd d]
    congr 1
    omega
  · rw [Int.fdiv_eq_ediv_of_dvd d]
    congr 1
    omega
def spNeed : Sp := fun vs H Q _ => ∃ (r : Addr) (v x : V) (d : PyData) (l m : Option Int), vs = [v, x, optV l, optV m] ∧ Dr r H v d ∧ withinD d l m = true ∧ ∀ H', Same H H' → Q .non H'
def spRed : Sp := fun vs H Q _ => ∃ u w : Int, vs = [.int u, .int w] ∧ w ≠ 0 ∧ w.natAbs < 2 ^ 8000 ∧ ∀ H' v, Same H H' → FrN H H' v (Rat.divInt u w) → Q v H'
def spTwo : Sp := fun vs H Q _ => ∃ (r : Addr) (v w : V) (p q : Rat), vs = [v, w] ∧ Fr r H v p ∧ Fr r H w q ∧ ∀ H', Same H H' → Q .non H'
def spBin (f : Rat → Rat → Rat) : Sp := fun vs H Q _ => ∃ (r : Addr) (v w : V) (p q : Rat), vs = [v, w] ∧ Fr r H v p ∧ Fr r H w q ∧ Sz 3000 p ∧ Sz 3000 q ∧
  ∀ H' x, Same H H' → FrN H H' x (f p q) → Q x H'
def spBelow : Sp := fun vs H Q _ => ∃ (r : Addr) (v w : V) (p q : Rat), vs = [v, w] ∧ Fr r H v p ∧ Fr r H w q ∧ Sz 3000 p ∧ Sz 3000 q ∧ ∀ H', Same H H' → Q (.bl (decide (p < q))) H'
theorem FrN.from {H H1 H' : Hp} {v : V} {q : Rat} (s : Same H H1) (h : FrN H1 H' v q) : FrN H H' v q := by
  obtain ⟨a, h1, h2, h3⟩ := h
  refine ⟨a, h1, ?_, h3⟩
  cases e : H a with
  | none => rfl
  | some o =>
    rw [s _ _ e] at h2
    cases h2
theorem fracD_fq (q : Rat) : fracD (fq q) = true := by
  have h1 : (0 : Int) < (q.den : Int) := by have := q.den_nz; omega
  have h2 : Nat.gcd q.num.natAbs (q.den : Int).natAbs = 1 := by rw [Int.natAbs_natCast]; exact q.reduced
  show (decide (0 < (q.den : Int)) && decide (Nat.gcd q.num.natAbs (q.den : Int).natAbs = 1)) = true
  rw [decide_eq_true h1, decide_eq_true h2]
  rfl
theorem ite_f {b : Bool} {A B : Prop} (h : b = false) (k : B) : if b = true then A else B := by rw [h]; exact k
theorem ite_t {b : Bool} {A B : Prop} (h : b = true) (k : A) : if b = true then A else B := by rw [h]; exact k
/-- a list at p -/
def Ls (H : Hp) (p : Addr) (xs : List V) : Prop := H p = some (.lst xs)
theorem Ls.same {H H' : Hp} {p : Addr} {xs : List V} (h : Ls H p xs) (s : Same H H') : Ls H' p xs := s _ _ h
end Nd

namespace Nd
open PySem PySem.Spec PyProof.Rows L2
/-! ### a list of drawn things -/
theorem Gr.over {r D : Addr} {H H1 : Hp} {o : HO} (g : Gr r H H1) (hD : H D = none) : Gr r H (upd H1 D o) := by
  refine ⟨fun b u n e => ?_, fun c t e => ?_⟩
  · rw [upd_ne (ne_of_none e hD)]
    exact g.all _ _ n e
  · rw [upd_ne (ne_of_none e hD)]
    exact g.own _ _ e
theorem lcIn_draw {lo : Int} {n j : Nat} {te : TE} {vs : List Nat} {σ : L2.St} {H1 : Hp} {Q : VK} {r : Addr} {m k : Nat} (Pr : Hp → V → Prop)
    (hgr : ∀ H H' v, Gr r H H' → Pr H v → Pr H' v) (hput : ∀ H D xs ys v, H D = some (.lst xs) → Pr H v → Pr (upd H D (.lst ys)) v) (hz : n ≤ 100000) (hw : ∀ x, wipe ((wipe σ vs).set j (some x)) vs = wipe σ vs)
    (R : Rid r m H1)
    (step : ∀ i H2, i < n → Rid r (m + k * i) H2 → Gr r H1 H2 → ∀ QE : VK, (∀ H4 y, Gr r H2 H4 → Rid r (m + k * (i + 1)) H4 → Pr H4 y → QE y H4) → te ((wipe σ vs).set j (some (.int (lo + i)))) H2 QE)
    (fin : ∀ p H' ys, H1 p = none → Gr r H1 H' → Rid r (m + k * n) H' → p ≠ r → H' p = some (.lst ys) → ys.length = n → (∀ y ∈ ys, Pr H' y) → Q (.ref p) H') :
    LcIn (Itr lo n) (gName j) tYes te vs σ H1 Q := fun D hD =>
  lc_range (lo := lo) (n := n) (fun i H => RidN D r (m + k * i) H ∧ Gr r H1 H ∧ ∃ ys, H D = some (.lst ys) ∧ ys.length = i ∧ ∀ y ∈ ys, Pr H y)
    ⟨R.newN hD, Gr.rfl'.over hD, [], upd_same, rfl, fun y hy => nomatch hy⟩
    (fun i H' hi p => by
      obtain ⟨R1, g1, ys, e1, l1, a1⟩ := p
      refine ⟨hw _, ?_⟩
      refine k_tYes ?_
      rw [if_pos rfl]
      refine step i H' hi R1.rid g1 _ fun H4 y g4 R4 p4 => ?_
      have e4 := g4.all _ _ R1.ne e1
      refine ⟨ys, e4, Nat.lt_of_lt_of_le (Nat.lt_of_lt_of_le (by omega) hz) (by decide), ((R1.gr g4 R4).put), (g1.trans g4).over hD, ys ++ [y], upd_same, by rw [List.length_append, l1]; rfl, fun x hx => ?_⟩
      rw [List.mem_append] at hx
      rcases hx with hx | hx
      · exact hput _ _ _ _ _ e4 (hgr _ _ _ g4 (a1 x hx))
      · obtain rfl := List.mem_singleton.mp hx
        exact hput _ _ _ _ _ e4 p4)
    (fun H' p => by
      obtain ⟨R1, g1, ys, e1, l1, a1⟩ := p
      exact fin D H' ys hD g1 R1.rid R1.ne e1 l1 a1)
theorem given_no {n : Nat} {v : Nat → V} : given n (fun _ => false) v = [] := by
  unfold given
  rw [List.filter_eq_nil_iff.mpr (by intros; decide)]
  rfl
/-! ### xs.count(True), of truths -/
def eqB (b : Bool) (v : Value) : Bool := match v with
  | .bool c => c == b
  | _ => false
theorem eqB_at {b : Bool} {A : Around} {s : Shared} : ∀ {bs : List Bool} {us : List Value}, Vals (bs.map V.bl) us → ∀ y ∈ us, SeqAt.EqAt A s y (.bool b) (eqB b y)
  | [], us, h, y, hy => by
    rw [List.map_nil] at h
    cases h
    cases hy
  | c :: bs, us, h, y, hy => by
    rw [List.map_cons] at h
    cases h with
    | cons h1 h2 =>
      cases h1
      rcases List.mem_cons.mp hy with e | e
      · rw [e]
        exact SeqAt.EqAt.bool_bool c b
      · exact eqB_at h2 y e
theorem eqB_count {b : Bool} : ∀ {bs : List Bool} {us : List Value}, Vals (bs.map V.bl) us → us.countP (eqB b) = bs.count b
  | [], us, h => by
    rw [List.map_nil] at h
    cases h
    rfl
  | c :: bs, us, h => by
    rw [List.map_cons] at h
    cases h with
    | cons h1 h2 =>
      cases h1
      rw [List.countP_cons, List.count_cons, eqB_count h2] <;> rfl
def rCntB (K : PySem.W.Frag) : V → List V → Hp → VK → Prop := fun x xs H Q => ∃ (p : Addr) (bs : List Bool) (b : Bool), x = .ref p ∧ xs = [.bl b] ∧ SqL K H p (bs.map V.bl) ∧ Q (.int (bs.count b : Nat)) H
theorem mt_lcountB {X : Cx} : MtR X "list.count" (rCntB X.K) := by
  intro pins s σ H x xs v us Q I rx rxs h
  obtain ⟨p, bs, b, rfl, rfl, hs, q⟩ := h
  cases rx
  obtain ⟨u, rfl, ru⟩ := rxs.one
  cases ru
  obtain ⟨its, rv, ⟨⟨cls, dd, data, sl⟩, n, ho, hc, hdn, hd⟩, hlen⟩ := I.list hs
  simp only at hc hd
  subst hc hd
  refine call_meets PySem.F.slot_list_count ⟨_, ho, rfl⟩ PySem.F.entry_list_count (PySem.F.args_list_count_2 _ _)
    (SeqAt.list_countAt p its.toArray n dd sl (.bool b) (eqB b)) ⟨ho, fun y hy => eqB_at rv y (by simpa using hy), ?_⟩
  have ec : its.toArray.toList.countP (eqB b) = bs.count b := eqB_count rv
  refine ⟨.int (bs.count b : Nat), H, I.tok _, ⟨s.toks, ?_⟩, q⟩
  show Value.int ((its.toArray.toList.countP (eqB b) : Nat) : Int) s.toks = Value.int ((bs.count b : Nat) : Int) s.toks
  rw [ec]
theorem k_cntB {K : PySem.W.Frag} {p : Addr} {bs : List Bool} {b : Bool} {H : Hp} {Q : VK} (hs : SqL K H p (bs.map V.bl)) (q : Q (.int (bs.count b : Nat)) H) : rCntB K (.ref p) [.bl b] H Q := ⟨p, bs, b, rfl, rfl, hs, q⟩
/-! ### lists of fractions -/
theorem canFq (q : Rat) : PyData.canLay0 (fq q) = true := by
  simp [fq, PyData.canLay0, PyData.canLayAll0]
theorem canFqs : ∀ qs : List Rat, PyData.canLayAll0 (qs.map fq) = true
  | [] => by simp only [List.map_nil, PyData.canLayAll0]
  | q :: qs => by simp only [List.map_cons, PyData.canLayAll0, canFq q, canFqs qs, Bool.and_self]
theorem depFqs : ∀ qs : List Rat, PyData.depthAll (qs.map fq) ≤ 1
  | [] => by simp only [List.map_nil, PyData.depthAll]; omega
  | q :: qs => by
    simp only [List.map_cons, PyData.depthAll]
    have := depFqs qs
    have e : (fq q).depth = 1 := by simp [fq, PyData.depth, PyData.depthAll]
    omega
theorem sh_fqs (qs : List Rat) : SeqAt.shaped (.list (qs.map fq)) = true := by
  have h := depFqs qs
  simp only [SeqAt.shaped, PyData.canLay0, PyData.depth, canFqs qs, Bool.true_and, Bool.and_true]
  simp
  omega
theorem eqvs_fq : ∀ qs : List Rat, PyData.eqvAll (qs.map fq) (qs.map fq) = true
  | [] => by simp only [List.map_nil, PyData.eqvAll]
  | q :: qs => by
    simp only [List.map_cons, PyData.eqvAll, eqv_fq, eqvs_fq qs, decide_true, Bool.and_self]
theorem ne_lists {as bs : List Rat} (h : as = bs) : (!PyData.eqv (.list (as.map fq)) (.list (bs.map fq))) = false := by
  subst h
  simp only [PyData.eqv, eqvs_fq, Bool.not_true]
theorem ne_fq {p q : Rat} (h : p = q) : (!decide (p = q)) = false := by rw [decide_eq_true h]; rfl
theorem ne_bl {x y : Bool} (h : x = y) : (!decide (V.bl x = V.bl y)) = false := by subst h; simp
theorem Fr.two {r p : Addr} {H : Hp} {x y : Int} {q : Rat} (n : p ≠ r) (e : H p = some (.tup [.int x, .int y])) (h1 : x = q.num) (h2 : y = (q.den : Int)) : Fr r H (.ref p) q := ⟨p, rfl, n, by rw [e, h1, h2]⟩
theorem sz0 : Sz 1 0 := ⟨by decide, by decide⟩
theorem sz1 : Sz 1 1 := ⟨by decide, by decide⟩
theorem szm1 : Sz 1 (-1) := ⟨by decide, by decide⟩
theorem cnt3 (a b : Rat) : (([decide (a < b), decide (b < a), decide (a = b)].count true : Nat) : Int) = 1 := by
  by_cases h1 : a < b
  · have h2 : ¬ b < a := Rat.not_lt.mpr (Rat.le_of_lt h1)
    have h3 : a ≠ b := Rat.ne_of_lt h1
    simp [h1, h2, h3]
  · by_cases h2 : b < a
    · have h3 : a ≠ b := (Rat.ne_of_lt h2).symm
      simp [h1, h2, h3]
    · have h3 : a = b := Rat.le_antisymm (Rat.not_lt.mp h2) (Rat.not_lt.mp h1)
      simp [h1, h2, h3]
end Nd

namespace Nd
open PySem PySem.Spec PyProof.Rows L2
/-! ### choices -/
def ch : Nat → Nat → Nat
  | _, 0 => 1
  | 0, _ + 1 => 0
  | n + 1, k + 1 => ch n k + ch n (k + 1)
theorem ch_zero (n : Nat) : ch n 0 = 1 := by cases n <;> rfl
theorem ch_succ (n k : Nat) : ch (n + 1) (k + 1) = ch n k + ch n (k + 1) := rfl
theorem ch_over : ∀ {n k : Nat}, n < k → ch n k = 0
  | 0, k + 1, _ => rfl
  | n + 1, k + 1, h => by rw [ch_succ, ch_over (by omega), ch_over (by omega)]
theorem ch_self : ∀ n : Nat, ch n n = 1
  | 0 => rfl
  | n + 1 => by rw [ch_succ, ch_self n, ch_over (Nat.lt_succ_self n)]
theorem ch_sym : ∀ (n a b : Nat), a + b = n → ch n a = ch n b
  | 0, a, b, h => by
    obtain rfl : a = 0 := by omega
    obtain rfl : b = 0 := by omega
    rfl
  | n + 1, 0, b, h => by
    obtain rfl : b = n + 1 := by omega
    rw [ch_zero, ch_self]
  | n + 1, a + 1, 0, h => by
    obtain rfl : a = n := by omega
    rw [ch_zero, ch_self]
  | n + 1, a + 1, b + 1, h => by
    rw [ch_succ, ch_succ, ch_sym n a (b + 1) (by omega), ch_sym n (a + 1) b (by omega)]
    omega
theorem ch_mul : ∀ (n k : Nat), ((k : Int) + 1) * (ch n (k + 1) : Int) = ((n : Int) - k) * (ch n k : Int)
  | 0, 0 => by simp [ch]
  | 0, k + 1 => by simp [ch]
  | n + 1, 0 => by
    have h := ch_mul n 0
    rw [ch_succ, ch_zero, ch_zero]
    rw [ch_zero] at h
    simp at h ⊢
    omega
  | n + 1, k + 1 => by
    have h1 := ch_mul n k
    have h2 := ch_mul n (k + 1)
    rw [ch_succ n (k + 1), ch_succ n k]
    simp only [Int.natCast_add, Int.natCast_one] at h1 h2 ⊢
    grind
def fac : Nat → Nat
  | 0 => 1
  | k + 1 => fac k * (k + 1)
theorem fac_pos : ∀ k : Nat, 0 < fac k
  | 0 => Nat.one_pos
  | k + 1 => Nat.mul_pos (fac_pos k) (Nat.succ_pos k)
theorem fp_ch (n : Nat) : ∀ k : Nat, Builtin.Math.fallingProduct (n : Int) k = (ch n k : Int) * (fac k : Int)
  | 0 => by rw [PySem.W.mc_fp_zero, ch_zero]; rfl
  | k + 1 => by
    rw [PySem.W.mc_fp_succ, fp_ch n k, show fac (k + 1) = fac k * (k + 1) from rfl]
    have h := ch_mul n k
    simp only [Int.natCast_mul, Int.natCast_add, Int.natCast_one]
    grind
theorem comb_ch (n k : Nat) : PySem.W.mcComb (n : Int) (k : Int) = (ch n k : Int) := by
  by_cases h : k > n
  · rw [PySem.W.mcComb_above (by omega), ch_over h]
    rfl
  · have hk : k ≤ n := by omega
    rw [PySem.W.mcComb_at (m := ((min k (n - k) : Nat) : Int)) (by omega) (by omega) (by omega), Int.toNat_natCast, fp_ch n, fp_ch (min k (n - k)), ch_self]
    have p := fac_pos (min k (n - k))
    rw [Int.natCast_one, Int.one_mul, Int.mul_ediv_cancel _ (by omega)]
    rcases Nat.le_total k (n - k) with z | z
    · rw [Nat.min_eq_left z]
    · rw [Nat.min_eq_right z, ch_sym n (n - k) k (by omega)]
def rComb : List V → Hp → VK → Prop := fun vs H Q => ∃ n k : Nat, vs = [.int (n : Int), .int (k : Int)] ∧ n ≤ 18000 ∧ Q (.int (ch n k : Int)) H
theorem cr_comb {X : Cx} : CallR X (.builtin "math.comb") rComb := by
  intro pins s σ H vs us Q I r h
  obtain ⟨n, k, rfl, hn, q⟩ := h
  obtain ⟨t, u, rfl⟩ := Vals.int2 r
  exact PySem.W.mc_comb (by omega) (by omega) (by omega) (.inr (by omega)) fun _ => ⟨.int _, H, I.tok _, ⟨_, by rw [comb_ch]⟩, q⟩
theorem k_comb {n k : Nat} {H : Hp} {Q : VK} (hn : n ≤ 18000) (q : Q (.int (ch n k : Int)) H) : rComb [.int (n : Int), .int (k : Int)] H Q := ⟨n, k, rfl, hn, q⟩
theorem ch_le : ∀ (n k : Nat), ch n k ≤ 2 ^ n
  | 0, 0 => by decide
  | 0, k + 1 => by simp [ch]
  | n + 1, 0 => by rw [ch_zero]; exact Nat.two_pow_pos _
  | n + 1, k + 1 => by
    rw [ch_succ, Nat.pow_succ]
    have := ch_le n k
    have := ch_le n (k + 1)
    omega
/-! ### walks -/
def W : Nat → Int → Nat
  | 0, s => if s = 0 then 1 else 0
  | t + 1, s => W t (s - 1) + W t (s + 1)
theorem W_succ (t : Nat) (s : Int) : W (t + 1) s = W t (s - 1) + W t (s + 1) := rfl
theorem W_far : ∀ (t : Nat) (s : Int), (t : Int) < s ∨ s < -(t : Int) → W t s = 0
  | 0, s, h => if_neg (by omega)
  | t + 1, s, h => by rw [W_succ, W_far t _ (by omega), W_far t _ (by omega)]
theorem W_odd : ∀ (t : Nat) (s : Int), (s + t) % 2 ≠ 0 → W t s = 0
  | 0, s, h => if_neg (by omega)
  | t + 1, s, h => by rw [W_succ, W_odd t _ (by omega), W_odd t _ (by omega)]
theorem W_ch : ∀ (t k : Nat), W t (2 * (k : Int) - t) = ch t k
  | 0, 0 => rfl
  | 0, k + 1 => by
    rw [W, if_neg (by omega)]
    rfl
  | t + 1, 0 => by
    rw [W_succ, W_far t _ (by omega), show (2 * ((0 : Nat) : Int) - ((t + 1 : Nat) : Int) + 1) = 2 * ((0 : Nat) : Int) - t by omega, W_ch t 0, ch_zero, ch_zero]
  | t + 1, k + 1 => by
    rw [W_succ, show (2 * ((k + 1 : Nat) : Int) - ((t + 1 : Nat) : Int) - 1) = 2 * (k : Int) - t by omega, show (2 * ((k + 1 : Nat) : Int) - ((t + 1 : Nat) : Int) + 1) = 2 * ((k + 1 : Nat) : Int) - t by omega, W_ch t k, W_ch t (k + 1), ch_succ]
theorem W_neg : ∀ (t : Nat) (s : Int), W t (-s) = W t s
  | 0, s => by
    rw [W, W]
    by_cases h : s = 0
    · rw [if_pos h, if_pos (by omega)]
    · rw [if_neg h, if_neg (by omega)]
  | t + 1, s => by
    rw [W_succ, W_succ, show -s - 1 = -(s + 1) by omega, show -s + 1 = -(s - 1) by omega, W_neg t, W_neg t]
    omega
theorem W_le (t : Nat) (s : Int) : W t s ≤ 2 ^ t := by
  induction t generalizing s with
  | zero => rw [W]; split <;> decide
  | succ t ih =>
    rw [W_succ, Nat.pow_succ]
    have := ih (s - 1)
    have := ih (s + 1)
    omega
/-! ### halving as often as it goes -/
theorem two_split : ∀ (n : Nat) (u : Int), u.natAbs = n → u ≠ 0 → ∃ (v : Nat) (a : Int), u = 2 ^ v * (2 * a + 1) := by
  intro n
  induction n using Nat.strongRecOn with
  | ind n ih =>
    intro u hn h0
    by_cases h : u % 2 = 0
    · obtain ⟨v, a, e⟩ := ih (u / 2).natAbs (by omega) (u / 2) rfl (by omega)
      refine ⟨v + 1, a, ?_⟩
      have : u = 2 * (u / 2) := by omega
      rw [this, e, Int.pow_succ]
      grind
    · exact ⟨0, u / 2, by simp; omega⟩
theorem bits_two (v : Nat) : Builtin.Int.intBits ((2 : Int) ^ v) = v + 1 := by
  unfold Builtin.Int.intBits
  have e : ((2 : Int) ^ v).natAbs = 2 ^ v := by rw [Int.natAbs_pow]; rfl
  have p := Nat.two_pow_pos v
  rw [e, if_neg (by simp; omega), Nat.log2_two_pow]
theorem halved_rat {u : Int} {v k : Nat} {a : Int} (e : u = 2 ^ v * (2 * a + 1)) : u / 2 ^ (min k v) = (Rat.divInt u (2 ^ k)).num ∧ ((2 : Int) ^ (k - min k v)) = ((Rat.divInt u (2 ^ k)).den : Int) := by
  have p : ∀ n : Nat, (2 : Int) ^ n ≠ 0 := fun n => Int.ne_of_gt (Int.pow_pos (m := n) (show (0 : Int) < 2 by decide))
  have hd : u / 2 ^ (min k v) = 2 ^ (v - min k v) * (2 * a + 1) := by
    refine Int.ediv_eq_of_eq_mul_right (p _) ?_
    rw [e, ← Int.mul_assoc, ← Int.pow_add]
    congr 2
    omega
  have cop : (u / 2 ^ (min k v)).natAbs.Coprime (2 ^ (k - min k v)) := by
    rcases Nat.le_total k v with z | z
    · rw [Nat.min_eq_left z, Nat.sub_self, Nat.pow_zero]
      exact Nat.coprime_one_right _
    · rw [Nat.min_eq_right z] at hd ⊢
      rw [hd, Nat.sub_self, Int.pow_zero, Int.one_mul]
      refine Nat.Coprime.pow_right _ ?_
      rw [Nat.coprime_comm]
      show Nat.gcd 2 _ = 1
      rw [Nat.gcd_rec, show (2 * a + 1).natAbs % 2 = 1 by omega]
      rfl
  have nz : 2 ^ (k - min k v) ≠ 0 := by have := Nat.two_pow_pos (k - min k v); omega
  have main : Rat.divInt u (2 ^ k) = ⟨u / 2 ^ (min k v), 2 ^ (k - min k v), nz, cop⟩ := by
    rw [Rat.mk_eq_divInt, Rat.divInt_eq_divInt_iff (p k) (by simpa using p (k - min k v)), hd]
    simp only [Int.natCast_pow]
    rw [show ((2 : Nat) : Int) = 2 from rfl, e]
    have h1 : (2 : Int) ^ v * 2 ^ (k - min k v) = 2 ^ (v - min k v) * 2 ^ k := by
      rw [← Int.pow_add, ← Int.pow_add]
      congr 1
      omega
    grind
  rw [main]
  refine ⟨rfl, ?_⟩
  simp [Int.natCast_pow]
/-! ### a value's truth as a test -/
def tTru (K : PySem.W.Frag) (ta : TE) : TT := fun σ H Q => ta σ H fun x H' => ∃ k, TruV K x H' k ∧ Q k H'
theorem pt_tru {X : Cx} {a : Expr} {ta : TE} (ha : PE X a ta) (he : ∀ whole, isTrue a X.env whole = (do let v ← whole; standAt a.pos; holding [v] (truthy v))) : PT X a (tTru X.K ta) := pt_truth ha he
theorem k_tru {K : PySem.W.Frag} {ta : TE} {σ : L2.St} {H : Hp} {Q : Bool → Hp → Prop} (h : ta σ H fun x H' => ∃ k, TruV K x H' k ∧ Q k H') : tTru K ta σ H Q := h
theorem k_truI {K : PySem.W.Frag} {i : Int} {H : Hp} {Q : Bool → Hp → Prop} (h : Q (i != 0) H) : ∃ k, TruV K (.int i) H k ∧ Q k H := ⟨_, rfl, h⟩
theorem k_bits {to : TE} {σ : L2.St} {H : Hp} {Q : VK} (h : to σ H fun x H1 => ∃ i, x = .int i ∧ Q (.int (Builtin.Int.intBits i : Nat)) H1) : tBits to σ H Q := h
/-! ### the program's ways, halves, first shares -/
def spWays : Sp := fun vs H Q _ => ∃ (far : Int) (t : Nat), vs = [.int far, .int (t : Int)] ∧ t ≤ 18000 ∧ Q (.int (W t far : Int)) H
def spHalved : Sp := fun vs H Q _ => ∃ (u : Int) (k : Nat), vs = [.int u, .int (k : Int)] ∧ k ≤ 100000 ∧ u.natAbs < 2 ^ 100000 ∧ ∀ H' v, Same H H' → FrN H H' v (Rat.divInt u (2 ^ k)) → Q v H'
/-- how many ways of t steps come to far at the last one and not before -/
def fst (far : Int) : Nat → Nat
  | 0 => if far = 0 then 1 else 0
  | t + 1 => if far = 0 then 0 else fst (far - 1) t + fst (far + 1) t
theorem W_par {t : Nat} {s : Int} (h : (s + t) % 2 = 0) (h0 : -(t : Int) ≤ s) : ∃ k : Nat, s = 2 * (k : Int) - t := ⟨((s + t) / 2).toNat, by omega⟩
theorem fst_eq : ∀ (t : Nat) (far : Int), 0 ≤ far → (fst far (t + 1) : Int) = (W t (far - 1) : Int) - (W t (far + 1) : Int)
  | 0, far, h => by
    rw [fst]
    by_cases h0 : far = 0
    · subst h0
      rfl
    · rw [if_neg h0, fst, fst, W, W, if_neg (show ¬ far + 1 = 0 by omega)]
      by_cases h1 : far - 1 = 0
      · rw [if_pos h1]
        rfl
      · rw [if_neg h1]
        rfl
  | t + 1, far, h => by
    rw [fst]
    by_cases h0 : far = 0
    · subst h0
      rw [if_pos rfl, show (0 : Int) - 1 = -(0 + 1) by omega, W_neg]
      omega
    · rw [if_neg h0, Int.natCast_add, fst_eq t (far - 1) (by omega), fst_eq t (far + 1) (by omega), W_succ, W_succ, show far - 1 + 1 = far by omega, show far + 1 - 1 = far by omega]
      omega
theorem ballot (t : Nat) (far : Int) (h : 0 ≤ far) : ((t : Int) + 1) * (fst far (t + 1) : Int) = far * (W (t + 1) far : Int) := by
  rw [fst_eq t far h, W_succ]
  by_cases hp : (far - 1 + t) % 2 = 0
  · by_cases h0 : -(t : Int) ≤ far - 1
    · obtain ⟨k, hk⟩ := W_par hp h0
      have e2 : far + 1 = 2 * ((k + 1 : Nat) : Int) - t := by omega
      rw [hk, W_ch, e2, W_ch]
      have hc := ch_mul t k
      have hf : far = 2 * (k : Int) - t + 1 := by omega
      rw [hf]
      simp only [Int.natCast_add]
      grind
    · obtain rfl : far = 0 := by omega
      obtain rfl : t = 0 := by omega
      rfl
  · rw [W_odd t (far - 1) hp, W_odd t (far + 1) (by omega)]
    simp
theorem first_div (t : Nat) (far : Int) (h : 0 ≤ far) : far * (W (t + 1) far : Int) / ((t + 1 : Nat) : Int) = (fst far (t + 1) : Int) := by
  rw [← ballot t far h]
  exact Int.mul_ediv_cancel_left _ (by omega)
theorem fst_le : ∀ (t : Nat) (far : Int), fst far t ≤ 2 ^ t
  | 0, far => by rw [fst]; split <;> decide
  | t + 1, far => by
    rw [fst, Nat.pow_succ]
    have := fst_le t (far - 1)
    have := fst_le t (far + 1)
    split <;> omega
theorem fst_far : ∀ (t : Nat) (far : Int), (t : Int) < far → fst far t = 0
  | 0, far, h => if_neg (by omega)
  | t + 1, far, h => by
    rw [fst, if_neg (by omega), fst_far t _ (by omega), fst_far t _ (by omega)]
def fsR (far : Int) (t : Nat) : Rat := Rat.divInt (fst far t : Int) (2 ^ t)
def spFirst : Sp := fun vs H Q _ => ∃ (far t : Nat), vs = [.int (far : Int), .int (t : Int)] ∧ 1 ≤ far ∧ far ≤ 400 ∧ t ≤ 400 ∧ ∀ H' v, Same H H' → FrN H H' v (fsR far t) → Q v H'
/-- how many ways of t steps, from far off, do not come there -/
def gone (far : Int) : Nat → Nat
  | 0 => if far = 0 then 0 else 1
  | t + 1 => if far = 0 then 0 else gone (far - 1) t + gone (far + 1) t
theorem gone_pos : ∀ (t : Nat) (far : Int), 0 < far → 0 < gone far t
  | 0, far, h => by rw [gone, if_neg (by omega)]; decide
  | t + 1, far, h => by
    rw [gone, if_neg (by omega)]
    have := gone_pos t (far + 1) (by omega)
    omega
/-- all first shares up to t, in parts of 2 ^ t -/
def sumF (far : Int) : Nat → Nat
  | 0 => fst far 0
  | t + 1 => 2 * sumF far t + fst far (t + 1)
theorem sumF_zero : ∀ t : Nat, sumF 0 t = 2 ^ t
  | 0 => rfl
  | t + 1 => by
    rw [sumF, sumF_zero t, Nat.pow_succ, fst, if_pos rfl]
    omega
theorem sumF_succ : ∀ (t : Nat) (far : Int), far ≠ 0 → sumF far (t + 1) = sumF (far - 1) t + sumF (far + 1) t
  | 0, far, h => by
    have e1 : sumF far (0 + 1) = 2 * fst far 0 + fst far (0 + 1) := rfl
    have e2 : fst far 0 = 0 := if_neg h
    have e3 : fst far (0 + 1) = fst (far - 1) 0 + fst (far + 1) 0 := if_neg h
    have e4 : ∀ x, sumF x 0 = fst x 0 := fun _ => rfl
    rw [e1, e2, e3, e4, e4]
    omega
  | t + 1, far, h => by
    have e1 : sumF far (t + 1 + 1) = 2 * sumF far (t + 1) + fst far (t + 1 + 1) := rfl
    have e2 : ∀ x, sumF x (t + 1) = 2 * sumF x t + fst x (t + 1) := fun _ => rfl
    rw [e1, sumF_succ t far h, e2 (far - 1), e2 (far + 1), show fst far (t + 1 + 1) = fst (far - 1) (t + 1) + fst (far + 1) (t + 1) from by rw [fst, if_neg h]]
    omega
theorem sum_gone : ∀ (t : Nat) (far : Int), sumF far t + gone far t = 2 ^ t
  | 0, far => by
    rw [sumF, fst, gone]
    split <;> rfl
  | t + 1, far => by
    by_cases h : far = 0
    · subst h
      rw [sumF_zero, gone, if_pos rfl]
      omega
    · rw [sumF_succ t far h, gone, if_neg h, Nat.pow_succ]
      have := sum_gone t (far - 1)
      have := sum_gone t (far + 1)
      omega
end Nd

namespace Nd
open PySem PySem.Spec PyProof.Rows L2
/-! ### dicts of ints by ints, read as a function that is 0 where no key is -/
theorem few_ints : ∀ (n : Nat) (lo : Int) (ks : List Int), ks.Nodup → (∀ k ∈ ks, lo ≤ k ∧ k < lo + n) → ks.length ≤ n
  | 0, lo, ks, _, h => by
    cases ks with
    | nil => exact Nat.le_refl _
    | cons x xs =>
      have := h x List.mem_cons_self
      omega
  | n + 1, lo, ks, hn, h => by
    by_cases hm : lo + n ∈ ks
    · have h1 := few_ints n lo (ks.erase (lo + n)) (hn.erase _) fun x hx => by
        obtain ⟨h2, h3⟩ := hn.mem_erase_iff.mp hx
        have := h x h3
        omega
      rw [List.length_erase_of_mem hm] at h1
      omega
    · have h1 := few_ints n lo ks hn fun x hx => by
        have := h x hx
        have : x ≠ lo + n := fun e => hm (by rw [← e]; exact hx)
        omega
      omega
def keyI : Key → Int
  | .inl k => k
  | .inr _ => 0
structure Dn (kvs : List (Key × V)) (f : Int → Int) (lo hi : Int) : Prop where
  key : ∀ kv ∈ kvs, ∃ k : Int, kv = (.inl k, .int (f k)) ∧ lo ≤ k ∧ k ≤ hi
  nd : (kvs.map (·.1)).Nodup
  off : ∀ k : Int, valV kvs (.inl k) = none → f k = 0
theorem valV_mem {kvs : List (Key × V)} {k : Key} {v : V} (h : valV kvs k = some v) : (k, v) ∈ kvs := by
  unfold valV at h
  obtain ⟨kv, h1, h2⟩ := Option.map_eq_some_iff.mp h
  have h3 := List.find?_some h1
  have h4 := List.mem_of_find?_eq_some h1
  obtain ⟨a, b⟩ := kv
  simp only [decide_eq_true_eq] at h3
  subst h3 h2
  exact h4
theorem Dn.get {kvs : List (Key × V)} {f : Int → Int} {lo hi : Int} (d : Dn kvs f lo hi) (k : Int) : (valV kvs (.inl k)).getD (.int 0) = .int (f k) := by
  cases h : valV kvs (.inl k) with
  | none =>
    rw [d.off k h]
    rfl
  | some v =>
    obtain ⟨k', e, _⟩ := d.key _ (valV_mem h)
    cases e
    rfl
theorem Dn.nil {lo hi : Int} : Dn [] (fun _ => 0) lo hi := ⟨fun _ h => (nomatch h), List.nodup_nil, fun _ _ => rfl⟩
theorem Dn.mono {kvs : List (Key × V)} {f : Int → Int} {lo hi lo' hi' : Int} (d : Dn kvs f lo hi) (h1 : lo' ≤ lo) (h2 : hi ≤ hi') : Dn kvs f lo' hi' := by
  refine ⟨fun kv h => ?_, d.nd, d.off⟩
  obtain ⟨k, e, a, b⟩ := d.key kv h
  exact ⟨k, e, by omega, by omega⟩
theorem Dn.len {kvs : List (Key × V)} {f : Int → Int} {lo hi : Int} (d : Dn kvs f lo hi) (n : Nat) (h : hi < lo + n) : kvs.length ≤ n := by
  have e : kvs.map (·.1) = (kvs.map fun kv => keyI kv.1).map Sum.inl := by
    rw [List.map_map]
    refine List.map_congr_left fun kv hkv => ?_
    obtain ⟨k, rfl, _⟩ := d.key kv hkv
    rfl
  have hn := d.nd
  rw [e] at hn
  have hn2 : (kvs.map fun kv => keyI kv.1).Nodup := (List.pairwise_map.mp hn).imp fun h z => h (by rw [z])
  have := few_ints n lo (kvs.map fun kv => keyI kv.1) hn2 fun x hx => by
    obtain ⟨kv, h1, rfl⟩ := List.mem_map.mp hx
    obtain ⟨k, rfl, a, b⟩ := d.key kv h1
    exact ⟨a, by show k < _; omega⟩
  rwa [List.length_map] at this
theorem Dn.put {kvs : List (Key × V)} {f g : Int → Int} {lo hi : Int} (d : Dn kvs f lo hi) (k : Int) (v : Int) (h1 : lo ≤ k) (h2 : k ≤ hi) (hg : ∀ j, g j = if j = k then v else f j) :
    Dn (putK kvs (.inl k) (.int v)) g lo hi := by
  refine ⟨fun kv hkv => ?_, ?_, fun j hj => ?_⟩
  · unfold putK at hkv
    split at hkv
    · obtain ⟨kv0, h3, rfl⟩ := List.mem_map.mp hkv
      obtain ⟨k0, rfl, a, b⟩ := d.key kv0 h3
      by_cases e : k0 = k
      · subst e
        refine ⟨k0, ?_, a, b⟩
        simp only [if_pos, hg]
      · refine ⟨k0, ?_, a, b⟩
        rw [if_neg (fun z => e (Sum.inl.inj z)), hg, if_neg e]
    · rename_i hno
      rcases List.mem_append.mp hkv with h3 | h3
      · obtain ⟨k0, rfl, a, b⟩ := d.key kv h3
        have e : k0 ≠ k := fun z => hno (List.any_eq_true.mpr ⟨_, h3, by simp [z]⟩)
        exact ⟨k0, by rw [hg, if_neg e], a, b⟩
      · obtain rfl := List.mem_singleton.mp h3
        exact ⟨k, by rw [hg, if_pos rfl], h1, h2⟩
  · unfold putK
    split
    · rw [List.map_map]
      have : (kvs.map ((fun kv : Key × V => kv.1) ∘ fun kv => if kv.1 = .inl k then (kv.1, V.int v) else kv)) = kvs.map (·.1) := by
        refine List.map_congr_left fun kv _ => ?_
        show (if kv.1 = .inl k then (kv.1, V.int v) else kv).1 = kv.1
        split <;> rfl
      rw [this]
      exact d.nd
    · rename_i hno
      rw [List.map_append, List.nodup_append]
      refine ⟨d.nd, by simp, fun a ha b hb e => ?_⟩
      obtain ⟨kv, h3, rfl⟩ := List.mem_map.mp ha
      simp only [List.map_cons, List.map_nil, List.mem_singleton] at hb
      exact hno (List.any_eq_true.mpr ⟨kv, h3, by simp [e, hb]⟩)
  · rw [valV_put] at hj
    split at hj
    · cases hj
    · rename_i hne
      have hne' : j ≠ k := fun z => hne (by rw [z])
      rw [hg, if_neg hne']
      exact d.off j hj
open Classical in
/-- what the first i entries hold -/
noncomputable def seen (kvs : List (Key × V)) (f : Int → Int) (i : Nat) : Int → Int := fun k => if (Sum.inl k : Key) ∈ (kvs.take i).map (·.1) then f k else 0
theorem seen_zero {kvs : List (Key × V)} {f : Int → Int} : seen kvs f 0 = fun _ => 0 := by
  funext k
  simp [seen]
theorem Dn.at {kvs : List (Key × V)} {f : Int → Int} {lo hi : Int} (d : Dn kvs f lo hi) {i : Nat} {kv : Key × V} (h : kvs[i]? = some kv) : ∃ k : Int, kv = (.inl k, .int (f k)) ∧ lo ≤ k ∧ k ≤ hi ∧
    ∀ j, seen kvs f (i + 1) j = seen kvs f i j + if j = k then f k else 0 := by
  obtain ⟨k, rfl, a, b⟩ := d.key kv (List.mem_of_getElem? h)
  refine ⟨k, rfl, a, b, fun j => ?_⟩
  obtain ⟨hi', e⟩ := List.getElem?_eq_some_iff.mp h
  have ht : kvs.take (i + 1) = kvs.take i ++ [(.inl k, .int (f k))] := by
    rw [List.take_succ, h]
    rfl
  have hnew : (Sum.inl k : Key) ∉ (kvs.take i).map (·.1) := by
    have hnd := d.nd
    rw [show kvs = kvs.take (i + 1) ++ kvs.drop (i + 1) from (List.take_append_drop _ _).symm, ht] at hnd
    simp only [List.map_append, List.map_cons, List.map_nil] at hnd
    rw [List.nodup_append] at hnd
    have h2 := hnd.1
    rw [List.nodup_append] at h2
    exact fun z => h2.2.2 _ z _ (List.mem_singleton.mpr rfl) rfl
  unfold seen
  rw [ht, List.map_append]
  by_cases ejk : j = k
  · subst ejk
    rw [if_neg hnew, if_pos rfl, Int.zero_add]
    exact if_pos (List.mem_append.mpr (.inr (List.mem_singleton.mpr rfl)))
  · rw [if_neg ejk, Int.add_zero]
    congr 1
    simp only [List.map_cons, List.map_nil, List.mem_append, List.mem_singleton, eq_iff_iff]
    exact ⟨fun z => z.elim id fun z => absurd (Sum.inl.inj z) ejk, .inl⟩
theorem Dn.all {kvs : List (Key × V)} {f : Int → Int} {lo hi : Int} (d : Dn kvs f lo hi) : seen kvs f kvs.length = f := by
  funext k
  unfold seen
  rw [List.take_length]
  split
  · rfl
  · rename_i h
    cases hv : valV kvs (.inl k) with
    | none => exact (d.off k hv).symm
    | some v => exact absurd (List.mem_map.mpr ⟨_, valV_mem hv, rfl⟩) h
theorem mergeK_nd : ∀ (more kvs : List (Key × V)), ((kvs ++ more).map (·.1)).Nodup → mergeK kvs more = kvs ++ more
  | [], kvs, _ => by simp [mergeK]
  | p :: r, kvs, h => by
    have hnew : valV kvs p.1 = none := by
      cases hv : valV kvs p.1 with
      | none => rfl
      | some v =>
        rw [List.map_append, List.nodup_append] at h
        exact absurd rfl (h.2.2 _ (List.mem_map.mpr ⟨_, valV_mem hv, rfl⟩) p.1 (List.mem_map.mpr ⟨p, List.mem_cons_self, rfl⟩))
    show mergeK (putK kvs p.1 p.2) r = _
    rw [putK_new p.2 hnew, mergeK_nd r _ (by rw [List.append_assoc]; exact h), List.append_assoc]
    rfl
theorem Dn.filter {kvs : List (Key × V)} {f g : Int → Int} {lo hi : Int} (d : Dn kvs f lo hi) (far : Int) (hg : ∀ j, g j = if j = far then 0 else f j) :
    Dn (kvs.filter fun kv => decide (kv.1 ≠ .inl far)) g lo hi := by
  refine ⟨fun kv h => ?_, ?_, fun k h => ?_⟩
  · obtain ⟨h1, h2⟩ := List.mem_filter.mp h
    obtain ⟨k, rfl, a, b⟩ := d.key kv h1
    have : k ≠ far := fun e => by simp [e] at h2
    exact ⟨k, by rw [hg, if_neg this], a, b⟩
  · exact (List.filter_sublist.map _).nodup d.nd
  · rw [hg]
    split
    · rfl
    · rename_i hne
      refine d.off k ?_
      cases hv : valV kvs (.inl k) with
      | none => rfl
      | some v =>
        exfalso
        have hm : ((.inl k, v) : Key × V) ∈ kvs.filter fun kv => decide (kv.1 ≠ .inl far) := List.mem_filter.mpr ⟨valV_mem hv, by simp [hne]⟩
        unfold valV at h
        rw [Option.map_eq_none_iff] at h
        have := List.find?_eq_none.mp h _ hm
        simp at this
/-! ### steps -/
theorem k_dnewK {σ : L2.St} {H : Hp} {Q : VK} (h : ∀ p, H p = none → Q (.ref p) (upd H p (.dK []))) : tDNewK σ H Q := h
theorem k_dget2 {td ty tx : TE} {σ : L2.St} {H : Hp} {Q : VK} (h : td σ H fun x H1 => ∃ a, x = .ref a ∧ IsD H1 a ∧ ty σ H1 fun y H2 => tx σ H2 fun z H3 => ∃ o, DGet H3 a y o ∧ Q (o.getD z) H3) : tDGet2 td ty tx σ H Q := h
theorem k_dput {td ty tv : TE} {nx bk ct : L2.St → Hp → Prop} {rt : VK} {σ : L2.St} {H : Hp} (h : tv σ H fun v H1 => td σ H1 fun x H2 => ty σ H2 fun y H3 => ∃ a H4, x = .ref a ∧ DPut H3 a y v H4 ∧ nx σ H4) :
    sDPut td ty tv (Ends.mk nx rt bk ct) σ H := h
theorem k_dispC {k : Int} {v : V} {σ : L2.St} {H : Hp} {Q : VK} (q : ∀ p H', H p = none → Same H H' → H' p = some (.dK [(.inl k, v)]) → Q (.ref p) H') : tDisp [(tC (.int k), tC v)] σ H Q := fun p hp => by
  refine ⟨upd_same, [(.inl k, v)], rfl, by simp, ?_⟩
  refine q p _ hp ?_ upd_same
  rw [upd_upd]
  exact Same.new hp
/-- all but L stays -/
def Gx (L : Addr) (H H' : Hp) : Prop := ∀ b o, b ≠ L → H b = some o → H' b = some o
theorem Gx.trans {L : Addr} {H H1 H2 : Hp} (a : Gx L H H1) (b : Gx L H1 H2) : Gx L H H2 := fun c o n e => b c o n (a c o n e)
theorem Gx.same {L : Addr} {H H' : Hp} (a : Same H H') : Gx L H H' := fun c o _ e => a c o e
theorem Gx.put {L : Addr} {H : Hp} {o : HO} : Gx L H (upd H L o) := fun b u n e => by rw [upd_ne n]; exact e
end Nd

namespace Nd
open PySem PySem.Spec PyProof.Rows L2
/-! ### walks over a dict's entries -/
theorem k_lockS {t : TS} {nx bk ct : L2.St → Hp → Prop} {rt : VK} {σ : L2.St} {H : Hp} {d : Addr} {u : HO} (hd : H d = some u) (m : Mut (some u))
    (h : ∀ od, t (Ends.mk (fun σ' H' => H' d = some (.frz od u) ∧ nx σ' (upd H' d u)) (fun v H' => H' d = some (.frz od u) ∧ rt v (upd H' d u)) (fun σ' H' => H' d = some (.frz od u) ∧ bk σ' (upd H' d u))
      (fun σ' H' => H' d = some (.frz od u) ∧ ct σ' (upd H' d u))) σ (upd H d (.frz od u))) : tLock t (Ends.mk nx rt bk ct) σ H := ⟨d, u, hd, m, h⟩
theorem k_lockE {t : TE} {σ : L2.St} {H : Hp} {Q : VK} {d : Addr} {u : HO} (hd : H d = some u) (m : Mut (some u))
    (h : ∀ od, t σ (upd H d (.frz od u)) fun v H' => H' d = some (.frz od u) ∧ Q v (upd H' d u)) : tLockE t σ H Q := ⟨d, u, hd, m, h⟩
theorem k_items {td : TE} {σ : L2.St} {H : Hp} {R : It → Hp → Prop} (h : td σ H fun x H1 => ∃ d o kvs, x = .ref d ∧ H1 d = some (.frz o (.dK kvs)) ∧ R (Iti d o kvs) H1) : iItems td σ H R := h
theorem forIn_it {J : It} {n : Nat} {G : Hp → Prop} {Y : Nat → Hp → V → Hp → Prop} (w : Walk J n G Y) {g : TG} {tb : TS} {nx bk ct : L2.St → Hp → Prop} {rt : VK} {σ : L2.St} {H : Hp} (Pv : Nat → L2.St → Hp → Prop) (h0 : Pv 0 σ H)
    (hG : ∀ i σ H, i ≤ n → Pv i σ H → G H) (hs : ∀ i x σ H H', i < n → Pv i σ H → Y i H x H' → g x σ H' fun σ2 H2 => tb (Ends.mk (Pv (i + 1)) rt nx (Pv (i + 1))) σ2 H2) (hd : ∀ σ H, Pv n σ H → nx σ H) :
    ForIn J g tb (Ends.mk nx rt bk ct) σ H := for_it w Pv h0 hG hs hd
theorem pairs_mono {α β : Type} {F G : α → β → Prop} (h : ∀ a b, F a b → G a b) : ∀ {l : List α} {m : List β}, Paired F l m → Paired G l m
  | _, _, .nil => .nil
  | _, _, .cons a t => .cons (h _ _ a) (pairs_mono h t)
theorem pairs_len {α β : Type} {F : α → β → Prop} : ∀ {l : List α} {m : List β}, Paired F l m → l.length = m.length
  | _, _, .nil => rfl
  | _, _, .cons _ t => congrArg (· + 1) (pairs_len t)
def PairAt (H : Hp) (p : Addr) (kv : Key × V) : Prop := H p = some (.tup [kV kv.1, kv.2])
theorem filter_take {kvs : List (Key × V)} {c : Key × V → Bool} {i : Nat} {kv : Key × V} (h : kvs[i]? = some kv) : (kvs.take (i + 1)).filter c = (kvs.take i).filter c ++ if c kv = true then [kv] else [] := by
  rw [List.take_succ, h, List.filter_append]
  congr 1
  show List.filter c [kv] = _
  rw [List.filter_cons]
  rfl
theorem lcIn_items {K : PySem.W.Frag} {d : Addr} {od : Obj} {kvs : List (Key × V)} {i j : Nat} {tt : TT} {vs : List Nat} {σ : L2.St} {H1 : Hp} {Q : VK} (c : Key × V → Bool) (hd : H1 d = some (.frz od (.dK kvs))) (hz : kvs.length ≤ 50000)
    (h1 : ∀ x y, (((wipe σ vs).set i (some x)).set j (some y))[i]? = some (some x)) (h2 : ∀ x y, (((wipe σ vs).set i (some x)).set j (some y))[j]? = some (some y)) (hw : ∀ x y, wipe (((wipe σ vs).set i (some x)).set j (some y)) vs = wipe σ vs)
    (step : ∀ kv ∈ kvs, ∀ H2, Same H1 H2 → ∀ QT : Bool → Hp → Prop, (∀ H3, Same H2 H3 → QT (c kv) H3) → tt (((wipe σ vs).set i (some (kV kv.1))).set j (some kv.2)) H2 QT)
    (fin : ∀ p H' ps, H1 p = none → Same H1 H' → H' p = some (.lst (ps.map V.ref)) → Paired (PairAt H') ps (kvs.filter c) → Q (.ref p) H') :
    LcIn (Iti d od kvs) (gTup K 2 (gCons (gName i) (gCons (gName j) gNil))) tt (tTup (tCons (tVar i) (tCons (tVar j) tNil))) vs σ H1 Q := fun D hD =>
  lc_it walk_items (fun n H => Same H1 H ∧ ∃ ps : List Addr, H D = some (.lst (ps.map V.ref)) ∧ Paired (PairAt H) ps ((kvs.take n).filter c) ∧ ∀ p ∈ ps, p ≠ D)
    ⟨Same.new hD, [], upd_same, by rw [List.take_zero]; exact .nil, fun _ h => (nomatch h)⟩ (fun n H _ p => p.1 _ _ hd)
    (fun n x H H' hn p y => by
      obtain ⟨s1, ps, eD, hp, hoff⟩ := p
      obtain ⟨T, a, b, rfl, hT, rfl, ha, hb⟩ := y
      obtain ⟨kv, hkv⟩ : ∃ kv, kvs[n]? = some kv := ⟨kvs[n], by simp [hn]⟩
      simp only [hkv, Option.map_some] at ha hb
      cases ha
      cases hb
      have sT : Same H (upd H T (.tup [kV kv.1, kv.2])) := Same.new hT
      have hl : ps.length ≤ n := by
        rw [pairs_len hp]
        exact Nat.le_trans (List.length_filter_le _ _) (by rw [List.length_take]; omega)
      refine k_gtup (.inl (.inl upd_same)) rfl ?_
      refine k_gcons ?_
      refine k_gname ?_
      refine k_gcons ?_
      refine k_gname ?_
      refine k_gnil ?_
      refine ⟨hw _ _, step kv (List.mem_of_getElem? hkv) _ (s1.trans sT) _ fun H3 s3 => ?_⟩
      have eD3 := s3 _ _ (sT _ _ eD)
      have hp3 : Paired (PairAt H3) ps ((kvs.take n).filter c) := pairs_mono (fun a b h => s3 _ _ (sT _ _ h)) hp
      cases hc : c kv with
      | false =>
        rw [if_neg (by decide)]
        refine ⟨s1.trans (sT.trans s3), ps, eD3, ?_, hoff⟩
        rw [filter_take hkv, hc]
        simpa using hp3
      | true =>
        rw [if_pos rfl]
        refine k_tup (k_cons (k_var (h1 _ _) (k_cons (k_var (h2 _ _) (k_nil ⟨small64 (by simp), fun p hpn => ?_⟩)))))
        have nD : p ≠ D := fun e => by rw [e, eD3] at hpn; cases hpn
        have s4 : Same H3 (upd H3 p (.tup [kV kv.1, kv.2])) := Same.new hpn
        refine ⟨_, s4 _ _ eD3, ?_, fun b o e => ?_, ps ++ [p], ?_, ?_, fun z hz' => ?_⟩
        · rw [List.length_map]
          exact Nat.lt_of_le_of_lt hl (Nat.lt_of_lt_of_le hn (Nat.le_trans hz (by decide)))
        · rw [upd_ne (ne_of_none e hD)]
          exact s4 _ _ (s3 _ _ (sT _ _ (s1 _ _ e)))
        · rw [upd_same, List.map_append]
          rfl
        · rw [filter_take hkv, hc, if_pos rfl]
          have up : ∀ a b, a ≠ D → PairAt H3 a b → PairAt (upd (upd H3 p (.tup [kV kv.1, kv.2])) D (.lst (ps.map V.ref ++ [.ref p]))) a b := fun a b na h => by
            unfold PairAt
            rw [upd_ne na]
            exact s4 _ _ h
          refine Paired.snoc ?_ ?_
          · have : ∀ {l : List Addr} {m : List (Key × V)}, (∀ a ∈ l, a ≠ D) → Paired (PairAt H3) l m → Paired (PairAt (upd (upd H3 p (.tup [kV kv.1, kv.2])) D (.lst (ps.map V.ref ++ [.ref p])))) l m := by
              intro l m hl' h
              induction h with
              | nil => exact .nil
              | cons h t ih => exact .cons (up _ _ (hl' _ List.mem_cons_self) h) (ih fun a ha => hl' a (List.mem_cons_of_mem _ ha))
            exact this hoff hp3
          · unfold PairAt
            rw [upd_ne nD, upd_same]
        · rcases List.mem_append.mp hz' with h | h
          · exact hoff z h
          · rw [List.mem_singleton.mp h]
            exact nD)
    (fun H' p => by
      obtain ⟨s1, ps, eD, hp, _⟩ := p
      rw [List.take_length] at hp
      exact fin D H' ps hD s1 eD hp)
theorem pairs_sqT {K : PySem.W.Frag} {H : Hp} {ps : List Addr} {m : List (Key × V)} (h : Paired (PairAt H) ps m) : Paired (fun p (kv : Key × V) => SqT K H p [kV kv.1, kv.2]) ps m := pairs_mono (fun _ _ e => .inl (.inl e)) h
end Nd
namespace Nd
open PySem PySem.Spec PyProof.Rows L2
theorem lcIn_enum {K : PySem.W.Frag} {a : Addr} {xs : List V} {i j : Nat} {te : TE} {vs : List Nat} {σ : L2.St} {H1 : Hp} {Q : VK} (v : Nat → V) (hx : SqL K H1 a xs) (hz : xs.length ≤ 50000)
    (hw : ∀ x y, wipe (((wipe σ vs).set i (some x)).set j (some y)) vs = wipe σ vs)
    (step : ∀ n x H2, xs[n]? = some x → Same H1 H2 → ∀ QE : VK, (∀ H4, Same H2 H4 → QE (v n) H4) → te (((wipe σ vs).set i (some (.int (n : Nat)))).set j (some x)) H2 QE)
    (fin : ∀ p H', H1 p = none → Same H1 H' → H' p = some (.lst ((List.range xs.length).map v)) → Q (.ref p) H') :
    LcIn (Ite K a) (gTup K 2 (gCons (gName i) (gCons (gName j) gNil))) tYes te vs σ H1 Q := fun D hD =>
  lc_it walk_enum (fun n H => Same H1 H ∧ H D = some (.lst ((List.range n).map v))) ⟨Same.new hD, upd_same⟩ (fun n H _ p => p.1.seq hx)
    (fun n x H H' hn p y => by
      obtain ⟨s1, eD⟩ := p
      obtain ⟨T, p1, p2, rfl, hT, rfl, ha, hb⟩ := y
      obtain rfl : p1 = .int (n : Nat) := (Option.some.inj ha).symm
      have sT : Same H (upd H T (.tup [.int (n : Nat), p2])) := Same.new hT
      refine k_gtup (.inl (.inl upd_same)) rfl ?_
      refine k_gcons ?_
      refine k_gname ?_
      refine k_gcons ?_
      refine k_gname ?_
      refine k_gnil ?_
      refine ⟨hw _ _, ?_⟩
      refine k_tYes ?_
      rw [if_pos rfl]
      refine step n p2 _ hb (s1.trans sT) _ fun H4 s4 => ?_
      refine ⟨_, s4 _ _ (sT _ _ eD), ?_, fun b o e => ?_, ?_⟩
      · rw [List.length_map, List.length_range]
        exact Nat.lt_of_lt_of_le hn (Nat.le_trans hz (by decide))
      · rw [upd_ne (ne_of_none e hD)]
        exact s4 _ _ (sT _ _ (s1 _ _ e))
      · rw [upd_same, List.range_succ, List.map_append]
        rfl)
    (fun H' p => fin D H' hD p.1 p.2)
theorem sum_two (f : Nat → Int) : ∀ l : List Nat, (l.map fun i => 2 * f i).sum = 2 * (l.map f).sum
  | [] => rfl
  | a :: l => by
    rw [List.map_cons, List.sum_cons, List.map_cons, List.sum_cons, sum_two f l]
    omega
theorem sum_sumF (far : Int) : ∀ t : Nat, ((List.range (t + 1)).map fun i => (fst far i : Int) * 2 ^ (t - i)).sum = (sumF far t : Int)
  | 0 => by simp [sumF]
  | t + 1 => by
    rw [List.range_succ, List.map_append, List.sum_append]
    have e : ((List.range (t + 1)).map fun i => (fst far i : Int) * 2 ^ (t + 1 - i)) = (List.range (t + 1)).map fun i => 2 * ((fst far i : Int) * 2 ^ (t - i)) := by
      refine List.map_congr_left fun i hi => ?_
      have : i < t + 1 := List.mem_range.mp hi
      rw [show t + 1 - i = (t - i) + 1 by omega, Int.pow_succ]
      grind
    rw [e, sum_two fun i => (fst far i : Int) * 2 ^ (t - i), sum_sumF far t]
    simp [sumF]
theorem rep2 {q : Rat} (h1 : q.num.natAbs ≤ 999999999998) (h2 : q.den ≤ 999999999998) : PyData.showable (.list [fq q, fq q]) = true ∧ PyData.depth (.list [fq q, fq q]) ≤ 60 ∧ (PyData.shown (.list [fq q, fq q])).length ≤ sizeLine := by
  have l1 : q.num.natAbs.log2 < 1920 := Nat.lt_of_lt_of_le (PySem.Flt.log2_lt_of (k := 40) (by decide) (by omega)) (by decide)
  have l2 : q.den.log2 < 1920 := Nat.lt_of_lt_of_le (PySem.Flt.log2_lt_of (k := 40) (by decide) (by omega)) (by decide)
  have i1 : PyData.intsShort 13 (.int q.num) = true := intsShort_of_noneOrIn (lo := -999999999999) (hi := 999999999999) (by decide) (by decide) _ (by simp [noneOrIn]; omega)
  have i2 : PyData.intsShort 13 (.int (q.den : Int)) = true := intsShort_of_noneOrIn (lo := -999999999999) (hi := 999999999999) (by decide) (by decide) _ (by simp [noneOrIn]; omega)
  refine ⟨by simp [PyData.showable, PyData.showableAll, fq, l1, l2], by simp [PyData.depth, PyData.depthAll, fq], ?_⟩
  refine Nat.le_trans (shown_le13 ?_ ?_) (by decide)
  · simp [PyData.layable0, PyData.canLay0, PyData.canLayAll0, PyData.depth, PyData.depthAll, PyData.weight, PyData.weightAll, fq]
    split <;> split <;> omega
  · simp [PyData.intsShort, PyData.intsShortAll, fq] at i1 i2 ⊢
    exact ⟨i1, i2⟩
theorem divInt_le {u w : Int} (h0 : w ≠ 0) : (Rat.divInt u w).num.natAbs ≤ u.natAbs ∧ (Rat.divInt u w).den ≤ w.natAbs := by
  constructor
  · rw [Rat.num_divInt]
    rw [Int.natAbs_ediv_of_dvd]
    · refine Nat.le_trans (Nat.div_le_self _ _) ?_
      rw [Int.natAbs_mul, Int.natAbs_sign_of_ne_zero h0, Nat.one_mul]
      exact Nat.le_refl _
    · exact Int.dvd_mul_of_dvd_right (Int.gcd_dvd_right ..)
  · rw [Rat.den_divInt, if_neg h0]
    exact Nat.div_le_self _ _
theorem frAll_dp {K : PySem.W.Frag} {r : Addr} {H : Hp} : ∀ {ys : List V} {qs : List Rat}, Paired (Fr r H) ys qs → DpAll K H ys (qs.map fq)
  | _, _, .nil => .nil
  | _, _, .cons a t => .cons a.dp (frAll_dp t)
theorem lcIn_frs {K : PySem.W.Frag} {a : Addr} {xs : List V} {j : Nat} {te : TE} {vs : List Nat} {σ : L2.St} {H1 : Hp} {Q : VK} {r : Addr} {m : Nat} (q : Nat → Rat) (R : Rid r m H1) (hx : SqL K H1 a xs) (hz : xs.length ≤ 50000)
    (hw : ∀ x, wipe ((wipe σ vs).set j (some x)) vs = wipe σ vs)
    (step : ∀ n x H2, xs[n]? = some x → Same H1 H2 → ∀ QE : VK, (∀ H4 y, Same H2 H4 → FrN H2 H4 y (q n) → QE y H4) → te ((wipe σ vs).set j (some x)) H2 QE)
    (fin : ∀ p H' ys, H1 p = none → Same H1 H' → H' p = some (.lst ys) → Paired (Fr r H') ys ((List.range xs.length).map q) → Q (.ref p) H') :
    LcIn (Itl K a) (gName j) tYes te vs σ H1 Q := fun D hD =>
  lc_list (xs := xs) (fun n H => Same H1 H ∧ ∃ ys, H D = some (.lst ys) ∧ Paired (Fr r H) ys ((List.range n).map q)) ⟨Same.new hD, [], upd_same, .nil⟩ (fun n H _ p => p.1.seq hx)
    (fun n x H hn p => by
      obtain ⟨s1, ys, eD, hp⟩ := p
      have hlt : n < xs.length := (List.getElem?_eq_some_iff.mp hn).1
      refine ⟨hw _, ?_⟩
      refine k_tYes ?_
      rw [if_pos rfl]
      refine step n x H hn s1 _ fun H4 y s4 hy => ?_
      have fy := hy.fr (R.same s1)
      have eD4 := s4 _ _ eD
      refine ⟨ys, eD4, ?_, fun b o e => ?_, ys ++ [y], upd_same, ?_⟩
      · rw [pairs_len hp, List.length_map, List.length_range]
        exact Nat.lt_of_lt_of_le hlt (Nat.le_trans hz (by decide))
      · rw [upd_ne (ne_of_none e hD)]
        exact s4 _ _ (s1 _ _ e)
      · rw [List.range_succ, List.map_append]
        exact Paired.snoc (pairs_mono (fun _ _ h => Fr.put (h.same s4) eD4) hp) (fy.put eD4))
    (fun H' p => by
      obtain ⟨s1, ys, eD, hp⟩ := p
      exact fin D H' ys hD s1 eD hp)
theorem eq_lists {as bs : List Rat} (h : as = bs) : PyData.eqv (.list (as.map fq)) (.list (bs.map fq)) = true := by
  subst h
  simp only [PyData.eqv, eqvs_fq]
theorem k_iEnum {K : PySem.W.Frag} {ta : TA} {σ : L2.St} {H : Hp} {R : It → Hp → Prop} (h : ta σ H fun vs H1 => ∃ a xs, vs = [.ref a] ∧ SqL K H1 a xs ∧ R (Ite K a) H1) : iEnum K ta σ H R := h
theorem ch_pos : ∀ {n k : Nat}, k ≤ n → 0 < ch n k
  | _, 0, _ => by rw [ch_zero]; decide
  | 0, k + 1, h => absurd h (by omega)
  | n + 1, k + 1, h => by
    have := ch_pos (n := n) (k := k) (by omega)
    rw [ch_succ]
    omega
theorem two_cast (t : Nat) : (2 : Int) ^ t = ((2 ^ t : Nat) : Int) := by simp
theorem fsR_num {far : Int} {t : Nat} : (fsR far t).num = 0 ↔ fst far t = 0 := by
  rw [Rat.num_eq_zero, fsR, two_cast, Rat.divInt_ofNat, Rat.mkRat_eq_zero (by have := Nat.two_pow_pos t; omega)]
  omega
theorem fst_zero {far t : Nat} (h1 : 1 ≤ far) (ht : 1 ≤ t) : fst (far : Int) t = 0 ↔ (t < far ∨ ((t : Int) - far) % 2 = 1) := by
  obtain ⟨n, rfl⟩ : ∃ n, t = n + 1 := ⟨t - 1, by omega⟩
  have hb := ballot n (far : Int) (by omega)
  constructor
  · intro h0
    rw [h0] at hb
    by_cases z : n + 1 < far
    · exact .inl z
    · refine .inr ?_
      by_cases hp : ((far : Int) + ((n + 1 : Nat) : Int)) % 2 = 0
      · obtain ⟨k, hk⟩ := W_par hp (by omega)
        rw [hk, W_ch] at hb
        have p := ch_pos (n := n + 1) (k := k) (by omega)
        have : (2 * (k : Int) - ((n + 1 : Nat) : Int)) * (ch (n + 1) k : Int) ≠ 0 := Int.mul_ne_zero (by omega) (by omega)
        exact absurd hb.symm (by simpa using this)
      · omega
  · rintro (z | z)
    · exact fst_far _ _ (by omega)
    · rw [W_odd (n + 1) (far : Int) (by omega)] at hb
      have : ((n : Int) + 1) * (fst (far : Int) (n + 1) : Int) = 0 := by simpa using hb
      rcases Int.mul_eq_zero.mp this with e | e <;> omega
theorem den_dvd {u w : Int} (h0 : w ≠ 0) : ((Rat.divInt u w).den : Int) ∣ w := by
  rw [Rat.den_divInt, if_neg h0]
  refine Int.ofNat_dvd_left.mpr ?_
  exact Nat.div_dvd_of_dvd (Nat.gcd_dvd_left _ _)
theorem fst_self (t : Nat) (h : 1 ≤ t) : fst (t : Int) t = 1 := by
  obtain ⟨n, rfl⟩ : ∃ n, t = n + 1 := ⟨t - 1, by omega⟩
  have e := fst_eq n ((n + 1 : Nat) : Int) (by omega)
  rw [show ((n + 1 : Nat) : Int) - 1 = 2 * (n : Int) - n by omega, W_ch, ch_self, W_far n _ (by omega)] at e
  omega
theorem one_over (k : Nat) : (Rat.divInt 1 (2 ^ k)).num = 1 ∧ ((Rat.divInt 1 (2 ^ k)).den : Int) = 2 ^ k := by
  have h := halved_rat (u := 1) (v := 0) (k := k) (a := 0) (by decide)
  rw [Nat.min_eq_right (Nat.zero_le k)] at h
  refine ⟨h.1.symm.trans (by simp), h.2.symm⟩
end Nd

namespace Nd
open PySem PySem.Spec PyProof.Rows L2
/-! ### all that begin far off come there: by the first time, then again -/
def conv (far : Int) : Nat → Nat → Nat
  | 0, t => fst far 0 * W t 0
  | k + 1, t => conv far k t + fst far (k + 1) * W (t - (k + 1)) 0
theorem conv_zero (t : Nat) : ∀ k : Nat, conv 0 k t = W t 0
  | 0 => by simp [conv, fst]
  | k + 1 => by rw [conv, conv_zero t k, show fst 0 (k + 1) = 0 from if_pos rfl]; simp
theorem conv_succ {far : Int} (h : far ≠ 0) (t : Nat) : ∀ k : Nat, conv far (k + 1) (t + 1) = conv (far - 1) k t + conv (far + 1) k t
  | 0 => by
    have e0 : fst far 0 = 0 := if_neg h
    have e1 : fst far (0 + 1) = fst (far - 1) 0 + fst (far + 1) 0 := if_neg h
    show fst far 0 * W (t + 1) 0 + fst far (0 + 1) * W (t + 1 - (0 + 1)) 0 = fst (far - 1) 0 * W t 0 + fst (far + 1) 0 * W t 0
    rw [e0, e1, Nat.zero_mul, Nat.zero_add, Nat.add_mul]
    rfl
  | k + 1 => by
    have e1 : fst far (k + 1 + 1) = fst (far - 1) (k + 1) + fst (far + 1) (k + 1) := if_neg h
    show conv far (k + 1) (t + 1) + fst far (k + 1 + 1) * W (t + 1 - (k + 1 + 1)) 0 = (conv (far - 1) k t + fst (far - 1) (k + 1) * W (t - (k + 1)) 0) + (conv (far + 1) k t + fst (far + 1) (k + 1) * W (t - (k + 1)) 0)
    rw [conv_succ h t k, e1, Nat.add_mul, show t + 1 - (k + 1 + 1) = t - (k + 1) by omega]
    omega
theorem conv_all : ∀ (t : Nat) (far : Int), conv far t t = W t far
  | 0, far => by
    by_cases h : far = 0
    · subst h
      rfl
    · show fst far 0 * W 0 0 = W 0 far
      rw [show fst far 0 = 0 from if_neg h, show W 0 far = 0 from if_neg h, Nat.zero_mul]
  | t + 1, far => by
    by_cases h : far = 0
    · subst h
      exact conv_zero _ _
    · rw [conv_succ h, conv_all t, conv_all t, W_succ]
/-! ### where the first share is greatest -/
def fb (far most : Nat) : Nat := far + 2 * min ((most - far) / 2) ((far * far + 1 - 3 * far) / 6)
/-- two ticks on -/
theorem ch_two (t k : Nat) (hk : k ≤ t) : (ch (t + 2) (k + 1) : Int) * (((k : Int) + 1) * ((t : Int) + 1 - k)) = ((t : Int) + 2) * ((t : Int) + 1) * (ch t k : Int) := by
  have h1 := ch_mul (t + 1) k
  have e : (ch (t + 2) (k + 1) : Int) = (ch (t + 1) k : Int) + (ch (t + 1) (k + 1) : Int) := by rw [ch_succ]; omega
  rw [e]
  have h3 : ((t : Int) + 1 - k) * (ch (t + 1) k : Int) = ((t : Int) + 1) * (ch t k : Int) := by
    cases k with
    | zero => rw [ch_zero, ch_zero]; simp
    | succ j =>
      have a := ch_mul t j
      rw [ch_succ]
      simp only [Int.natCast_add, Int.natCast_one] at a ⊢
      grind
  simp only [Int.natCast_add, Int.natCast_one] at h1
  grind
theorem fst_two {far k : Nat} (h1 : 1 ≤ far) : (fst (far : Int) (far + 2 * k + 2) : Int) * (((k : Int) + 1) * ((far : Int) + k + 1)) = (((far : Int) + 2 * k) * ((far : Int) + 2 * k + 1)) * (fst (far : Int) (far + 2 * k) : Int) := by
  obtain ⟨n, hn⟩ : ∃ n, far + 2 * k = n + 1 := ⟨far + 2 * k - 1, by omega⟩
  have b1 := ballot n (far : Int) (by omega)
  have b2 := ballot (n + 2) (far : Int) (by omega)
  have w1 : W (n + 1) (far : Int) = ch (n + 1) k := by
    have := W_ch (n + 1) (far + k)
    rw [show (2 * ((far + k : Nat) : Int) - ((n + 1 : Nat) : Int)) = (far : Int) by omega] at this
    rw [this]
    exact ch_sym _ _ _ (by omega)
  have w2 : W (n + 2 + 1) (far : Int) = ch (n + 2 + 1) (k + 1) := by
    have := W_ch (n + 2 + 1) (far + k + 1)
    rw [show (2 * ((far + k + 1 : Nat) : Int) - ((n + 2 + 1 : Nat) : Int)) = (far : Int) by omega] at this
    rw [this]
    exact ch_sym _ _ _ (by omega)
  have c := ch_two (n + 1) k (by omega)
  rw [w1] at b1
  rw [w2] at b2
  rw [hn, show n + 1 + 2 = n + 2 + 1 by omega]
  have hf : (far : Int) = (n : Int) + 1 - 2 * k := by omega
  have p : ((n : Int) + 3) ≠ 0 := by omega
  simp only [Int.natCast_add, Int.natCast_one] at c b1 b2 ⊢
  rw [show n + 2 + 1 = n + 1 + 2 by omega] at b2 ⊢
  refine Int.eq_of_mul_eq_mul_left p ?_
  have b2' : ((n : Int) + 3) * (fst (far : Int) (n + 1 + 2) : Int) = (far : Int) * (ch (n + 1 + 2) (k + 1) : Int) := by
    have : ((n : Int) + ((2 : Nat) : Int) + 1) = (n : Int) + 3 := by omega
    rw [← this]
    exact b2
  have e1 : (far : Int) + k + 1 = (n : Int) + 1 + 1 - k := by omega
  have e2 : (far : Int) + 2 * k = (n : Int) + 1 := by omega
  rw [e1, e2]
  calc ((n : Int) + 3) * ((fst (far : Int) (n + 1 + 2) : Int) * (((k : Int) + 1) * ((n : Int) + 1 + 1 - k)))
      = (((n : Int) + 3) * (fst (far : Int) (n + 1 + 2) : Int)) * (((k : Int) + 1) * ((n : Int) + 1 + 1 - k)) := by grind
    _ = (far : Int) * ((ch (n + 1 + 2) (k + 1) : Int) * (((k : Int) + 1) * ((n : Int) + 1 + 1 - k))) := by rw [b2']; grind
    _ = (far : Int) * (((n : Int) + 1 + 2) * ((n : Int) + 1 + 1) * (ch (n + 1) k : Int)) := by rw [c]
    _ = ((n : Int) + 3) * (((n : Int) + 1) * ((n : Int) + 1 + 1) * (fst (far : Int) (n + 1) : Int)) := by grind
end Nd
namespace Nd
open PySem PySem.Spec PyProof.Rows L2
theorem FrN.same {H H1 H' : Hp} {v : V} {q : Rat} (h : FrN H H1 v q) (s : Same H1 H') : FrN H H' v q := by
  obtain ⟨a, h1, h2, h3⟩ := h
  exact ⟨a, h1, h2, s _ _ h3⟩
theorem FrN.put {D : Addr} {H H1 : Hp} {xs ys : List V} {v : V} {q : Rat} (h : FrN H H1 v q) (hD : H1 D = some (.lst xs)) : FrN H (upd H1 D (.lst ys)) v q := by
  obtain ⟨a, h1, h2, h3⟩ := h
  refine ⟨a, h1, h2, ?_⟩
  rw [upd_ne]
  · exact h3
  · rintro rfl
    rw [hD] at h3
    cases h3
theorem lcIn_frsR {lo : Int} {n : Nat} {j : Nat} {te : TE} {vs : List Nat} {σ : L2.St} {H1 : Hp} {Q : VK} (q : Nat → Rat) (hz : n ≤ 50000)
    (hw : ∀ x, wipe ((wipe σ vs).set j (some x)) vs = wipe σ vs)
    (step : ∀ i H2, i < n → Same H1 H2 → ∀ QE : VK, (∀ H4 y, Same H2 H4 → FrN H2 H4 y (q i) → QE y H4) → te ((wipe σ vs).set j (some (.int (lo + i)))) H2 QE)
    (fin : ∀ p H' ys, H1 p = none → Same H1 H' → H' p = some (.lst ys) → Paired (FrN H1 H') ys ((List.range n).map q) → Q (.ref p) H') :
    LcIn (Itr lo n) (gName j) tYes te vs σ H1 Q := fun D hD =>
  lc_range (lo := lo) (n := n) (fun i H => Same H1 H ∧ ∃ ys, H D = some (.lst ys) ∧ Paired (FrN H1 H) ys ((List.range i).map q)) ⟨Same.new hD, [], upd_same, .nil⟩
    (fun i H hi p => by
      obtain ⟨s1, ys, eD, hp⟩ := p
      refine ⟨hw _, ?_⟩
      refine k_tYes ?_
      rw [if_pos rfl]
      refine step i H hi s1 _ fun H4 y s4 hy => ?_
      have eD4 := s4 _ _ eD
      refine ⟨ys, eD4, ?_, fun b o e => ?_, ys ++ [y], upd_same, ?_⟩
      · rw [pairs_len hp, List.length_map, List.length_range]
        exact Nat.lt_of_lt_of_le hi (Nat.le_trans hz (by decide))
      · rw [upd_ne (ne_of_none e hD)]
        exact s4 _ _ (s1 _ _ e)
      · rw [List.range_succ, List.map_append]
        exact Paired.snoc (pairs_mono (fun _ _ h => FrN.put (h.same s4) eD4) hp) ((hy.from s1).put eD4))
    (fun H' p => by
      obtain ⟨s1, ys, eD, hp⟩ := p
      exact fin D H' ys hD s1 eD hp)
end Nd

namespace Nd
open PySem PySem.Spec PyProof.Rows L2
/-! ### an error that stays known behind its clause -/
/-- at a: an error of the class cls, its own dict d -/
def ExV (cls : Value) (d : Option Addr) (a : Addr) : HO := .ext fun g => ∃ (ob : Obj) (fs : Array Value), g.get? a = some ob ∧ Zc cls d ob ∧ ob.data = .fields fs
theorem exV_ok {P : Program} {w : World} {H : Hp} {g : Heap} {a : Addr} {cls : Value} {d : Option Addr} {ob : Obj} {fs : Array Value} (e : g.get? a = some ob) (z : Zc cls d ob) (hd : ob.data = .fields fs) : ObjOk P w H g a (ExV cls d a) :=
  ⟨⟨ob, fs, e, z, hd⟩, ⟨ob, e⟩, fun g1 g2 ⟨o1, f1, e1, z1, d1⟩ k => ⟨o1, f1, k _ e1, z1, d1⟩⟩
theorem Inv.track {X : Cx} {pins : List (Addr × Obj)} {σ : L2.St} {H : Hp} {s : Shared} {a : Addr} {cls : Value} {d : Option Addr} {ob : Obj} {fs : Array Value} (I : Inv X pins σ H s) (e : s.heap.get? a = some ob) (z : Zc cls d ob) (hd : ob.data = .fields fs)
    (n0 : X.s_0.heap.get? a = none) (n : H a = none) (nl : a ≠ X.env.locals) (np : ∀ p ∈ X.pn ++ pins, p.1 ≠ a) : Inv X pins σ (upd H a (ExV cls d a)) s where
  ok := I.ok
  os := I.os
  bare := I.bare
  base := {
    keep := I.base.keep
    slot := I.base.slot
    free := fun b o h1 h2 h3 => by
      rw [upd_ne (fun t => by rw [t, n0] at h1; cases h1)]
      exact I.base.free b o h1 h2 h3
    there := I.base.there
    tups := fun b xs h1 => by
      have h2 := I.base.tups b xs h1
      rw [upd_ne (ne_of_none h2 n)]
      exact h2
    frzs := fun b o u h1 => by
      have h2 := I.base.frzs b o u h1
      rw [upd_ne (ne_of_none h2 n)]
      exact h2
    tbls := fun b ps h1 => by
      obtain ⟨more, h2⟩ := I.base.tbls b ps h1
      exact ⟨more, by rw [upd_ne (ne_of_none h2 n)]; exact h2⟩ }
  loc := I.loc
  cell := I.cell
  free := by rw [upd_ne (Ne.symm nl)]; exact I.free
  freeC := fun x c hc => by
    rw [upd_ne]
    · exact I.freeC x c hc
    · rintro rfl
      obtain ⟨v, o2, h1, h2⟩ := I.cell x _ hc
      rw [e] at h1
      cases h1
      rw [hd] at h2
      cases h2
  pin := fun p hp => by
    obtain ⟨h1, h2, h3⟩ := I.pin p hp
    exact ⟨h1, by rw [upd_ne (np p hp)]; exact h2, h3⟩
  hok := L2.HOk.laidN I.hok (fun _ _ t => t) n (exV_ok e z hd)
  len := I.len
/-- what a clause wishes that keeps the error it caught -/
def wKeep (K : PySem.W.Frag) (c : Value) (i : Nat) (ts : Addr → Value → Option Addr → TS) (D : Ends) : WX := fun cls d σ H =>
  PySem.W.exmOne K cls c = some true ∧ ∀ a, H a = none → ts a cls d (Ends.mk (fun σ2 H2 => D.nx (σ2.set i none) (upd H2 a (ExV cls d a))) (fun _ _ => False) (fun _ _ => False) (fun _ _ => False)) (σ.set i (some (.ref a))) H
/-- try: body, which always raises / except x as n: suite, which ends -/
theorem ps_tryX {X : Cx} {x n : Str} {c : Value} {i : Nat} {body su : List Stmt} {b0 : Stmt} {q1 q2 q3 : Pos} {tb : WX → TS} {ts : Addr → Value → Option Addr → TS} (hst : X.stack = X.env :: X.outer) (hfr : X.env.frame = some X.env.locals) (hex : X.ex = [])
    (nd : X.N.Nodup) (hi : X.N[i]? = some n) (hln : X.env.kindOf n = some .local) (hc : Names X x c)
    (hB : ∀ (W : WX) (pn : List (Addr × Obj)) (xe : Value → Shared → Prop), Takes (X.tr pn xe) W → PassesOwn (model X.prog X.w) X.A X.env xe → PSs (X.tr pn xe) body (tb W))
    (hS : ∀ (a : Addr) (ob : Obj) (cls : Value) (d : Option Addr) (pn : List (Addr × Obj)), Zc cls d ob → (∃ fs, ob.data = .fields fs) → PSs (X.suite a ((a, ob) :: pn)) (b0 :: su) (ts a cls d)) :
    PS X (.Try body [.ExceptHandler (some (.Name x q1)) (some n) (b0 :: su) q2] [] [] q3) (fun D σ H => tb (wKeep X.K c i ts D) (Ends.mk (fun _ _ => False) (fun _ _ => False) (fun _ _ => False) (fun _ _ => False)) σ H) := by
  refine ⟨fun pins s σ H D I rd => ?_⟩
  have ok := I.ok
  have hA : X.A.frames = some (X.env :: X.outer) := by rw [ok.frames, hst]
  have own : Loc X.env.scope n := .inl hln
  refine wpAny_Try_except ?_
  let up1 : Value → Shared → Prop := fun e t => wpAny (model X.prog X.w) X.A (noteFrame e X.env) (fun _ t2 => wpAny (model X.prog X.w) X.A (setFlight e none) (fun _ t3 =>
    wpAny (model X.prog X.w) X.A (handleBy e X.env [.ExceptHandler (some (.Name x q1)) (some n) (b0 :: su) q2]) (SP X pins D) X.xe t3) X.xe t2) X.xe t
  refine wpAny_mono ((hB (wKeep X.K c i ts D) (X.pn ++ pins) up1 (fun u t xx => ?_) PassesOwn.looking).run [] s σ H _ (I.toTry _) rd) (fun fl t hsp => ?_) (fun e t h => h)
  · obtain ⟨a, B, sI, pns, σ1, H1, cls, d, rfl, J1, nb, upS, sky, na, os, bare, hyes, hrd⟩ := xx
    have J : Inv X pins σ1 H1 sI := J1.ofTry ok
    replace sky : Sky B (X.env :: X.outer) a (Zc cls d) X.env.locals t.heap := hst ▸ sky
    change wpAny (model X.prog X.w) X.A (noteFrame (.ref a) X.env) _ _ _
    refine Sky.land Zc.steady hA hfr sky fun g3 f3 u3 => ?_
    have J3 : Inv X pins σ1 H1 { t with heap := g3 } := J.landed nb f3.1 (upS.trans u3) os bare
    obtain ⟨o3, v3, e3, z3, d3⟩ := f3.there
    have frn : a ∉ frs (X.env :: X.outer) := fun hm => by
      obtain ⟨_, o', e', no⟩ := f3.2.2.1.mem hm
      rw [e3] at e'
      cases e'
      exact no _ d3
    have nL : a ≠ X.env.locals := fun z => frn (List.mem_filterMap.mpr ⟨X.env, List.mem_cons_self, by rw [hfr, z]⟩)
    have nF : a ∉ X.fs := fun hm => by
      obtain ⟨e, he, q⟩ := List.mem_filterMap.mp hm
      exact frn (List.mem_filterMap.mpr ⟨e, List.mem_cons_of_mem _ he, q⟩)
    have notI : ∀ o, sI.heap.get? a ≠ some o := fun o e => by
      have := nb a o e (hst ▸ frn)
      rw [f3.2.1] at this
      cases this
    have n0 : X.s_0.heap.get? a = none := by
      cases h0 : X.s_0.heap.get? a with
      | none => rfl
      | some o =>
        obtain ⟨o', e'⟩ := J.base.there a o h0 (by rw [hex]; exact List.not_mem_nil)
        exact (notI _ e').elim
    have npin : ∀ p ∈ X.pn ++ pins, p.1 ≠ a := fun p hp z => notI p.2 (z ▸ (J.pin p hp).1)
    have S3 := J3.suite e3 d3 na nL nF
    refine wpAny_handleBy_cons (codeAny_handlers_test ?_) (by intro q; cases q)
    have LT : PySem.W.Looks (model X.prog X.w) g3 (typeOf (.ref a)) cls := fun A Q E s k q => wpAny_typeOf_ref (k _ _ e3) (z3.1.symm ▸ q)
    have LM := PySem.W.exm_one (M := model X.prog X.w) J3.kIn LT hyes
    have nm : ∀ {Q : Value → Shared → Prop} {E : Value → Shared → Prop}, Q c { t with heap := g3 } → wpAny (model X.prog X.w) (X.A.mark (some (.ref a))) (eval (.Name x q1) X.env) Q E { t with heap := g3 } := fun {Q E} k => by
      obtain ⟨hg, hdb, hm | ⟨hm, hv, hnn⟩⟩ := hc
      · exact ld_glob (X := X.suite a ((a, o3) :: (X.pn ++ pins))) S3 hg hm k hdb
      · exact ld_blt (X := X.suite a ((a, o3) :: (X.pn ++ pins))) S3 hg hm hv k hnn hdb
    refine nm (LM.here ?_)
    refine codeAny_handlers_suite_as ?_
    refine HandSPX.lands_againZ f3 fun g4 f4 u4 => ?_
    have J4 : Inv X pins σ1 H1 { t with heap := g4 } := J.landed nb f4.1 ((upS.trans u3).trans u4) os bare
    obtain ⟨o4, v4, e4, z4, d4⟩ := f4.there
    refine store_ok (X := X.suite a ((a, o4) :: (X.pn ++ pins))) (v := .ref a) (J4.suite e4 d4 na nL nF) nd hi own rfl (fun s5 S5 => ?_) (.inr hln)
    refine wpAny_mono ((hS a o4 cls d (X.pn ++ pins) z4 ⟨_, d4⟩).run [] s5 _ H1 _ S5 (hrd a na)) (fun fl s6 hsp => ?_) (fun _ _ z => z.elim)
    cases fl with
    | next =>
      obtain ⟨σ6, H6, S6, q6⟩ := hsp
      obtain ⟨p1, p2, _⟩ := S6.pin (a, o4) (by simp)
      exact gone_ok (Inv.track (S6.unsuite ok) p1 z4 d4 n0 p2 nL npin) nd hi hln fun s7 J7 => ⟨_, _, J7, q6⟩
    | brk =>
      obtain ⟨σ6, H6, S6, q6⟩ := hsp
      exact q6.elim
    | cont =>
      obtain ⟨σ6, H6, S6, q6⟩ := hsp
      exact q6.elim
    | ret u =>
      obtain ⟨v6, σ6, H6, S6, r6, q6⟩ := hsp
      exact q6.elim
  · cases fl with
    | next =>
      obtain ⟨_, _, _, q⟩ := hsp
      exact q.elim
    | brk =>
      obtain ⟨_, _, _, q⟩ := hsp
      exact q.elim
    | cont =>
      obtain ⟨_, _, _, q⟩ := hsp
      exact q.elim
    | ret u =>
      obtain ⟨_, _, _, _, _, q⟩ := hsp
      exact q.elim
end Nd

namespace Nd
open PySem PySem.Spec PyProof.Rows L2
/-! ### an error that was kept: its class, its fields -/
theorem exV_inst {X : Cx} {pins : List (Addr × Obj)} {σ : L2.St} {H : Hp} {s : Shared} {a C d : Addr} {fs : List (Str × V)} (I : Inv X pins σ H s) (ha : H a = some (ExV (.ref C) (some d) a)) (hd : H d = some (.xd fs)) :
    ∃ (ob od : Obj) (m : Str → Option Value), PySem.W.InstAt s.heap a ob C (some od) ∧ (∀ f, PySem.W.lookIn f od = some (m f)) ∧ ∀ f, RelO (fs.lookup f) (m f) := by
  obtain ⟨⟨ob, vs, e, z, dt⟩, _⟩ := I.hok a _ ha
  obtain ⟨m, hns, hr⟩ : ∃ m, s.heap.Ns1 d m ∧ ∀ f, RelO (fs.lookup f) (m f) := I.hok d _ hd
  obtain ⟨od, ho, hl⟩ := lookIn_ns hns
  exact ⟨ob, od, m, ⟨e, z.1, by unfold PySem.W.notCls; rw [dt] <;> rfl, by rw [z.2]; exact ho⟩, hl, hr⟩
/-- isinstance(e, c), e a kept error of the class at C -/
def rIsX (K : PySem.W.Frag) : List V → Hp → VK → Prop := fun xs H Q => ∃ (a C d : Addr) (fs : List (Str × V)) (c : V) (cv : Value) (b : Bool), xs = [.ref a, c] ∧ H a = some (ExV (.ref C) (some d) a) ∧ H d = some (.xd fs) ∧ ExcC K C ∧ (PySem.W.clsIn K C).isSome = true ∧
  (∀ u, RelV c u → u = cv) ∧ PySem.W.kitOne K (.ref C) cv = some b ∧ Q (.bl b) H
theorem call_isX {X : Cx} : CallR X (.builtin "isinstance") (rIsX X.K) := by
  intro pins s σ H xs us Q I r h
  obtain ⟨a, C, d, fs, c, cv, b, rfl, ha, hd, T, hcl, hcv, e, q⟩ := h
  cases r with
  | cons rx rr =>
    cases rr with
    | cons rt rr =>
      cases rr
      cases rx
      obtain rfl := hcv _ rt
      obtain ⟨ob, od, m, J, _⟩ := exV_inst I ha hd
      exact PySem.W.kia_one (PySem.W.kitx_exc (od := some od) hcl T.hg T.hk T.hs T.ha T.hn T.ht T.hm) I.kIn J e (fun z => nomatch z) fun tk => ⟨.bl b, H, I.kept (t' := tk) fun _ _ z => z, rfl, q⟩
/-- e.f, e a kept error -/
def tXg (K : PySem.W.Frag) (f : Str) (te : TE) : TE := fun σ H Q => te σ H fun x H1 => ∃ (a C d : Addr) (fs : List (Str × V)) (v : V), x = .ref a ∧ H1 a = some (ExV (.ref C) (some d) a) ∧ H1 d = some (.xd fs) ∧ XfC K C ∧ PySem.W.findIn K (.ref C) f = some none ∧ fs.lookup f = some v ∧ Q v H1
theorem pe_xg {X : Cx} {e : Expr} {te : TE} {pos : Pos} {n : Str} (he : PE X e te) (hb : attributeBase e n X.env (eval e X.env) = eval e X.env := by rfl) : PE X (.Attribute e n pos) (tXg X.K n te) := by
  refine ⟨fun pins s σ H Q I h => ?_⟩
  refine attr_of hb (thn (he.run pins s σ H _ I h) fun u s1 ⟨x, H1, I1, rx, a, C, d, fs, v, ex, ha, hd, T, hno, l, q⟩ => ?_)
  subst ex
  obtain rfl : u = Value.ref a := rx
  obtain ⟨ob, od, m, J, hl, hr⟩ := exV_inst I1 ha hd
  obtain ⟨u, hu, ru⟩ := RelO.some_of (v := v) (o := m n) (l ▸ hr n)
  exact HandSPX.exc_get I1.kIn J T.ga T.gg T.exC (PySem.W.findObj_own T.hdC hno rfl (by rw [hl n, hu])) (handed_of ru) ⟨v, H1, I1.tok _, ru, q⟩
end Nd
namespace Nd
open PySem PySem.Spec PyProof.Rows L2
/-! ### an error's making: its base's __init__, read off a class of the program that has none itself -/
structure HeC (K : PySem.W.Frag) (C : Addr) : Prop where
  rd : PySem.W.readsIn K C (.type "type") = true
  ga : PySem.W.specialIn K (.ref C) "__getattribute__" = some (some (.builtin "type.__getattribute__"))
  at_ : PySem.W.findCls K (.ref C) (.type "type") "__init__" = some (.val (.builtin "ValueError.__init__"))
theorem pe_heinit {X : Cx} {e : Expr} {es : List Expr} {ta : TA} {x : Str} {C : Addr} {p1 p2 pos : Pos} {pl : Sem Bool} (R : HeC X.K C) (hg : Gl X x) (hm : X.mg x = some (.ref C)) (ha : PA X (e :: es) ta)
    (hdb : (x == ("__debug__" : Str)) = false := by decide)
    (hc : eval (.Call (.Attribute (.Name x p1) "__init__" p2) (e :: es) [] pos) X.env = (do
      let ov ← eval (.Name x p1) X.env
      standAt p2.atName
      let (f, first) ← holding [ov] (getMethod ov "__init__" pl)
      callWith pos f first (backTo pos (starEach (e :: es) X.env)) (backToKw pos (keywordEach [] X.env))) := by rfl)
    (he : starEach (e :: es) X.env = (false, eval e X.env) :: starEach es X.env := by rfl) (hpl : (backTo pos (starEach es X.env)).any (·.1) = false := by rfl) :
    PE X (.Call (.Attribute (.Name x p1) "__init__" p2) (e :: es) [] pos) (tVeI X.K ta) := by
  refine ⟨fun pins s σ H Q I h => PySem.W.methodCall_KW (ld_glob I hg hm ?_ hdb) hc⟩
  refine PySem.W.method_cls I.kIn R.ga (PySem.W.cls_value I.kIn R.rd R.at_ (by decide +kernel) ?_)
  change wpAny _ _ (callWith pos (Value.builtin "ValueError.__init__") [] (backTo pos (starEach (e :: es) X.env)) []) _ _ _
  refine PyProof.Rows.callWith_method1 (thn (ha.run pos pins _ σ H _ (I.tok _) h) fun us t hh => ?_) he hpl
  obtain ⟨vs, H1, I1, r1, a, D, ws, rfl, hl, T, ea, q⟩ := hh
  cases r1 with
  | @cons _ u0 _ ur ra rr =>
    obtain rfl : u0 = Value.ref a := ra
    refine oinit_ok T I1 ea ?_ fun s' J => ⟨.non, H1, J, rfl, q⟩
    rw [← Paired.length rr, sizeLine_eq]
    omega
end Nd

namespace Nd
open PySem PySem.Spec PyProof.Rows L2 LamX
/-! ### a lambda, perhaps with one default, handed to a def -/
abbrev fnL (q : Str) (ps : Arguments) (bo : Expr) (sc : Scope) (cl : List (Str × Addr)) (pm cv ct dv : Value) : FuncData :=
  { name := "<lambda>", qualname := q, params := ps, body := .expr bo, scope := sc, globals := mainGlobals, closure := cl, defaults := dv, kwdefaults := .none, doc := .none, pyModule := pm, annotations := none, code := cv, closureTuple := ct, builtins := builtinsNs }
abbrev obL (q : Str) (ps : Arguments) (bo : Expr) (sc : Scope) (cl : List (Str × Addr)) (pm cv ct dv : Value) : Obj := { cls := .type "function", data := .func (fnL q ps bo sc cl pm cv ct dv) }
section
variable {M : Model} {A : Around} {E : Value → Shared → Prop} {s : Shared} {q : Str} {ps : Arguments} {bo : Expr} {sc : Scope} {env : Env} {c P : Addr} {tab : Array Value} {pos : Pos} {ln : Nat} {mg : Str → Option Value} {cl : List (Str × Addr)} {dv : Value} {Q : Value → Shared → Prop}
theorem tailNew (hcl : closureFor sc env = pure cl) (hge : env.globals = mainGlobals) (hns : s.heap.Ns mainGlobals mg) (hcode : env.code = .ref c) (C : PySem.W.CodeHd s.heap c P) (hP : s.heap.get? P = some { cls := .none, data := .fields tab }) (ok : TriplesOk tab.toList)
    (no : codeAmong pos tab.toList = none) (hgP : mainGlobals ≠ P) (hbi : s.heap.BuiltinsAt mg P)
    (k : ∀ c' ct g tk, Heap.ExtBut P s.heap g → s.heap.objs.size ≤ c' → c' < g.objs.size → g.CodeRec (.ref c') q → g.get? P = some { cls := .none, data := .fields (tab ++ #[rawInt pos.line, rawInt pos.col, .ref c']) } →
      Q (.ref g.objs.size) { s with heap := g.push (obL q ps bo sc cl ((mg "__name__").getD .none) (.ref c') ct dv), toks := tk }) :
    wpAny M A (makeTail "<lambda>" q ps (.expr bo) sc env dv .none none pos ln) Q E s := by
  obtain ⟨bm, ob, b1, b2, _, b3, b4, b5, b6, b7⟩ := hbi
  unfold makeTail
  rw [hcl, hge]
  refine wpAny_bind (wpAny_pure ?_)
  cases cl
  case nil =>
    rw [show ([] : List (Str × Addr)).isEmpty = true from rfl, if_pos rfl]
    refine wpAny_bind (wpAny_pure (wpAny_bind (wpAny_functionCodeX hcode (C.code hP ok) (C.tab hP) no fun c' g tk hx h1 h2 _ h3 h4 _ => ?_)))
    have hn2 := hns.extBut hx hgP
    exact wpAny_bind (wpAny_builtinsFor hn2 b1 b2 (hx _ _ b3 b4) b5 b6 b7 (wpAny_bind (wpAny_nsGet hn2 (wpAny_bind (wpAny_pure (wpAny_newObj_type (k c' .none g tk hx h1 h2 h3 h4.2) (by size_fits)))))))
  case cons y r =>
    rw [show (y :: r).isEmpty = false from rfl, if_neg Bool.false_ne_true]
    refine wpAny_bind (wpAny_newTextTuple (wpAny_bind ?_))
    have C2 : ∀ o2 : Obj, PySem.W.CodeHd (s.heap.push o2) c P := fun o2 => C.keeps fun b o e => Heap.get?_push_of_some o2 e
    refine wpAny_functionCodeX hcode ((C2 _).code (Heap.get?_push_of_some _ hP) ok) ((C2 _).tab (Heap.get?_push_of_some _ hP)) no fun c' g tk hx h1 h2 _ h3 h4 _ => ?_
    have hn2 := (hns.push _).extBut hx hgP
    have hx2 : Heap.ExtBut P s.heap g := fun b o nb e => hx b o nb (Heap.get?_push_of_some _ e)
    have le := h1
    rw [Heap.size_push] at le
    exact wpAny_bind (wpAny_builtinsFor hn2 b1 b2 (hx2 _ _ b3 b4) b5 b6 b7 (wpAny_bind (wpAny_nsGet hn2 (wpAny_bind (wpAny_pure (wpAny_newObj_type (k c' _ g tk hx2 (Nat.le_of_succ_le le) h2 h3 h4.2) (by size_fits)))))))
theorem tailHit {cv : Value} (hcl : closureFor sc env = pure cl) (hge : env.globals = mainGlobals) (hns : s.heap.Ns mainGlobals mg) (hcode : env.code = .ref c) (C : PySem.W.CodeHd s.heap c P) (hP : s.heap.get? P = some { cls := .none, data := .fields tab }) (ok : TriplesOk tab.toList)
    (yes : codeAmong pos tab.toList = some cv) (hbi : s.heap.BuiltinsAt mg P)
    (k : ∀ (ct : Value) (g : Heap) (tk : Nat), (∀ b o, s.heap.get? b = some o → g.get? b = some o) → s.heap.objs.size ≤ g.objs.size → Q (.ref g.objs.size) { s with heap := g.push (obL q ps bo sc cl ((mg "__name__").getD .none) cv ct dv), toks := tk }) :
    wpAny M A (makeTail "<lambda>" q ps (.expr bo) sc env dv .none none pos ln) Q E s := by
  obtain ⟨bm, ob, b1, b2, _, b3, b4, b5, b6, b7⟩ := hbi
  unfold makeTail
  rw [hcl, hge]
  refine wpAny_bind (wpAny_pure ?_)
  cases cl
  case nil =>
    rw [show ([] : List (Str × Addr)).isEmpty = true from rfl, if_pos rfl]
    refine wpAny_bind (wpAny_pure (wpAny_bind (wpAny_functionCode_hit hcode (C.code hP ok) yes ?_)))
    exact wpAny_bind (wpAny_builtinsFor hns b1 b2 b4 b5 b6 b7 (wpAny_bind (wpAny_nsGet hns (wpAny_bind (wpAny_pure (wpAny_newObj_type (k .none s.heap s.toks (fun _ _ e => e) (Nat.le_refl _)) (by size_fits)))))))
  case cons y r =>
    rw [show (y :: r).isEmpty = false from rfl, if_neg Bool.false_ne_true]
    refine wpAny_bind (wpAny_newTextTuple (wpAny_bind ?_))
    have C2 : ∀ o2 : Obj, PySem.W.CodeHd (s.heap.push o2) c P := fun o2 => C.keeps fun b o e => Heap.get?_push_of_some o2 e
    refine wpAny_functionCode_hit hcode ((C2 _).code (Heap.get?_push_of_some _ hP) ok) yes ?_
    refine wpAny_bind (wpAny_builtinsFor (hns.push _) b1 b2 (Heap.get?_push_of_some _ b4) b5 b6 b7 (wpAny_bind (wpAny_nsGet (hns.push _) (wpAny_bind (wpAny_pure (wpAny_newObj_type (k _ _ s.toks (fun b o e => Heap.get?_push_of_some _ e) ?_) (by size_fits)))))))
    rw [Heap.size_push]
    exact Nat.le_succ _
end
section
variable {X : Cx} {pins : List (Addr × Obj)} {σ : L2.St} {H : Hp} {s : Shared}
theorem nofrs (I : Inv X pins σ H s) {f : Addr} (hf : s.heap.objs.size ≤ f) : f ∉ frs X.stack := fun z => by
  rcases List.mem_cons.mp (I.stkSub _ z) with rfl | e
  · exact absurd I.lt (Nat.not_lt.mpr hf)
  · exact I.nofs hf e
/-- a lambda's object is laid, its code object new or told by the table -/
theorem lamTail {T : List (Addr × Str)} {c P : Addr} {ps : Arguments} {bo : Expr} {sc : Scope} {pos : Pos} {ln : Nat} {dv : Value} {E Q : Value → Shared → Prop} (I : Inv X pins σ H s) (TB : TabB X.base X.mg c P) (hcode : X.env.code = .ref c)
    (hm : (P, X.env.qual ++ "<lambda>") ∈ T) (hu : ∀ p ∈ T, p.1 = P → p.2 = X.env.qual ++ "<lambda>") (hT : Tabs T H) (hfree : ∀ y ∈ sc.names, y.2 = .free → ∃ c, X.env.cells.lookup y.1 = some c)
    (k : ∀ (f c' : Addr) (pm ct : Value) (H1 : Hp) (t : Shared), Inv X pins σ H1 t → ExtN H H1 → Tabs T H1 → t.heap.get? f = some (obL (X.env.qual ++ "<lambda>") ps bo sc (cloFrom X.env.cells sc.names []) pm (.ref c') ct dv) → H1 f = none → f ∉ frs X.stack → H1 c' = some (CodeO c' (X.env.qual ++ "<lambda>")) → Q (.ref f) t) :
    wpAny (model X.prog X.w) X.A (makeTail "<lambda>" (X.env.qual ++ "<lambda>") ps (.expr bo) sc X.env dv .none none pos ln) Q E s := by
  obtain ⟨tab, hP, ok, among⟩ := hT _ hm
  have eP : s.heap.get? P = some { cls := .none, data := .fields tab } := I.hok P _ hP
  have bi : s.heap.BuiltinsAt X.mg P := TB.bm.keeps I.bk
  cases hc : codeAmong pos tab.toList
  case some cv =>
    obtain ⟨c', rfl, hco⟩ := among pos cv hc
    refine tailHit (mg := X.mg) (c := c) (P := P) (tab := tab) (closure_ok hfree) I.ok.glob (I.mod.glob.keeps I.bk) hcode (TB.code.keeps I.bk) eP ok hc bi fun ct g tk hk le => ?_
    exact k _ c' _ ct H _ (I.kept fun b o e => Heap.get?_push_of_some _ (hk b o e)) (ExtN.refl H) hT (Heap.get?_push_size _ rfl) (I.hok.fresh le) (nofrs I le) hco
  case none =>
    refine tailNew (mg := X.mg) (c := c) (P := P) (tab := tab) (closure_ok hfree) I.ok.glob (I.mod.glob.keeps I.bk) hcode (TB.code.keeps I.bk) eP ok hc TB.gP bi fun c' ct g tk hx h1 h2 hr ht => ?_
    obtain ⟨c2, oc, vs, t, e2, hoc, hd, hv⟩ := hr
    cases e2
    have le : s.heap.objs.size ≤ g.objs.size := Nat.le_trans h1 (Nat.le_of_lt h2)
    have nC : H c' = none := I.hok.fresh h1
    have I1 := inv_table (t' := tk) (more := #[rawInt pos.line, rawInt pos.col, .ref c']) (h' := g.push (obL (X.env.qual ++ "<lambda>") ps bo sc (cloFrom X.env.cells sc.names []) ((X.mg "__name__").getD .none) (.ref c') ct dv)) I hP
      (fun b o nb e => Heap.get?_push_of_some _ (hx b o nb e)) (Heap.get?_push_of_some _ ht) h1 ⟨oc, vs, t, Heap.get?_push_of_some _ hoc, hd, hv⟩
    have hE : ExtN H (upd (upd H P (.tbl (tab ++ #[rawInt pos.line, rawInt pos.col, .ref c']))) c' (CodeO c' (X.env.qual ++ "<lambda>"))) := fun b o e n => by
      have nb : b ≠ P := fun z => n tab (Option.some.inj (e.symm.trans (z ▸ hP)))
      rw [upd_ne (ne_of_none e nC), upd_ne nb]
      exact e
    have eL : (tab ++ #[rawInt pos.line, rawInt pos.col, .ref c']).toList = tab.toList ++ [rawInt pos.line, rawInt pos.col, .ref c'] := by simp
    refine k g.objs.size c' _ ct _ _ I1 hE (fun p hp => ?_) (Heap.get?_push_size _ rfl) ?_ (nofrs I le) upd_same
    · by_cases hb : p.1 = P
      · rw [hu p hp hb, hb]
        refine ⟨_, by rw [upd_ne (ne_of_none hP nC), upd_same], eL ▸ PySem.TriplesOk_snoc _ _ _ _ ok, fun p2 cv z => ?_⟩
        rw [eL] at z
        rcases among_app _ ok z with y | y
        · obtain ⟨c0, rfl, e0⟩ := among p2 cv y
          exact ⟨c0, rfl, hE _ _ e0 codeO_ne⟩
        · exact ⟨c', y, upd_same⟩
      · obtain ⟨tab2, a1, a2, a3⟩ := hT p hp
        refine ⟨tab2, by rw [upd_ne (ne_of_none a1 nC), upd_ne hb]; exact a1, a2, fun p2 cv z => ?_⟩
        obtain ⟨c0, rfl, e0⟩ := a3 p2 cv z
        exact ⟨c0, rfl, hE _ _ e0 codeO_ne⟩
    · have n2 : g.objs.size ≠ P := Nat.ne_of_gt (Nat.lt_of_lt_of_le (Heap.lt_size eP) le)
      rw [upd_ne (Nat.ne_of_gt h2), upd_ne n2]
      exact I.hok.fresh le
end
end Nd

namespace Nd
open PySem PySem.Spec PyProof.Rows L2 LamX
section
variable {X : Cx} {pins : List (Addr × Obj)} {σ : L2.St} {H HZ : Hp} {s s1 : Shared} {ps : Arguments} {bo : Expr} {sc : Scope} {pos : Pos} {Q : Value → Shared → Prop}
theorem lamEval0 (hdef : defaultsOf ps X.env = ([], [])) (k : wpAny (model X.prog X.w) X.A (makeTail "<lambda>" (X.env.qual ++ "<lambda>") ps (.expr bo) sc X.env .none .none none pos pos.line) Q X.xe s) :
    wpAny (model X.prog X.w) X.A (eval (.Lambda ps bo sc pos) X.env) Q X.xe s := by
  refine PySem.W.kla_eval hdef ?_
  rw [makeFunction_eq]
  simp only [List.zip_nil_right, List.filterMap_nil, List.isEmpty_nil, if_true, pure_bind]
  exact k
abbrev tupO (u : Value) : Obj := { cls := .type "tuple", data := .seq #[u] }
theorem lamEval1 {e : Expr} {x0 : V} (I : Inv X pins σ H s) (hdef : defaultsOf ps X.env = ([eval e X.env], [])) (he : PE X e (tC x0))
    (k : ∀ (D : Addr) (u : Value) (t : Shared), RelV x0 u → Inv X ((D, tupO u) :: pins) σ H t → wpAny (model X.prog X.w) X.A (makeTail "<lambda>" (X.env.qual ++ "<lambda>") ps (.expr bo) sc X.env (.ref D) .none none pos pos.line) Q X.xe t) :
    wpAny (model X.prog X.w) X.A (eval (.Lambda ps bo sc pos) X.env) Q X.xe s := by
  rw [arm_eval_Lambda, hdef]
  show wpAny _ _ (do let dv ← (do let v ← eval e X.env; return v :: (← holding [v] (pure []))); let kdv ← holding dv (pure []); makeFunction "<lambda>" (X.env.qual ++ "<lambda>") ps (.expr bo) sc X.env dv kdv [] pos pos.line) _ _ _
  refine wpAny_bind (wpAny_bind (thn (he.run pins s σ H (fun v H1 => v = x0 ∧ H1 = H) I ⟨rfl, rfl⟩) fun u t ⟨v, H1, I1, r, ev, eH⟩ => ?_))
  subst ev
  subst eH
  refine wpAny_bind (wpAny_holding (wpAny_pure (wpAny_pure (wpAny_bind (wpAny_holding (wpAny_pure ?_))))))
  rw [makeFunction_eq]
  simp only [List.zip_nil_right, List.filterMap_nil, List.isEmpty_cons, List.isEmpty_nil, if_true, Bool.false_eq_true, if_false, pure_bind]
  refine wpAny_bind (wpAny_newTextTuple ?_)
  obtain ⟨hp, g, d, tk, os⟩ := t
  refine k hp.objs.size u _ r ?_
  have I2 : Inv X pins σ H1 ⟨hp.push (tupO u), g, d, tk, os⟩ := I1.kept (t' := tk) fun b o e => Heap.get?_push_of_some _ e
  refine I2.pins_of fun p hp2 => ?_
  rcases List.mem_cons.mp hp2 with rfl | hp2
  · exact ⟨Heap.get?_push_size _ rfl, I1.hok.fresh (Nat.le_refl _), Nat.ne_of_gt I1.lt, I1.nofs (Nat.le_refl _), fun v z => by cases z⟩
  · exact I2.pin p (List.mem_append_right _ hp2)
/-- a lambda's names: captured ones, globals, and parameters that the def has not -/
structure LamD (N : List Str) (so sc : Scope) : Prop where
  kind : sc.kind = .function
  co : sc.isCoroutine = false
  gen : sc.isGenerator = false
  own : ∀ y ∈ sc.names, y.2 ≠ .cell ∧ (y.2 = .local → y.1 ∉ N)
  free : ∀ y ∈ sc.names, y.2 = .free → so.names.lookup y.1 = some .cell ∨ so.names.lookup y.1 = some .free
def lamDB (N : List Str) (so sc : Scope) : Bool :=
  decide (sc.kind = .function) && !sc.isCoroutine && !sc.isGenerator && sc.names.all fun y => !decide (y.2 = .cell) && (!decide (y.2 = .local) || !decide (y.1 ∈ N)) && (!decide (y.2 = .free) || decide (so.names.lookup y.1 = some .cell) || decide (so.names.lookup y.1 = some .free))
theorem lamD_by {N : List Str} {so sc : Scope} (h : lamDB N so sc = true) : LamD N so sc := by
  unfold lamDB at h
  simp only [Bool.and_eq_true, Bool.or_eq_true, Bool.not_eq_true', decide_eq_true_eq, decide_eq_false_iff_not, List.all_eq_true] at h
  obtain ⟨⟨⟨h1, h2⟩, h3⟩, h4⟩ := h
  refine ⟨h1, h2, h3, fun y hy => ⟨(h4 y hy).1.1, fun e => ?_⟩, fun y hy e => ?_⟩
  · rcases (h4 y hy).1.2 with z | z
    · exact absurd e z
    · exact z
  · rcases (h4 y hy).2 with (z | z) | z
    · exact absurd e z
    · exact .inl z
    · exact .inr z
theorem LamD.has (L : LamD X.N X.env.scope sc) (ok : X.Ok) : ∀ y ∈ sc.names, y.2 = .free → ∃ c, X.env.cells.lookup y.1 = some c := fun y hy e => (L.free y hy e).elim (fun k => ok.has _ (.inl k)) fun k => ok.has _ (.inr k)
theorem lamStart {A : Around} {outer : List Env} {E : XK} {f c' : Addr} {g : Heap} {tk : Nat} {m : Str → Option Value} (I : Inv X pins σ H s) (L : LamD X.N X.env.scope sc) (e0 : Env0 X.prog X.w X.K X.mg X.base A outer s1 HZ) (hd : A.handled = none)
    (un : Un (frs X.stack) [] H HZ s.heap s1.heap) (hns : g.Ns s1.heap.objs.size m) (kp : ∀ b o, s1.heap.get? b = some o → g.get? b = some o) : Inv (lamCx X A outer s1 HZ E sc f c') [] σ HZ { s1 with heap := g, toks := tk } := by
  have hf := L.has I.ok
  have one : ∀ {y : Str} {c : Addr}, (cloFrom X.env.cells sc.names []).lookup y = some c → X.env.cells.lookup y = some c := fun {y c} e => by
    rcases cloFrom_mem (PySem.mem_of_lookup e) with z | ⟨z1, z2⟩
    · cases z
    · obtain ⟨c1, hc⟩ := hf _ z1 rfl
      have hc : X.env.cells.lookup y = some c1 := hc
      rw [hc]
      congr 1
      exact (z2.trans (by rw [hc] <;> rfl)).symm
  have two : ∀ {y : Str}, sc.names.lookup y = some .free → ∃ c, (cloFrom X.env.cells sc.names []).lookup y = some c := fun {y} hl => mem_lookup (cloFrom_has (cells := X.env.cells) (acc := []) (PySem.mem_of_lookup hl))
  have cellK : ∀ {c : Addr} {v : Option Value}, H c = none → s.heap.IsCell c v → g.IsCell c v := fun {c v} n ⟨o, ho, hd⟩ => by
    obtain ⟨sl, q⟩ := un.any ho n List.not_mem_nil
    exact ⟨_, kp _ _ q, hd⟩
  have noA : ∀ b : Addr, b ∉ (lamCx X A outer s1 HZ E sc f c').ex := fun b z => absurd (show b ∈ ([] : List Addr) from z) List.not_mem_nil
  have okL : (lamCx X A outer s1 HZ E sc f c').Ok := ⟨e0.mod, L.kind, rfl, rfl, Nat.le_refl _, fun y z c e1 e2 => I.ok.inj y z c (one e1) (one e2), fun y hy => by
      rcases (show sc.names.lookup y = some .cell ∨ sc.names.lookup y = some .free from hy) with hy | hy
      · exact absurd rfl (L.own _ (PySem.mem_of_lookup hy)).1
      · exact two hy, fun y c z _ => Bool.noConfusion (show false = true from z), fun _ => hd, Around.frames_deeper e0.frames, .inr ⟨rfl, rfl⟩, fun b z => absurd z (noA b), e0.bs, e0.bsz, fun b _ _ => noA b, fun b z => absurd z (noA b), e0.funs, e0.frf⟩
  refine ⟨okL, rfl, e0.bare, Un.kept kp, ⟨_, hns, fun i y v e1 e2 e3 => ?_⟩, fun y c e => ?_, e0.hok.fresh (Nat.le_refl _), fun y c e => ?_, fun p hp => absurd (show p ∈ ([] : List (Addr × Obj)) ++ [] from hp) List.not_mem_nil, e0.hok.kept kp, I.len⟩
  · rcases (show Vis sc y from e3) with k | k | k
    · exact absurd (List.mem_of_getElem? e1) ((L.own _ (PySem.mem_of_lookup k)).2 rfl)
    · exact absurd rfl (L.own _ (PySem.mem_of_lookup k)).1
    · have fr := L.free _ (PySem.mem_of_lookup k) rfl
      obtain ⟨m0, hn, hl⟩ := I.loc
      obtain ⟨w', r, q⟩ := hl i y v e1 e2 (fr.elim (fun k => .inr (.inl k)) fun k => .inr (.inr k))
      obtain ⟨c2, h2⟩ := two k
      refine ⟨w', r, .inr ⟨.inr k, c2, h2, ?_⟩⟩
      rcases q with ⟨k2, _⟩ | ⟨_, c3, e', z⟩
      · replace k2 : X.env.scope.names.lookup y = some .local := k2
        rcases fr with k3 | k3 <;> · rw [show X.env.scope.names.lookup y = _ from k3] at k2; cases k2
      · have h3 := one h2
        obtain rfl : c2 = c3 := Option.some.inj (h3.symm.trans e')
        exact cellK (I.freeC y _ h3) z
  · obtain ⟨w', z⟩ := I.cell y c (one e)
    exact ⟨w', cellK (I.freeC y c (one e)) z⟩
  · obtain ⟨v, o, ho, hd⟩ := I.cell y c (one e)
    exact un.free c o ho (I.freeC y c (one e)) List.not_mem_nil
end
end Nd

namespace Nd
open PySem PySem.Spec PyProof.Rows L2 LamX
section
variable {X : Cx} {pins : List (Addr × Obj)} {σ : L2.St} {H : Hp} {s : Shared} {ps : Arguments} {bo : Expr} {sc : Scope}
/-- what a call without arguments binds, wherever what was untracked at s stands still -/
def LamBinds (X : Cx) (H : Hp) (s : Shared) (sc : Scope) (fd : FuncData) : Prop :=
  ∀ t : Shared, (∀ b o, s.heap.get? b = some o → H b = none → b ∉ frs X.stack → t.heap.get? b = some o) → ∃ bs, BindsTo t fd ⟨[], []⟩ bs ∧ ∀ y ∈ bs, sc.names.lookup y.1 = some .local
/-- a(), in the def that was given the lambda -/
theorem pe_actL {CXg : CXT} {Eg : XK} {Ng : List Str} {qg : Str} {sg : Scope} {g f c' : Addr} {cdg pm ct dv : Value} {k i : Nat} {a : Str} {pn : List (Addr × Obj)} {xe : Value → Shared → Prop} {W : WX} {E : L2.St → XK} {tb : L2.St → TE} {p1 p2 : Pos}
    (I : Inv X pins σ H s) (L : LamD X.N X.env.scope sc) (hf : s.heap.get? f = some (obL (X.env.qual ++ "<lambda>") ps bo sc (cloFrom X.env.cells sc.names []) pm (.ref c') ct dv)) (hfn : H f = none) (hfr : f ∉ frs X.stack)
    (hB : LamBinds X H s sc (fnL (X.env.qual ++ "<lambda>") ps bo sc (cloFrom X.env.cells sc.names []) pm (.ref c') ct dv))
    (tk : Takes ((cxOf CXg X.prog X.w X.K X.mg X.base Ng qg sg g cdg X.A X.stack s H Eg).tr pn xe) W) (hW : ∀ cls d σ' H', E σ' cls d H' → W cls d σ' H') (hr : Room (k + 1) (X.A.deeper (envOfC qg sg s.heap.objs.size g cdg))) (hG : X.A.guards = some [])
    (hbody : ∀ (σ' : L2.St) (A : Around) (outer : List Env) (t : Shared) (G : Hp), A.guards = some [] → Room k (A.deeper (lamEnv X sc t.heap.objs.size f c')) → PE (lamCx X A outer t G (E σ') sc f c') bo (tb σ'))
    (hN : Ng[i]? = some a) (hv : Vis sg a) (hd : (a == ("__debug__" : Str)) = false := by decide) (hcd : (a == ("__classdict__" : Str)) = false := by decide) :
    PE ((cxOf CXg X.prog X.w X.K X.mg X.base Ng qg sg g cdg X.A X.stack s H Eg).tr pn xe) (.Call (.Name a p1) [] [] p2)
      (fun σZ HZ Q => σZ[i]? = some (some (.ref f)) ∧ HZ c' = some (CodeO c' (X.env.qual ++ "<lambda>")) ∧ tb σZ σ HZ Q) := by
  refine ⟨fun pinsZ sZ σZ HZ Q IZ ⟨hs, hc, ht⟩ => ?_⟩
  refine wpAny_Call_Name_kw (thn ((pe_var (pos := p1) (i := i) hN hv hd hcd).run pinsZ sZ σZ HZ (fun v H1 => v = .ref f ∧ H1 = HZ) IZ ⟨.ref f, hs, rfl, rfl⟩) fun u t ⟨v, H1, I1, r1, ev, eH⟩ => ?_)
  subst ev
  rw [eH] at I1
  obtain rfl : u = Value.ref f := r1
  have un : Un (frs X.stack) [] H HZ s.heap t.heap := I1.base
  have stays : ∀ b o, s.heap.get? b = some o → H b = none → b ∉ frs X.stack → t.heap.get? b = some o := fun b o e n nf => un.keep b o e n nf List.not_mem_nil
  have of1 := stays f _ hf hfn hfr
  refine PySem.W.callWith_F0 ⟨_, _, _, _, of1⟩ ?_
  obtain ⟨⟨oc, vs, tq, hoc, hdc, hvc⟩, _, _⟩ := I1.hok c' _ hc
  obtain ⟨bs, bt, bl⟩ := hB t stays
  have rc : codeAny (model X.prog X.w) (X.A.deeper (envOfC qg sg s.heap.objs.size g cdg)) (.call (.ref f) ⟨[], []⟩) (CR (L2.CX X.prog X.w) (envOfC qg sg s.heap.objs.size g cdg :: X.stack) X.prog X.w HZ t Q (E σZ)) t := by
    refine PySem.W.kla_callFunE hr.depth of1 rfl L.co L.gen rfl ⟨c', oc, vs, tq, rfl, hoc, hdc, hvc⟩ (bt _ _ _ _ (wpAny_newFunctionEnv (fun y hy => (L.own y hy).1) bl (fun h1 hns hsb => ⟨I1.nolimit.fresh _ hsb, ?_⟩) L.kind))
    change codeAny _ _ (.expr bo (lamEnv X sc t.heap.objs.size f c')) _ _
    have kp : ∀ b o, t.heap.get? b = some o → h1.get? b = some o := fun b o e => hsb.extBut b o (Nat.ne_of_lt (Heap.lt_size e)) (Heap.get?_push_of_some _ e)
    have J : Inv (lamCx X (X.A.deeper (envOfC qg sg s.heap.objs.size g cdg)) (envOfC qg sg s.heap.objs.size g cdg :: X.stack) t HZ (E σZ) sc f c') [] σ HZ { t with heap := h1, toks := t.toks + bs.length } := lamStart I L I1.env0 hr.hd un hns kp
    refine PySem.W.kla_codeExpr (wpAny_mono ((hbody σZ (X.A.deeper (envOfC qg sg s.heap.objs.size g cdg)) (envOfC qg sg s.heap.objs.size g cdg :: X.stack) t HZ hG (hr.deeper _)).run [] _ _ HZ Q J ht) (fun v s' ⟨w', H', J', rv, q⟩ => ?_) fun e s' hq => hq)
    exact ⟨w', H', J'.os, J'.bare, J'.base, J'.hok, rv, q⟩
  refine wpAny_call (codeAny_mono rc fun r s' hq => ?_)
  rcases r with e | (_ | _ | _ | u)
  · exact tk e s' (XE.of_call I1 (fun cls d H' h => hW cls d σZ H' h) hq)
  all_goals first | exact False.elim hq | exact I1.after hq
/-- the def that is given a lambda: a calls it; TT: what it makes of the lambda's reading -/
def GivesG (X : Cx) (Ng : List Str) (x : Str) (sg : Scope) (g : Addr) (cdg : Value) (bg : List Stmt) (a : Str) (q : Str) (k : Nat) (TT : (XK → Hp → VK → Prop) → Hp → VK → Prop) : Prop :=
  ∀ (f c' : Addr) (s : Shared) (H : Hp) (Q : VK) (tl : XK → Hp → VK → Prop),
    (∀ (W : WX) (pn : List (Addr × Obj)) (xe : Value → Shared → Prop) (p1 p2 : Pos), Takes ((cxOf L2.CX0 X.prog X.w X.K X.mg X.base Ng x sg g cdg X.A X.stack s H L2.E0).tr pn xe) W →
      PE ((cxOf L2.CX0 X.prog X.w X.K X.mg X.base Ng x sg g cdg X.A X.stack s H L2.E0).tr pn xe) (.Call (.Name a p1) [] [] p2) (fun σZ HZ Q => σZ[0]? = some (some (.ref f)) ∧ HZ c' = some (CodeO c' q) ∧ tl (fun cls d H' => W cls d σZ H') HZ Q)) →
    H c' = some (CodeO c' q) → Room k (X.A.deeper (envOfC x sg s.heap.objs.size g cdg)) → TT tl H Q →
    ∃ t, PSs (cxOf L2.CX0 X.prog X.w X.K X.mg X.base Ng x sg g cdg X.A X.stack s H L2.E0).nox bg t ∧ t (Ends.mk (fun _ H' => Q .non H') Q (fun _ _ => False) (fun _ _ => False)) (L2.start Ng [.ref f]) H
/-- x(lambda: bo), or x(lambda p=e: bo) -/
theorem pe_lamL {T : List (Addr × Str)} {TT : (XK → Hp → VK → Prop) → Hp → VK → Prop} {x a : Str} {g c P : Addr} {k : Nat} {pg : Arguments} {bg : List Stmt} {sg : Scope} {dV kV doc pm cdv ct oc : Value} {an od : Option Addr} {osl : Array (Option Value)} {Ng : List Str} {t : XK → TE} {p lpos pos : Pos}
    (hg : Gl X x) (hm : X.mg x = some (.ref g)) (hk : PySem.W.keepIn X.K (.ref g) = true) (lk : X.K.lookup g = some ⟨oc, od, .func (PySem.W.fnOf x x pg bg sg dV kV doc pm an cdv ct), osl⟩) (hcg : PySem.W.codeIn X.K cdv x = true) (hb : L2.Binds X.K (PySem.W.fnOf x x pg bg sg dV kV doc pm an cdv ct) [a] [])
    (Sg : FnScope Ng [a] sg) (hNg : Ng[0]? = some a) (hva : Vis sg a) (hGv : GivesG X Ng x sg g cdv bg a (X.env.qual ++ "<lambda>") (k + 1) TT) (hG : X.A.guards = some [])
    (TB : TabB X.base X.mg c P) (hcode : X.env.code = .ref c) (hmT : (P, X.env.qual ++ "<lambda>") ∈ T) (hu : ∀ p ∈ T, p.1 = P → p.2 = X.env.qual ++ "<lambda>") (hr : Room (k + 2) X.A) (L : LamD X.N X.env.scope sc)
    (hdef : (defaultsOf ps X.env = ([], []) ∧ ∀ (q : Str) (cl : List (Str × Addr)) (pm cv ct : Value), bindArgs (fnL q ps bo sc cl pm cv ct .none) ⟨[], []⟩ = pure []) ∨
      ∃ (e : Expr) (x0 : V) (y : Str), defaultsOf ps X.env = ([eval e X.env], []) ∧ PE X e (tC x0) ∧ sc.names.lookup y = some .local ∧
        ∀ (q : Str) (cl : List (Str × Addr)) (pm cv ct u : Value) (D : Addr), ∃ kk, bindArgs (fnL q ps bo sc cl pm cv ct (.ref D)) ⟨[], []⟩ = seqItems? (.ref D) >>= kk ∧ kk (some #[u]) = pure [(y, u)])
    (hbody : ∀ (A : Around) (outer : List Env) (s : Shared) (H : Hp) (E : XK) (f c' : Addr), A.guards = some [] → Room k (A.deeper (lamEnv X sc s.heap.objs.size f c')) → PE (lamCx X A outer s H E sc f c') bo (t E))
    (hdb : (x == ("__debug__" : Str)) = false := by decide) (hd : (a == ("__debug__" : Str)) = false := by decide) (hcd : (a == ("__classdict__" : Str)) = false := by decide) :
    PE X (.Call (.Name x p) [.Lambda ps bo sc lpos] [] pos) (tLam T TT t) := by
  refine ⟨fun pins s σ H Q I ⟨hT, rd⟩ => ?_⟩
  refine wpAny_Call_Name_kw (ld_glob I hg hm ?_ hdb)
  refine PySem.W.callWith_K (h₀ := X.base) I.ok.mod.kin hk ?_ (by rfl) (by rfl)
  change wpAny _ _ (spliced ((false, eval (.Lambda ps bo sc lpos) X.env) :: backTo pos (starEach [] X.env))) _ _ s
  have go : ∀ (dv : Value) (pins2 : List (Addr × Obj)) (t0 : Shared), Inv X pins2 σ H t0 → (∀ t1 H1, Inv X pins2 σ H1 t1 → Inv X pins σ H1 t1) →
      (∀ (t1 : Shared) (H1 : Hp) (q : Str) (cl : List (Str × Addr)) (pm cv ct : Value), Inv X pins2 σ H1 t1 → LamBinds X H1 t1 sc (fnL q ps bo sc cl pm cv ct dv)) →
      wpAny (model X.prog X.w) X.A (makeTail "<lambda>" (X.env.qual ++ "<lambda>") ps (.expr bo) sc X.env dv .none none lpos lpos.line) (fun v s' => wpAny (model X.prog X.w) X.A (spliced (backTo pos (starEach [] X.env))) (fun vs s2 => X.K.In s2.heap ∧ wpAny (model X.prog X.w) X.A (call (.ref g) (v :: vs)) (EP X pins σ Q) X.xe s2) X.xe s') X.xe t0 := fun dv pins2 t0 I0 back lb => by
    refine lamTail I0 TB hcode hmT hu hT (L.has I0.ok) fun f c' pm' ct' H1 t1 I1 eN T1 hf hfn hfr hco => ?_
    have J1 := back t1 H1 I1
    refine Calls.spliced_nil ⟨J1.kIn, ?_⟩
    have rc : codeAny (model X.prog X.w) X.A (.call (.ref g) ⟨[.ref f], []⟩) (CR L2.CX0 X.stack X.prog X.w H1 t1 Q L2.E0) t1 := by
      refine run_ofS (N := Ng) (ps := [a]) (us := [.ref f]) (vs := [.ref f]) lk hcg Sg hr J1.env0 (hb t1 [.ref f] J1.kIn rfl) (.cons rfl .nil) rfl fun hr' => ?_
      obtain ⟨t', ht', hq'⟩ := hGv f c' t1 H1 Q (fun E H' Q' => t E σ H' Q') (fun W pn xe p1 p2 tk => pe_actL (i := 0) (E := fun σZ cls d H' => W cls d σZ H') (tb := fun σZ => t (fun cls d H' => W cls d σZ H')) J1 L hf hfn hfr (lb t1 H1 _ _ _ _ _ I1) tk (fun _ _ _ _ h => h) hr' hG (fun σ' A outer s H hg2 hr2 => hbody A outer s H _ f c' hg2 hr2) hNg hva hd hcd) hco hr' (rd H1 eN T1)
      exact ⟨t', ht'.nox, hq'⟩
    refine wpAny_call (codeAny_mono rc fun r s2 hq => ?_)
    rcases r with e | (_ | _ | _ | u)
    all_goals first | exact (show False from hq).elim | exact J1.after hq
  refine Calls.spliced_cons ?_
  rcases hdef with ⟨e0, b0⟩ | ⟨e, x0, y, e1, he, hy, b1⟩
  · exact lamEval0 e0 (go .none pins s I (fun _ _ h => h) fun t1 H1 q cl pm cv ct I1 t2 st => ⟨[], BindsTo.of_eq (b0 q cl pm cv ct), fun z hz => absurd hz List.not_mem_nil⟩)
  · refine lamEval1 I e1 he fun D u t0 r I' => go (.ref D) _ t0 I' (fun t1 H1 h => h.pins_of fun p hp => h.pin p (List.mem_append_right _ (List.mem_cons_of_mem _ hp))) fun t1 H1 q cl pm cv ct I1 t2 st => ?_
    obtain ⟨g1, g2, g3, g4, _⟩ := I1.pin (D, tupO u) (List.mem_append_right _ List.mem_cons_self)
    have nf : D ∉ frs X.stack := fun z => (List.mem_cons.mp (I1.stkSub _ z)).elim g3 g4
    have e2 := st D _ g1 g2 nf
    obtain ⟨kk, k1, k2⟩ := b1 q cl pm cv ct u D
    refine ⟨[(y, u)], fun M A E Q k => ?_, fun z hz => ?_⟩
    · rw [k1]
      refine wpAny_bind (wpAny_seqItems e2 rfl ?_)
      rw [k2]
      exact wpAny_pure k
    · rw [List.mem_singleton.mp hz]
      exact hy
end
end Nd

namespace Nd
open PySem PySem.Spec PyProof.Rows L2 LamX
/-! ### a law's own call, where code tables are told -/
theorem fields_nil {b : Addr} {g : Heap} {o : Obj} (e : g.get? b = some o) (z : g.get? b = some ({ cls := .none, data := .fields #[] } : Obj)) : o = { cls := .none, data := .fields #[] } := Option.some.inj (e.symm.trans z)
theorem entT {P : Program} {w : World} {K : PySem.W.Frag} {mg mb : Str → Option Value} {CX : CXT} {k : Nat} {fa a c P1 : Addr} {fd : FuncData} {x : Str} {sp : Sp} {s₁ : Shared} {vs : List Value} {ns : List Int}
    (KX : K.In s₁.heap) (hns : s₁.heap.Ns mainGlobals mg) (hb : s₁.heap.Ns builtinsNs mb) (hbb : ∀ y : Str, y ≠ "__name__" → mb y = bootBuiltins y) (hlim : s₁.heap.NoLimit) (hg : s₁.gens = #[])
    (tP : s₁.heap.get? P1 = some { cls := .none, data := .fields #[] }) (nP : K.lookup P1 = none) (cP : PySem.W.CodeHd s₁.heap c P1)
    (bm : ∃ (m : Addr) (om : Obj), mg "__builtins__" = some (.ref m) ∧ m ≠ builtinsNs ∧ s₁.heap.get? m = some om ∧ om.cls = .type "module" ∧ om.dict = some builtinsNs ∧ om.data = .plain)
    (ha : s₁.heap.get? a = some { cls := .type "list", data := .seq vs.toArray }) (hi : IntsAre vs ns) (hl : ns.length ≤ sizeLine) (hr : Room k callerA)
    (F : ∀ base : Heap, K.In base → base.Ns mainGlobals mg → TabB base mg c P1 → FnG P w K mg base CX k fa fd [x] sp)
    (hbind : ∀ (s : Shared) (u : Value), BindsTo s fd ⟨[u], []⟩ [(x, u)])
    (hsp : ∀ H : Hp, H P1 = some (.tbl #[]) → SqL K H a (ns.map V.int) → sp [.ref a] H (fun v _ => v = .bl true) E0)
    (hCX : ∀ H e s', CX [] H s₁ E0 e s' → False) :
    codeAny (model P w) callerA (.call (.ref fa) ⟨[.ref a], []⟩) (fun r s' => r = .ok (.ret (.bool true)) ∧ OldK s₁.heap s'.heap ∧ s'.os = s₁.os ∧ AllBare s'.gens) s₁ := by
  have rv := vals_ints hi
  have aP : a ≠ P1 := fun z => by
    have q := fields_nil (z ▸ ha) tP
    cases congrArg Obj.data q
  obtain ⟨H, eP, eA, eO⟩ : ∃ H : Hp, H P1 = some (.tbl #[]) ∧ (H a = if K.lookup a = none then some (.frz { cls := .type "list", data := .seq vs.toArray } (.lst (ns.map V.int))) else none) ∧ ∀ b, b ≠ P1 → b ≠ a → H b = none :=
    ⟨fun b => if b = P1 then some (.tbl #[]) else if b = a then (if K.lookup a = none then some (.frz { cls := .type "list", data := .seq vs.toArray } (.lst (ns.map V.int))) else none) else none,
      if_pos rfl, (if_neg aP).trans (if_pos rfl), fun b n1 n2 => (if_neg n1).trans (if_neg n2)⟩
  have hid : ∀ {b : Addr} {o : Obj}, s₁.heap.get? b = some o → (b = a → K.lookup a ≠ none) → b ≠ P1 → (hidT s₁.heap H).get? b = some o := fun {b o} e n1 n2 => by
    refine hidT_get e ?_
    by_cases z : b = a
    · rw [z, eA, if_neg (n1 z)]
    · exact eO b n2 z
  have ofDict : ∀ {b : Addr} {o : Obj} {es : Array DictEntry} {ep : Nat}, s₁.heap.get? b = some o → o.data = .dict es ep → (hidT s₁.heap H).get? b = some o := fun {b o es ep} e d => by
    refine hid e (fun z => ?_) fun z => ?_
    · rw [z, ha] at e
      cases e
      cases d
    · rw [z] at e
      rw [fields_nil e tP] at d
      cases d
  have toNs : ∀ {b : Addr} {m : Str → Option Value}, s₁.heap.Ns b m → (hidT s₁.heap H).Ns b m := fun {b m} ⟨o, es, ep, e, d, r⟩ => ⟨o, es, ep, ofDict e d, d, r⟩
  have inB : K.In (hidT s₁.heap H) := fun b o e => hid (KX b o e) (fun z => by rw [← z, e]; exact fun q => nomatch q) fun z => by rw [z, nP] at e; cases e
  obtain ⟨mc, l1, l2⟩ := hlim
  have md : Mod K mg (hidT s₁.heap H) := ⟨inB, toNs hns, ⟨mb, toNs hb, hbb⟩, mc, toNs l1, l2⟩
  have nG : mainGlobals ≠ P1 := fun z => by
    obtain ⟨o, es, ep, e, d, _⟩ := hns
    rw [z] at e
    rw [fields_nil e tP] at d
    cases d
  have tb : TabB (hidT s₁.heap H) mg c P1 := by
    obtain ⟨oc, us, e0, e1, e2, e3, e4, e5, e6, g1, g2, g3, gr⟩ := cP
    obtain ⟨m, om, m1, m2, m3, m4, m5, m6⟩ := bm
    refine ⟨⟨oc, us, e0, e1, e2, e3, e4, e5, e6, hid g1 (fun z => ?_) (fun z => ?_), g2, g3, gr⟩, ⟨m, om, m1, m2, fun z => ?_, fun z => ?_, hid m3 (fun z => ?_) (fun z => ?_), m4, m5, m6⟩, nG⟩
    · rw [z, ha] at g1
      rw [← Option.some.inj g1] at g2
      injection g2 with g2
      exact absurd g2 (by decide)
    · rw [z] at g1
      rw [fields_nil g1 tP] at g2
      cases g2
    · obtain ⟨o, es, ep, e, d, _⟩ := hns
      rw [z, e] at m3
      cases m3
      rw [d] at m6
      cases m6
    · rw [z] at m3
      rw [fields_nil m3 tP] at m6
      cases m6
    · rw [z, ha] at m3
      cases m3
      cases m6
    · rw [z] at m3
      rw [fields_nil m3 tP] at m6
      cases m6
  have ok : HOk P w H s₁.heap := fun b u z => by
    by_cases q : b = P1
    · rw [q, eP] at z
      cases z
      rw [q]
      exact tP
    · by_cases q2 : b = a
      · rw [q2, eA] at z
        by_cases hk : K.lookup a = none
        · rw [if_pos hk] at z
          cases z
          rw [q2]
          exact ⟨ha, by rw [List.length_map]; exact hl, vs, _, rv, ha⟩
        · rw [if_neg hk] at z
          cases z
      · rw [eO b q q2] at z
        cases z
  have env : Env0 P w K mg (hidT s₁.heap H) callerA [] s₁ H :=
    { frames := rfl, mod := md, bs := fun b o e => of_hidT e
      bsz := Nat.le_of_eq (hidT_size _ _), funs := trivial
      frf := fun b hb => (List.not_mem_nil (show b ∈ ([] : List Addr) from hb)).elim
      hok := ok, bare := .of_eq hg }
  have sq : SqL K H a (ns.map V.int) := by
    by_cases hk : K.lookup a = none
    · exact .inl (.inr ⟨_, by rw [eA, if_pos hk]⟩)
    · obtain ⟨o, e⟩ := Option.ne_none_iff_exists'.mp hk
      obtain rfl := Option.some.inj ((KX a o e).symm.trans ha)
      refine .inr ⟨_, vs.toArray, _, e, rfl, rfl, rfl, ?_, by simpa using rv⟩
      rw [List.size_toArray, hi.length]
      exact hl
  have run := (F _ inB (toNs hns) tb).go callerA [] s₁ H ⟨[.ref a], []⟩ [.ref a] [.ref a] _ _ rfl hr env (hbind s₁ (.ref a)) (.cons rfl .nil) (hsp H eP sq)
  refine codeAny_mono run fun r s' h => ?_
  rcases r with e | fl
  · exact (hCX H e s' h).elim
  rcases fl with _ | _ | _ | u
  all_goals first | exact False.elim h | skip
  obtain ⟨v, H', os, bare, un, ok', rv', rfl⟩ := h
  cases (show u = Value.bool true from rv')
  have stays : ∀ b o, b ≠ P1 → s₁.heap.get? b = some o → s'.heap.get? b = some o := fun b o n e => by
    by_cases z : b = a
    · subst z
      by_cases hk : K.lookup b = none
      · have new := (ok' b _ (un.frzs b _ _ (by rw [eA, if_pos hk]))).1
        exact new.trans (ha.symm.trans e)
      · exact un.keep b o e (by rw [eA, if_neg hk]) (fun m => (List.not_mem_nil (show b ∈ ([] : List Addr) from m)).elim) (by simp)
    · exact un.keep b o e (eO b n z) (fun m => (List.not_mem_nil (show b ∈ ([] : List Addr) from m)).elim) (by simp)
  obtain ⟨more, hm⟩ : ∃ more : Array Value, s'.heap.get? P1 = some { cls := .none, data := .fields more } := by
    obtain ⟨more, z⟩ := un.tbls P1 #[] eP
    exact ⟨_, ok' P1 _ z⟩
  refine ⟨rfl, ⟨fun b o e => ?_, fun b o e => ?_⟩, os, bare⟩
  · by_cases z : b = P1
    · subst z
      obtain rfl := fields_nil e tP
      exact .inr (.inl ⟨(cP.tab tP).isCodeTable, rfl, #[], more, rfl, by rw [Array.empty_append]; exact hm⟩)
    · exact .inl (stays b o z e)
  · by_cases z : b = P1
    · exact ⟨_, z ▸ hm⟩
    · exact ⟨o, stays b o z e⟩
theorem walkT {l : PySem.W.OpenLaw} {n k : Nat} {q : Program} {loose : List Str} {XP : (Str → Option Value) → Heap → Prop} {YP : World → Heap → Prop} {d : DefRec}
    {K : Params → PySem.W.Frag} {CX : World → CXT} {x : Str} (hn : l.most = some n) (hn2 : n ≤ sizeLine) (hdf : d.params.defaults = []) (hr : Room k callerA)
    (hY : ∀ (w : World) (h : Heap), YP w h → (K w.params).In h)
    (F : ∀ (w : World) (mg : Str → Option Value) (fa : Addr) (h : Heap), YP w h → (K w.params).In h → h.Ns mainGlobals mg → mg d.name = some (.ref fa) →
      ∃ (fd : FuncData) (c P1 : Addr) (sp : Sp), h.get? P1 = some { cls := .none, data := .fields #[] } ∧ (K w.params).lookup P1 = none ∧ PySem.W.CodeHd h c P1 ∧ (∀ (s : Shared) (u : Value), BindsTo s fd ⟨[u], []⟩ [(x, u)]) ∧
        (∀ (H : Hp) (a : Addr) (ns : List Int), ns.length ≤ n → H P1 = some (.tbl #[]) → SqL (K w.params) H a (ns.map V.int) → sp [.ref a] H (fun v _ => v = .bl true) E0) ∧
        ∀ base : Heap, (K w.params).In base → base.Ns mainGlobals mg → TabB base mg c P1 → FnG l.prog w (K w.params) mg base (CX w) k fa fd [x] sp)
    (hCX : ∀ (w : World) (H : Hp) (s : Shared) (e : Value) (s' : Shared), CX w [] H s E0 e s' → False) :
    PySem.W.WalkO q loose XP YP l.row.toRowW d [] (fun f vs => PySem.call f vs) := by
  apply Att.attach_callB hn hdf
  intro w s₀ s₁ mg mb fa o pm cd doc a vs ns G Y _ _ _ hmg hobj hints hlen _ hg
  obtain ⟨fd, c, P1, sp, tP, nP, cP, hb, hsp, hF⟩ := F w mg fa _ Y (hY w _ Y) G.T.g hmg
  exact entT (hY w _ Y) G.T.g G.T.b G.T.builtins G.T.nolimit hg tP nP cP G.T.bmain hobj hints (Nat.le_trans hlen hn2) hr hF hb (fun H hT hS => hsp H a ns hlen hT hS) (fun H e s' => hCX w H s₁ e s')
end Nd

namespace Nd
open PySem PySem.Spec PyProof.Rows L2 LamX
/-! ### defs that raise -/
section
variable {P : Program} {w : World} {K : PySem.W.Frag} {mg : Str → Option Value} {base : Heap}
theorem takesX {N : List Str} {qual : Str} {scope : Scope} {f : Addr} {cdv : Value} {A : Around} {outer : List Env} {s : Shared} {H : Hp} {E : XK} :
    Takes (cxOf (L2.CX P w) P w K mg base N qual scope f cdv A outer s H E) (fun cls d _ H' => E cls d H') := takes_of rfl rfl rfl rfl
theorem passX {N : List Str} {qual : Str} {scope : Scope} {f : Addr} {cdv : Value} {A : Around} {outer : List Env} {s : Shared} {H : Hp} {E : XK} :
    Passes (L2.CX P w) (cxOf (L2.CX P w) P w K mg base N qual scope f cdv A outer s H E) E := passes_call takesX fun _ _ _ _ h => h
theorem takesLam {X : Cx} {A : Around} {outer : List Env} {s : Shared} {H : Hp} {E : XK} {sc : Scope} {f c' : Addr} : Takes (lamCx X A outer s H E sc f c') (fun cls d _ H' => E cls d H') := takes_of rfl rfl rfl rfl
theorem passLam {X : Cx} {A : Around} {outer : List Env} {s : Shared} {H : Hp} {E : XK} {sc : Scope} {f c' : Addr} : Passes (L2.CX X.prog X.w) (lamCx X A outer s H E sc f c') E := passes_call takesLam fun _ _ _ _ h => h
theorem FnG.calm {k : Nat} {f : Addr} {fd : FuncData} {ps : List Str} {sp : Sp} (F : FnG P w K mg base (L2.CX P w) k f fd ps sp) : FnG P w K mg base CX0 k f fd ps (fun vs H Q _ => sp vs H Q E0) := by
  refine ⟨fun vs H Q _ h => F.many vs H Q _ h, fun A fr s H args us vs Q E hG hr e0 hb r h => ?_⟩
  refine codeAny_mono (F.go A fr s H args us vs Q E0 hG hr e0 hb r h) fun q s' hq => ?_
  rcases q with e | fl
  · obtain ⟨_, _, _, _, _, _, _, _, _, _, _, _, z⟩ := hq
    exact z.elim
  · rcases fl with _ | _ | _ | u <;> exact hq
theorem Cal.calm {k : Nat} {x : Str} {sp : Sp} (c : Cal P w K mg base (L2.CX P w) k x sp) : Cal P w K mg base CX0 k x (fun vs H Q _ => sp vs H Q E0) := by
  obtain ⟨f, fd, ps, F, r⟩ := c.ex
  exact ⟨f, fd, ps, F.calm, r⟩
theorem CalK.calm {k : Nat} {x : Str} {ks : List Str} {ix : List Nat} {sp : Sp} (c : CalK P w K mg base (L2.CX P w) k x ks ix sp) : CalK P w K mg base CX0 k x ks ix (fun vs H Q _ => sp vs H Q E0) := by
  obtain ⟨f, fd, ps, F, r⟩ := c.ex
  exact ⟨f, fd, ps, F.calm, r⟩
/-- an own error's class at C, whose __init__ keeps sp -/
structure MkE (P : Program) (w : World) (K : PySem.W.Frag) (mg : Str → Option Value) (base : Heap) (x : Str) (C : Addr) (k : Nat) (sp : Sp) : Prop where
  oex : OexC K C
  gm : mg x = some (.ref C)
  ini : ∃ (fI : Addr) (fd : FuncData) (ps : List Str), PySem.W.findIn K (.ref C) "__init__" = some (some (.ref fI)) ∧ PySem.W.typeIn K (.ref fI) = some (.type "function") ∧ FnG P w K mg base CX0 k fI fd ps sp ∧ Binds K fd ps []
end
theorem pmk_e {X : Cx} {x : Str} {C : Addr} {k : Nat} {sp : Sp} {e : Expr} {es : List Expr} {ta : TA} {p pos : Pos} (M : MkE X.prog X.w X.K X.mg X.base x C k sp) (hG : X.A.guards = some []) (hr : Room (k + 1) X.A) (hg : Gl X x) (ha : PA X (e :: es) ta)
    (hdb : (x == ("__debug__" : Str)) = false := by decide) (he : starEach (e :: es) X.env = (false, eval e X.env) :: starEach es X.env := by rfl) (hpl : (backTo pos (starEach es X.env)).any (·.1) = false := by rfl) :
    PMk X (.Call (.Name x p) (e :: es) [] pos) (tMkO C sp [] ta) := by
  obtain ⟨fI, fd, ps, iC, tI, Fi, hB⟩ := M.ini
  obtain ⟨nm, q, N, bs, bm, sn, sub, ab, col, dd, k0, k1, k2, k3, k5, hC, hbm⟩ := M.oex.cls
  intro pins s σ H Q I h
  apply wpAny_Call_Name_kw (ld_glob I hg M.gm ?_ hdb)
  apply PySem.W.callWith_K (h₀ := X.base) I.ok.mod.kin M.oex.kC ?_ he hpl
  apply thn (ha.run pos pins s σ H _ I h)
  rintro us ⟨hp, g, dr, tk, os⟩ ⟨vs, H1, I1, r1, hz, q1⟩
  refine ⟨I1.kIn, ?_⟩
  change wpAny _ _ (call (Value.ref C) us) _ _ _
  have n1 : H1 (hp.objs.size + 1) = none := I1.hok.fresh (Nat.le_succ _)
  have want := q1 _ n1
  rw [List.append_nil] at want
  have stay : ∀ b o, hp.get? b = some o → ((hp.push (PySem.W.kdv_tup us)).push (PySem.HandSPX.excO C hp.objs.size)).get? b = some o := fun b o z => Heap.get?_push_of_some _ (Heap.get?_push_of_some _ z)
  have at1 : ((hp.push (PySem.W.kdv_tup us)).push (PySem.HandSPX.excO C hp.objs.size)).get? (hp.objs.size + 1) = some (PySem.HandSPX.excO C hp.objs.size) := by heap_get
  have I2 : Inv X pins σ (upd H1 (hp.objs.size + 1) (exo (hp.objs.size + 1) C none)) ⟨(hp.push (PySem.W.kdv_tup us)).push (PySem.HandSPX.excO C hp.objs.size), g, dr, tk, os⟩ :=
    I1.laid (t' := tk) (h' := (hp.push (PySem.W.kdv_tup us)).push (PySem.HandSPX.excO C hp.objs.size)) stay (Nat.le_succ _) (exo_ok at1)
  have rr : Vals (V.ref (hp.objs.size + 1) :: vs) (Value.ref (hp.objs.size + 1) :: us) := .cons rfl r1
  have lu : (Value.ref (hp.objs.size + 1) :: us ++ []).length = ps.length := by
    rw [List.append_nil]
    exact rr.length.symm.trans (Fi.many _ _ _ _ want)
  have bb := hB _ (Value.ref (hp.objs.size + 1) :: us) I2.kIn lu
  rw [List.append_nil] at bb
  have small : us.length ≤ sizeLine := by
    rw [← r1.length, sizeLine_eq]
    omega
  refine wpAny_call (PySem.HandSPX.call_own F.excBase_ValueError (fun Y => PySem.HandSPX.refsVE_contains Y bm hbm) (I1.kIn _ _ hC) (PySem.W.looks_findIn I1.kIn iC) (fun self => PySem.W.bind_fn I1.kIn self tI) small ?_)
  refine codeAny_mono (Fi.go _ X.stack _ _ ⟨Value.ref (hp.objs.size + 1) :: us, []⟩ (Value.ref (hp.objs.size + 1) :: us) _ _ (fun _ _ _ => False) ?_ (hr.make C us []) (I2.env0.make C us []) bb rr want) fun r s' hq => ?_
  · exact hG
  rcases r with e' | (_ | _ | _ | u)
  all_goals first | exact (show False from hq).elim | skip
  obtain ⟨v, H2, o2, b2, un2, ok2, rv, ev, d, fs, e1, e2, e3, q2⟩ := hq
  subst ev
  obtain ⟨h2, g2, d2, t2, os'⟩ := s'
  exact ⟨rv, mk_end (raises_own M.oex.exC M.oex.tyC) I1 (Nat.le_succ _) stay un2 ok2 o2 b2 e1 e2 e3 q2⟩
/-- raise x(..) -/
def tRaiseE (W : WX) (C : Addr) (sp : Sp) (ta : TA) : TS := fun _ σ H => tMkO C sp [] ta σ H fun cls d H' => W cls d σ H'
theorem ps_raiseE {X : Cx} {W : WX} {x : Str} {C : Addr} {k : Nat} {sp : Sp} {e : Expr} {es : List Expr} {ta : TA} {p pos pos2 : Pos} (hc : X.calm = true) (tk : Takes X W) (M : MkE X.prog X.w X.K X.mg X.base x C k sp) (hG : X.A.guards = some []) (hr : Room (k + 1) X.A) (hg : Gl X x) (ha : PA X (e :: es) ta)
    (hdb : (x == ("__debug__" : Str)) = false := by decide) (he : starEach (e :: es) X.env = (false, eval e X.env) :: starEach es X.env := by rfl) (hpl : (backTo pos (starEach es X.env)).any (·.1) = false := by rfl) :
    PS X (.Raise (some (.Call (.Name x p) (e :: es) [] pos)) none pos2) (tRaiseE W C sp ta) := ps_raise hc tk (pmk_e M hG hr hg ha hdb he hpl)
/-! ### errors that keep texts: fl, the names of their fields -/
def spInit (C : Addr) (fl : List Str) : Sp := fun vs H Q _ => ∃ (a : Addr) (zs : List Str), vs = .ref a :: zs.map V.str ∧ zs.length = fl.length ∧ (∀ z ∈ zs, z.length ≤ 100) ∧ H a = some (exo a C none) ∧
  ∀ d, H d = none → d ≠ a → Q .non (upd (upd H d (exd d (fl.zip (zs.map V.str)).reverse)) a (exo a C (some d)))
theorem k_raiseE {W : WX} {C : Addr} {fl : List Str} {ta : TA} {D : Ends} {σ : L2.St} {H : Hp}
    (h : ta σ H fun vs H1 => ∃ zs : List Str, vs = zs.map V.str ∧ zs.length = fl.length ∧ fl.length ≤ 10 ∧ (∀ z ∈ zs, z.length ≤ 100) ∧ ∀ d, H1 d = none → W (.ref C) (some d) σ (upd H1 d (.xd (fl.zip (zs.map V.str)).reverse)))
    (mono : ∀ {Q Q' : List V → Hp → Prop}, (∀ vs H', Q vs H' → Q' vs H') → ta σ H Q → ta σ H Q') : tRaiseE W C (spInit C fl) ta D σ H := by
  refine mono (fun vs H1 ⟨zs, e, hl, h10, hz, q⟩ => ?_) h
  subst e
  refine ⟨by rw [List.length_map]; omega, fun a na => ⟨a, zs, by rw [List.append_nil], hl, hz, upd_same, fun d hd ne => ?_⟩⟩
  rw [upd_ne ne] at hd
  refine ⟨rfl, d, _, upd_same, (upd_ne ne).trans upd_same, hd, ?_⟩
  have eH : upd (del (upd (upd (upd H1 a (exo a C none)) d (exd d (fl.zip (zs.map V.str)).reverse)) a (exo a C (some d))) a) d (.xd (fl.zip (zs.map V.str)).reverse) = upd H1 d (.xd (fl.zip (zs.map V.str)).reverse) := by
    funext b
    by_cases e1 : b = d
    · rw [e1, upd_same, upd_same]
    · rw [upd_ne e1, upd_ne e1]
      by_cases e2 : b = a
      · rw [e2, del_same, na]
      · rw [del_ne e2, upd_ne e2, upd_ne e1, upd_ne e2]
  rw [eH]
  exact q d hd
/-- an error of the class at C is out, which keeps the text z in part -/
def Outs (E : XK) (C : Addr) (z : Str) (H : Hp) : Prop := ∀ H' dd, Same H H' → H dd = none → H' dd = some (.xd [("part", .str z)]) → E (.ref C) (some dd) H'
theorem Outs.same {E : XK} {C : Addr} {z : Str} {H H1 : Hp} (o : Outs E C z H) (s : Same H H1) : Outs E C z H1 := fun H' dd s' n e => o H' dd (s.trans s') (s.free n) e
def spNeedX (C : Addr) : Sp := fun vs H Q E => ∃ (r : Addr) (v : V) (z : Str) (d : PyData) (l m : Option Int), vs = [v, .str z, optV l, optV m] ∧ z.length ≤ 100 ∧ Dr r H v d ∧
  (withinD d l m = true → ∀ H', Same H H' → Q .non H') ∧ (withinD d l m = false → Outs E C z H)
/-- the j-th statement of a class's text -/
def mem (st : Stmt) (j : Nat) : Stmt := match st with
  | .ClassDef (body := b) .. => b.getD j (.Pass ⟨0, 0, 0, 0⟩)
  | _ => st
/-- what a def makes of a lambda that raises such an error: the text that it keeps -/
def TTpart (C : Addr) (z : Str) : (XK → Hp → VK → Prop) → Hp → VK → Prop := fun tl H Q =>
  ∀ E : XK, (∀ d H', H' d = some (.xd [("part", .str z)]) → (∀ H2, Same H' H2 → Q (.str z) H2) → E (.ref C) (some d) H') → tl E H (fun _ _ => False)
/-- a def that is given a lambda, for its callers -/
structure Tells (P : Program) (w : World) (K : PySem.W.Frag) (mg : Str → Option Value) (base : Heap) (x : Str) (k : Nat) (TT : Str → (XK → Hp → VK → Prop) → Hp → VK → Prop) : Prop where
  ex : ∃ (g : Addr) (a : Str) (pg : Arguments) (bg : List Stmt) (sg : Scope) (dV kV doc pm cdv ct oc : Value) (an od : Option Addr) (osl : Array (Option Value)) (Ng : List Str), mg x = some (.ref g) ∧ PySem.W.keepIn K (.ref g) = true ∧
    K.lookup g = some ⟨oc, od, .func (PySem.W.fnOf x x pg bg sg dV kV doc pm an cdv ct), osl⟩ ∧ PySem.W.codeIn K cdv x = true ∧ Binds K (PySem.W.fnOf x x pg bg sg dV kV doc pm an cdv ct) [a] [] ∧ FnScope Ng [a] sg ∧ Ng[0]? = some a ∧ Vis sg a ∧
    (a == ("__debug__" : Str)) = false ∧ (a == ("__classdict__" : Str)) = false ∧
    ∀ (X : Cx) (q z : Str), X.prog = P → X.w = w → X.K = K → X.mg = mg → X.base = base → X.A.guards = some [] → GivesG X Ng x sg g cdv bg a q k (TT z)
theorem pe_tells {X : Cx} {T : List (Addr × Str)} {TT : Str → (XK → Hp → VK → Prop) → Hp → VK → Prop} {x z : Str} {c P : Addr} {k : Nat} {ps : Arguments} {bo : Expr} {sc : Scope} {t : XK → TE} {p lpos pos : Pos}
    (L0 : Tells X.prog X.w X.K X.mg X.base x (k + 1) TT) (hg : Gl X x) (hG : X.A.guards = some []) (TB : TabB X.base X.mg c P) (hcode : X.env.code = .ref c) (hmT : (P, X.env.qual ++ "<lambda>") ∈ T) (hu : ∀ p ∈ T, p.1 = P → p.2 = X.env.qual ++ "<lambda>") (hr : Room (k + 2) X.A) (L : LamD X.N X.env.scope sc)
    (hdef : (defaultsOf ps X.env = ([], []) ∧ ∀ (q : Str) (cl : List (Str × Addr)) (pm cv ct : Value), bindArgs (fnL q ps bo sc cl pm cv ct .none) ⟨[], []⟩ = pure []) ∨
      ∃ (e : Expr) (x0 : V) (y : Str), defaultsOf ps X.env = ([eval e X.env], []) ∧ PE X e (tC x0) ∧ sc.names.lookup y = some .local ∧
        ∀ (q : Str) (cl : List (Str × Addr)) (pm cv ct u : Value) (D : Addr), ∃ kk, bindArgs (fnL q ps bo sc cl pm cv ct (.ref D)) ⟨[], []⟩ = seqItems? (.ref D) >>= kk ∧ kk (some #[u]) = pure [(y, u)])
    (hbody : ∀ (A : Around) (outer : List Env) (s : Shared) (H : Hp) (E : XK) (f c' : Addr), A.guards = some [] → Room k (A.deeper (lamEnv X sc s.heap.objs.size f c')) → PE (lamCx X A outer s H E sc f c') bo (t E))
    (hdb : (x == ("__debug__" : Str)) = false := by decide) :
    PE X (.Call (.Name x p) [.Lambda ps bo sc lpos] [] pos) (tLam T (TT z) t) := by
  obtain ⟨g, a, pg, bg, sg, dV, kV, doc, pm, cdv, ct, oc, an, od, osl, Ng, hm, hk, lk, hcd, hB, S, h0, hv, d1, d2, gv⟩ := L0.ex
  exact pe_lamL hg hm hk lk hcd hB S h0 hv (gv X _ z rfl rfl rfl rfl rfl hG) hG TB hcode hmT hu hr L hdef hbody hdb d1 d2
theorem k_lamP {T : List (Addr × Str)} {C : Addr} {z : Str} {t : XK → TE} {σ : L2.St} {H : Hp} {Q : VK} (hT : Tabs T H) (h : ∀ (H1 : Hp) (E : XK), ExtN H H1 → Tabs T H1 → Outs E C z H1 → t E σ H1 (fun _ _ => False))
    (k : ∀ H2, ExtN H H2 → Tabs T H2 → Q (.str z) H2) : tLam T (TTpart C z) t σ H Q :=
  ⟨hT, fun H1 x1 T1 E hE => h H1 E x1 T1 fun H' dd s _ e => hE dd H' e fun H2 s2 => k H2 (x1.trans (ExtN.of (s.trans s2))) (T1.ext (s.trans s2))⟩
/-! ### what stays where all but the tables stays -/
theorem Rid.ext {r : Addr} {n : Nat} {H H' : Hp} (h : Rid r n H) (s : ExtN H H') : Rid r n H' := by
  obtain ⟨c, ns, a, z, h1, h2, h3, h4⟩ := h.ex
  exact ⟨c, ns, a, z, h1, s _ _ h2 (fun _ e => nomatch e), s _ _ h3 (fun _ e => nomatch e), h4⟩
mutual
theorem Dr.ext {r : Addr} {H H' : Hp} (g : ExtN H H') : ∀ {v : V} {d : PyData}, Dr r H v d → Dr r H' v d
  | _, _, .non => .non
  | _, _, .bl b => .bl b
  | _, _, .int i => .int i
  | _, _, .str x => .str x
  | _, _, .lst n e h => .lst n (g _ _ e fun _ z => nomatch z) (DrAll.ext g h)
  | _, _, .tup n e h => .tup n (g _ _ e fun _ z => nomatch z) (DrAll.ext g h)
  | _, _, .dct n e h => .dct n (g _ _ e fun _ z => nomatch z) (DrAll.ext g h)
theorem DrAll.ext {r : Addr} {H H' : Hp} (g : ExtN H H') : ∀ {vs : List V} {ds : List PyData}, DrAll r H vs ds → DrAll r H' vs ds
  | _, _, .nil => .nil
  | _, _, .cons h t => .cons (Dr.ext g h) (DrAll.ext g t)
end
theorem _root_.LamX.Tabs.gr {T : List (Addr × Str)} {r : Addr} {n : Nat} {H H' : Hp} (t : Tabs T H) (R : Rid r n H) (g : Gr r H H') : Tabs T H' := by
  obtain ⟨c, ns, a, z, h1, h2, h3, h4⟩ := R.ex
  intro p hp
  obtain ⟨ps, e1, e2, e3⟩ := t p hp
  refine ⟨ps, g.all _ _ (fun q => ?_) e1, e2, fun pos cv hc => ?_⟩
  · rw [q, h2] at e1
    cases e1
  · obtain ⟨c', q1, q2⟩ := e3 pos cv hc
    refine ⟨c', q1, g.all _ _ (fun q => ?_) q2⟩
    rw [q, h2] at q2
    have := Option.some.inj q2
    unfold CodeO at this
    cases this
theorem _root_.LamX.Tabs.one {P : Addr} {q : Str} {H : Hp} (e : H P = some (.tbl #[])) : Tabs [(P, q)] H := by
  intro p hp
  rw [List.mem_singleton.mp hp]
  exact ⟨#[], e, trivial, fun pos cv hc => nomatch hc⟩
/-! ### a def whose code object is told -/
theorem okGd {P : Program} {w : World} {K : PySem.W.Frag} {mg : Str → Option Value} {base : Heap} {x qual : Str} {st : Stmt} {f c : Addr} {fd : FuncData} {N ps : List Str}
    {k : Nat} {sp : Sp} (F : Fun K x qual st f fd) (hc : fd.code = .ref c) (S : FnScope N ps (defScope st)) (many : ∀ vs H Q E, sp vs H Q E → vs.length = ps.length)
    (body : ∀ (A : Around) (fr : List Env) (s : Shared) (H : Hp) (vs : List V) (Q : VK) (E : XK),
      (cxOf CX0 P w K mg base N qual (defScope st) f (.ref c) A fr s H E).nox.A.guards = some [] → Room k (cxOf CX0 P w K mg base N qual (defScope st) f (.ref c) A fr s H E).nox.A → sp vs H Q E →
      ∃ t, PSs (cxOf CX0 P w K mg base N qual (defScope st) f (.ref c) A fr s H E).nox (defBody st) t ∧ t { nx := fun _ H' => Q .non H', rt := Q } (start N vs) H) :
    FnG P w K mg base CX0 (k + 1) f fd ps sp := by
  obtain ⟨oc, od, kV, doc, pm, an, cdv, ct, osl, rfl, lk, hcd⟩ := F.ex
  obtain rfl : cdv = .ref c := hc
  refine ⟨many, ?_⟩
  intro A fr s H args us vs Q E hG room env bind rel want
  have inK := env.mod.kin.keeps fun b o e => (env.bs b o e).1
  have noL := env.mod.nolimit.keeps fun b o e => (env.bs b o e).1
  have kinds : ∀ y ∈ ps.zip us, (defScope st).names.lookup y.1 = some .local ∨ ((defScope st).names.lookup y.1 = some .cell ∧ ((cellsFrom (s.heap.objs.size + 1) (defScope st).names []).lookup y.1).isSome = true) := by
    rintro ⟨n, v⟩ hy
    cases S.par n (List.of_mem_zip hy).1 with
    | inl q => exact .inl q
    | inr q => exact .inr ⟨q, PySem.W.cellsFrom_some _ _ _ (.inl q)⟩
  apply codeAny_call_function room.depth (inK _ _ lk) rfl S.co S.gen rfl (PySem.W.codeRec_of inK hcd) (bind _ _ _ _ ?_)
  apply wpAny_newFunctionEnv_cells S.kind kinds
  rintro env' rfl s1 x
  refine ⟨noL.keeps x.toInCall.keep, codeAny_func ?_⟩
  obtain ⟨t, ht, hq⟩ := body A fr s H vs Q E hG (room.deeper _) want
  have I := inv_start (CX := CX0) (E := E) S room.hd env (many _ _ _ _ want) rel x
  refine wpAny_mono (ht.nox.run [] s1 (start N vs) H _ I hq) ?_ fun e s' hs => hs
  intro fl s' hs
  cases fl with
  | brk => exact False.elim hs.choose_spec.choose_spec.2
  | cont => exact False.elim hs.choose_spec.choose_spec.2
  | next =>
    obtain ⟨σ', H', J, q⟩ := hs
    exact ⟨V.non, H', J.os, J.bare, J.base, J.hok, rfl, q⟩
  | ret u =>
    obtain ⟨v, σ', H', J, rv, q⟩ := hs
    exact ⟨v, H', J.os, J.bare, J.base, J.hok, rv, q⟩
/-- what is told of an own error's class at C, and of its base's, at B -/
structure ErrT (K : PySem.W.Frag) (mg : Str → Option Value) (x bx : Str) (C B : Addr) : Prop where
  gC : mg x = some (.ref C)
  gB : mg bx = some (.ref B)
  exm : PySem.W.exmOne K (.ref C) (.ref B) = some true
  oex : OexC K C
  exc : ExcC K C
  cls : (PySem.W.clsIn K C).isSome = true
  xf : XfC K C
  he : HeC K B
  noP : PySem.W.findIn K (.ref C) "part" = some none
theorem k_vei {K : PySem.W.Frag} {ta : TA} {σ : L2.St} {H : Hp} {Q : VK} (h : ta σ H fun vs H1 => ∃ (a C : Addr) (ws : List V), vs = .ref a :: ws ∧ ws.length ≤ 1000 ∧ OexC K C ∧ H1 a = some (exo a C none) ∧ Q .non H1) : tVeI K ta σ H Q := h
theorem k_fmtS {te : TE} {σ : L2.St} {H : Hp} {Q : VK} (h : te σ H fun x H1 => ∃ y : Str, x = .str y ∧ y.length ≤ sizeLine ∧ Q (.str y) H1) (mono : ∀ {Q Q' : VK}, (∀ v H', Q v H' → Q' v H') → te σ H Q → te σ H Q') : tFmt te σ H Q := mono (fun _ _ z => .inl z) h
theorem k_xg {K : PySem.W.Frag} {f : Str} {te : TE} {σ : L2.St} {H : Hp} {Q : VK} (h : te σ H fun x H1 => ∃ (a C d : Addr) (fs : List (Str × V)) (v : V), x = .ref a ∧ H1 a = some (ExV (.ref C) (some d) a) ∧ H1 d = some (.xd fs) ∧ XfC K C ∧ PySem.W.findIn K (.ref C) f = some none ∧ fs.lookup f = some v ∧ Q v H1) : tXg K f te σ H Q := h
theorem k_ost1 {K : PySem.W.Frag} {f : Str} {i j : Nat} {a C : Addr} {y : V} {D : Ends} {σ : L2.St} {H : Hp} (hi : σ[i]? = some (some (.ref a))) (hj : σ[j]? = some (some y)) (T : OexC K C) (n : PySem.W.findIn K (.ref C) f = some none) (e : H a = some (exo a C none))
    (q : ∀ d, H d = none → d ≠ a → D.nx σ (upd (upd H d (exd d [(f, y)])) a (exo a C (some d)))) : tOst K f (tVar i) (tVar j) D σ H := ⟨y, hj, .ref a, hi, a, C, rfl, T, n, .inl ⟨e, q⟩⟩
theorem k_raise1 {W : WX} {C : Addr} {i : Nat} {z : Str} {D : Ends} {σ : L2.St} {H : Hp} (hv : σ[i]? = some (some (.str z))) (hz : z.length ≤ 100) (q : ∀ d, H d = none → W (.ref C) (some d) σ (upd H d (.xd [("part", .str z)]))) :
    tRaiseE W C (spInit C ["part"]) (tCons (tVar i) tNil) D σ H :=
  k_raiseE ⟨.str z, hv, [z], rfl, rfl, by decide, fun y hy => by rw [List.mem_singleton.mp hy]; exact hz, q⟩ fun imp ⟨v, h1, h2⟩ => ⟨v, h1, imp _ _ h2⟩
theorem Outs.new {E : XK} {C : Addr} {z : Str} {H H1 : Hp} (o : Outs E C z H) (s : Same H H1) : ∀ d, H1 d = none → E (.ref C) (some d) (upd H1 d (.xd [("part", .str z)])) := fun d hd => o _ d (s.trans (Same.new hd)) (s.free hd) upd_same
end Nd

namespace Nd
open PySem PySem.Spec PyProof.Rows L2
/-! ### lists of fractions, sums of ways -/
theorem rep3 {q : Rat} (h1 : q.num.natAbs ≤ 999999999998) (h2 : q.den ≤ 999999999998) : PyData.showable (.list [fq q, fq q, fq q]) = true ∧ PyData.depth (.list [fq q, fq q, fq q]) ≤ 60 ∧ (PyData.shown (.list [fq q, fq q, fq q])).length ≤ sizeLine := by
  have l1 : q.num.natAbs.log2 < 1920 := Nat.lt_of_lt_of_le (PySem.Flt.log2_lt_of (k := 40) (by decide) (by omega)) (by decide)
  have l2 : q.den.log2 < 1920 := Nat.lt_of_lt_of_le (PySem.Flt.log2_lt_of (k := 40) (by decide) (by omega)) (by decide)
  have i1 : PyData.intsShort 13 (.int q.num) = true := intsShort_of_noneOrIn (lo := -999999999999) (hi := 999999999999) (by decide) (by decide) _ (by simp [noneOrIn]; omega)
  have i2 : PyData.intsShort 13 (.int (q.den : Int)) = true := intsShort_of_noneOrIn (lo := -999999999999) (hi := 999999999999) (by decide) (by decide) _ (by simp [noneOrIn]; omega)
  refine ⟨by simp [PyData.showable, PyData.showableAll, fq, l1, l2], by simp [PyData.depth, PyData.depthAll, fq], ?_⟩
  refine Nat.le_trans (shown_le13 ?_ ?_) (by decide)
  · simp [PyData.layable0, PyData.canLay0, PyData.canLayAll0, PyData.depth, PyData.depthAll, PyData.weight, PyData.weightAll, fq]
    split <;> split <;> omega
  · simp [PyData.intsShort, PyData.intsShortAll, fq] at i1 i2 ⊢
    exact ⟨i1, i2⟩
theorem k_rep {l : Addr} {n : Nat} {xs : List V} {H : Hp} {Q : VK} (h : H l = some (.lst xs)) (hn : n ≤ 1000) (hx : xs.length ≤ 1000) (q : ∀ p, H p = none → Q (.ref p) (upd H p (.lst (List.replicate n xs).flatten))) : rRep (.ref l) (.int (n : Int)) H Q :=
  ⟨l, _, xs, rfl, rfl, h, by omega, by omega, by
    rw [Int.toNat_natCast]
    exact Nat.le_trans (Nat.mul_le_mul hx hn) (by decide), by simpa using q⟩
theorem paired_get {α β : Type} {F : α → β → Prop} : ∀ {l : List α} {m : List β} {i : Nat} {y : α}, Paired F l m → l[i]? = some y → ∃ z, m[i]? = some z ∧ F y z
  | _, _, 0, _, .cons h _, e => by cases e; exact ⟨_, rfl, h⟩
  | _, _, i + 1, _, .cons _ t, e => paired_get (i := i) t e
  | _, _, 0, _, .nil, e => nomatch e
  | _, _, _ + 1, _, .nil, e => nomatch e
theorem lcIn_frp {K : PySem.W.Frag} {a r : Addr} {ys : List V} {n i j : Nat} {te : TE} {vs : List Nat} {σ : L2.St} {H1 : Hp} {Q : VK} (q : Nat → Rat) (v : Nat → Int) (hx : SqL K H1 a ys) (hf : Paired (Fr r H1) ys ((List.range n).map q)) (hz : n ≤ 50000)
    (hw : ∀ x y, wipe (((wipe σ vs).set i (some x)).set j (some y)) vs = wipe σ vs)
    (step : ∀ m H2, m < n → Same H1 H2 → ∀ QE : VK, (∀ H4, Same H2 H4 → QE (.int (v m)) H4) → te (((wipe σ vs).set i (some (.int (q m).num))).set j (some (.int ((q m).den : Int)))) H2 QE)
    (fin : ∀ p H', H1 p = none → Same H1 H' → H' p = some (.lst (((List.range n).map v).map V.int)) → Q (.ref p) H') :
    LcIn (Itl K a) (gTup K 2 (gCons (gName i) (gCons (gName j) gNil))) tYes te vs σ H1 Q := fun D hD =>
  lc_list (xs := ys) (fun m H => Same H1 H ∧ H D = some (.lst (((List.range m).map v).map V.int))) ⟨Same.new hD, upd_same⟩ (fun m H _ p => p.1.seq hx)
    (fun m y H hm p => by
      obtain ⟨s1, eD⟩ := p
      obtain ⟨z, hz1, f⟩ := paired_get hf hm
      have hlt : m < n := by
        have := (List.getElem?_eq_some_iff.mp hz1).1
        rwa [List.length_map, List.length_range] at this
      rw [List.getElem?_map, List.getElem?_range hlt] at hz1
      obtain rfl : q m = z := Option.some.inj hz1
      obtain ⟨pa, rfl, _, e⟩ := f
      refine k_gtup (.inl (.inl (s1 _ _ e))) rfl ?_
      refine k_gcons ?_
      refine k_gname ?_
      refine k_gcons ?_
      refine k_gname ?_
      refine k_gnil ?_
      refine ⟨hw _ _, ?_⟩
      refine k_tYes ?_
      rw [if_pos rfl]
      refine step m H hlt s1 _ fun H4 s4 => ?_
      refine ⟨_, s4 _ _ eD, ?_, fun b o e => ?_, ?_⟩
      · rw [List.length_map, List.length_map, List.length_range]
        exact Nat.lt_of_lt_of_le hlt (Nat.le_trans hz (by decide))
      · rw [upd_ne (ne_of_none e hD)]
        exact s4 _ _ (s1 _ _ e)
      · rw [upd_same, List.range_succ, List.map_append, List.map_append]
        rfl)
    (fun H' p => by
      have hl := pairs_len hf
      rw [List.length_map, List.length_range] at hl
      exact fin D H' hD p.1 (hl ▸ p.2))
theorem canStrs : ∀ zs : List Str, zs.all PyData.strOk = true → PyData.canLayAll0 (zs.map PyData.str) = true
  | [], _ => by simp only [List.map_nil, PyData.canLayAll0]
  | z :: zs, h => by
    rw [List.all_cons, Bool.and_eq_true] at h
    simp only [List.map_cons, PyData.canLayAll0, PyData.canLay0, canStrs zs h.2, h.1, Bool.and_self]
theorem depStrs : ∀ zs : List Str, PyData.depthAll (zs.map PyData.str) = 0
  | [] => by simp only [List.map_nil, PyData.depthAll]
  | z :: zs => by simp only [List.map_cons, PyData.depthAll, PyData.depth, depStrs zs, Nat.max_self]
theorem sh_strs (zs : List Str) (h : zs.all PyData.strOk = true) : SeqAt.shaped (.list (zs.map PyData.str)) = true := by
  simp [SeqAt.shaped, PyData.canLay0, PyData.depth, canStrs zs h, depStrs zs]
theorem eqvs_strs : ∀ zs : List Str, PyData.eqvAll (zs.map PyData.str) (zs.map PyData.str) = true
  | [] => by simp only [List.map_nil, PyData.eqvAll]
  | z :: zs => by simp [PyData.eqvAll, PyData.eqv, eqvs_strs zs]
theorem ne_strs (zs : List Str) : (!PyData.eqv (.list (zs.map PyData.str)) (.list (zs.map PyData.str))) = false := by
  simp only [PyData.eqv, eqvs_strs, Bool.not_true]
theorem num_part {u w : Int} (w0 : 0 < w) : (Rat.divInt u w).num * (w / ((Rat.divInt u w).den : Int)) = u := by
  have d0 : ((Rat.divInt u w).den : Int) ≠ 0 := Int.ne_of_gt (by have := (Rat.divInt u w).den_pos; omega)
  have e : Rat.divInt (Rat.divInt u w).num ((Rat.divInt u w).den : Int) = Rat.divInt u w := Rat.num_divInt_den _
  have e2 := (Rat.divInt_eq_divInt_iff d0 (Int.ne_of_gt w0)).mp e
  have e4 := Int.ediv_mul_cancel (den_dvd (u := u) (Int.ne_of_gt w0))
  generalize (Rat.divInt u w).num = x at e2 ⊢
  generalize ((Rat.divInt u w).den : Int) = y at d0 e2 e4 ⊢
  refine Int.eq_of_mul_eq_mul_right d0 ?_
  rw [Int.mul_assoc, e4]
  exact e2
theorem sum_add2 (f g : Nat → Int) : ∀ l : List Nat, (l.map fun i => f i + g i).sum = (l.map f).sum + (l.map g).sum
  | [] => rfl
  | a :: l => by
    rw [List.map_cons, List.map_cons, List.map_cons, List.sum_cons, List.sum_cons, List.sum_cons, sum_add2 f g l]
    omega
theorem sum_one (lo : Int) : ∀ n : Nat, ((List.range n).map fun i : Nat => (if lo + (i : Int) = 0 then (1 : Int) else 0)).sum = if lo ≤ 0 ∧ 0 < lo + n then 1 else 0
  | 0 => by
    rw [if_neg (by omega)]
    rfl
  | n + 1 => by
    rw [List.range_succ, List.map_append, List.sum_append, sum_one lo n]
    simp only [List.map_cons, List.map_nil, List.sum_cons, List.sum_nil, Int.add_zero]
    split <;> split <;> split <;> omega
theorem sumW : ∀ (t n : Nat) (lo : Int), lo ≤ -(t : Int) → (t : Int) < lo + n → ((List.range n).map fun i : Nat => (W t (lo + (i : Int)) : Int)).sum = 2 ^ t
  | 0, n, lo, h1, h2 => by
    have e : (fun i : Nat => (W 0 (lo + (i : Int)) : Int)) = fun i : Nat => if lo + (i : Int) = 0 then (1 : Int) else 0 := funext fun i => by
      rw [W]
      split <;> rfl
    rw [e, sum_one, if_pos ⟨by omega, by omega⟩]
    rfl
  | t + 1, n, lo, h1, h2 => by
    have e : (fun i : Nat => (W (t + 1) (lo + (i : Int)) : Int)) = fun i : Nat => (W t ((lo - 1) + (i : Int)) : Int) + (W t ((lo + 1) + (i : Int)) : Int) := funext fun i => by
      rw [W_succ, show lo + (i : Int) - 1 = (lo - 1) + (i : Int) by omega, show lo + (i : Int) + 1 = (lo + 1) + (i : Int) by omega, Int.natCast_add]
    rw [e, sum_add2, sumW t n (lo - 1) (by omega) (by omega), sumW t n (lo + 1) (by omega) (by omega), Int.pow_succ]
    omega
end Nd

namespace Nd
open PySem PySem.Spec PyProof.Rows L2 LamX
/-! ### defs by names that hold them -/
theorem FnG.weaken {P : Program} {w : World} {K : PySem.W.Frag} {mg : Str → Option Value} {base : Heap} {CX : CXT} {k : Nat} {f : Addr} {fd : FuncData} {ps : List Str} {sp sp' : Sp} (F : FnG P w K mg base CX k f fd ps sp) (h : ∀ vs H Q E, sp' vs H Q E → sp vs H Q E) : FnG P w K mg base CX k f fd ps sp' :=
  ⟨fun vs H Q E q => F.many vs H Q E (h _ _ _ _ q), fun A fr s H args us vs Q E hG hr e0 hb r q => F.go A fr s H args us vs Q E hG hr e0 hb r (h _ _ _ _ q)⟩
theorem Cal.weaken {P : Program} {w : World} {K : PySem.W.Frag} {mg : Str → Option Value} {base : Heap} {CX : CXT} {k : Nat} {x : Str} {sp sp' : Sp} (c : Cal P w K mg base CX k x sp) (h : ∀ vs H Q E, sp' vs H Q E → sp vs H Q E) : Cal P w K mg base CX k x sp' := by
  obtain ⟨f, fd, ps, F, r⟩ := c.ex
  exact ⟨f, fd, ps, F.weaken h, r⟩
theorem CalK.weaken {P : Program} {w : World} {K : PySem.W.Frag} {mg : Str → Option Value} {base : Heap} {CX : CXT} {k : Nat} {x : Str} {ks : List Str} {ix : List Nat} {sp sp' : Sp} (c : CalK P w K mg base CX k x ks ix sp) (h : ∀ vs H Q E, sp' vs H Q E → sp vs H Q E) : CalK P w K mg base CX k x ks ix sp' := by
  obtain ⟨f, fd, ps, F, r⟩ := c.ex
  exact ⟨f, fd, ps, F.weaken h, r⟩
/-- the def at f, for callers that hold it -/
structure CalV (P : Program) (w : World) (K : PySem.W.Frag) (mg : Str → Option Value) (base : Heap) (CX : CXT) (k : Nat) (f : Addr) (sp : Sp) : Prop where
  ex : ∃ (fd : FuncData) (ps : List Str), FnG P w K mg base CX k f fd ps sp ∧ PySem.W.keepIn K (.ref f) = true ∧ Binds K fd ps []
theorem Cal.held {P : Program} {w : World} {K : PySem.W.Frag} {mg : Str → Option Value} {base : Heap} {CX : CXT} {k : Nat} {x : Str} {sp : Sp} (c : Cal P w K mg base CX k x sp) : ∃ f, mg x = some (.ref f) ∧ CalV P w K mg base CX k f sp := by
  obtain ⟨f, fd, ps, F, hm, hk, hb⟩ := c.ex
  exact ⟨f, hm, ⟨fd, ps, F, hk, hb⟩⟩
def tCallV (P : Program) (w : World) (K : PySem.W.Frag) (mg : Str → Option Value) (base : Heap) (CX : CXT) (k i : Nat) (E : XK) (t : TA) : TE := fun σ H Q => ∃ (f : Addr) (sp : Sp), σ[i]? = some (some (.ref f)) ∧ CalV P w K mg base CX k f sp ∧ t σ H fun vs H1 => sp vs H1 Q E
theorem pe_fv {X : Cx} {P : Program} {w : World} {K : PySem.W.Frag} {mg : Str → Option Value} {base : Heap} {CX : CXT} {k i : Nat} {x : Str} {E : XK} {p pos : Pos} {e : Expr} {es : List Expr} {t : TA}
    (hX : X.prog = P ∧ X.w = w ∧ X.K = K ∧ X.mg = mg ∧ X.base = base) (hN : X.N[i]? = some x) (hv : Vis X.env.scope x) (hG : X.A.guards = some []) (hr : Room k X.A) (hx : Passes CX X E)
    (ha : PA X (e :: es) t) (hdb : (x == ("__debug__" : Str)) = false := by decide) (hcd : (x == ("__classdict__" : Str)) = false := by decide)
    (he : starEach (e :: es) X.env = (false, eval e X.env) :: starEach es X.env := by rfl)
    (hpl : (backTo pos (starEach es X.env)).any (·.1) = false := by rfl) :
    PE X (.Call (.Name x p) (e :: es) [] pos) (tCallV P w K mg base CX k i E t) := by
  obtain ⟨rfl, rfl, rfl, rfl, rfl⟩ := hX
  constructor
  intro pins s σ H Q I ⟨f, sp, ei, c, h⟩
  obtain ⟨fd, ps, F, hk, hb⟩ := c.ex
  refine wpAny_Call_Name_kw (thn ((pe_var (pos := p) (i := i) hN hv hdb hcd).run pins s σ H (fun v H1 => v = .ref f ∧ H1 = H) I ⟨.ref f, ei, rfl, rfl⟩) fun u t ⟨v, H1, I1, r1, ev, eH⟩ => ?_)
  subst ev
  subst eH
  obtain rfl : u = Value.ref f := r1
  apply PySem.W.callWith_K (h₀ := X.base) I1.ok.mod.kin hk ?_ he hpl
  apply thn (ha.run pos pins t σ H1 _ I1 h)
  rintro us s1 ⟨vs, H2, I2, r, q⟩
  refine ⟨I2.kIn, goG F hG hr hb .nil hx I2 r ?_⟩
  rw [List.append_nil]
  exact q
theorem k_callV {P : Program} {w : World} {K : PySem.W.Frag} {mg : Str → Option Value} {base : Heap} {CX : CXT} {k i : Nat} {E : XK} {t : TA} {σ : L2.St} {H : Hp} {Q : VK} {f : Addr} {sp : Sp} (hi : σ[i]? = some (some (.ref f))) (c : CalV P w K mg base CX k f sp) (h : t σ H fun vs H1 => sp vs H1 Q E) : tCallV P w K mg base CX k i E t σ H Q := ⟨f, sp, hi, c, h⟩
theorem _root_.LamX.Tabs.put {T : List (Addr × Str)} {p : Addr} {H : Hp} {xs : List V} {o : HO} (t : LamX.Tabs T H) (e : H p = some (.lst xs)) : LamX.Tabs T (upd H p o) := by
  intro q hq
  obtain ⟨ps, e1, e2, e3⟩ := t q hq
  have n1 : q.1 ≠ p := fun z => by
    rw [z, e] at e1
    cases e1
  refine ⟨ps, (upd_ne n1).trans e1, e2, fun pos cv hc => ?_⟩
  obtain ⟨c', q1, q2⟩ := e3 pos cv hc
  refine ⟨c', q1, (upd_ne fun z => ?_).trans q2⟩
  rw [z, e] at q2
  have := Option.some.inj q2
  unfold CodeO at this
  cases this
/-! ### a fraction as a tuple or a list -/
def isFq (d : PyData) (q : Rat) : Prop := itemsD d = some [.int q.num, .int (q.den : Int)]
def FrA (r : Addr) (H : Hp) (v : V) (q : Rat) : Prop := ∃ a, v = .ref a ∧ a ≠ r ∧ (H a = some (.tup [.int q.num, .int (q.den : Int)]) ∨ H a = some (.lst [.int q.num, .int (q.den : Int)]))
theorem Fr.any {r : Addr} {H : Hp} {v : V} {q : Rat} (h : Fr r H v q) : FrA r H v q := by
  obtain ⟨a, h1, h2, h3⟩ := h
  exact ⟨a, h1, h2, .inl h3⟩
theorem FrA.gr {r : Addr} {H H' : Hp} {v : V} {q : Rat} (h : FrA r H v q) (g : Gr r H H') : FrA r H' v q := by
  obtain ⟨a, h1, h2, h3⟩ := h
  exact ⟨a, h1, h2, h3.imp (g.all _ _ h2) (g.all _ _ h2)⟩
theorem FrA.same {r : Addr} {H H' : Hp} {v : V} {q : Rat} (h : FrA r H v q) (s : Same H H') : FrA r H' v q := h.gr (Gr.same s)
theorem isFq_fq (q : Rat) : isFq (fq q) q := rfl
theorem isFq_frac {d : PyData} {q : Rat} (h : isFq d q) : fracD d = true := by
  unfold fracD
  rw [h]
  have h1 : (0 : Int) < (q.den : Int) := by have := q.den_nz; omega
  have h2 : Nat.gcd q.num.natAbs (q.den : Int).natAbs = 1 := by rw [Int.natAbs_natCast]; exact q.reduced
  show (decide (0 < (q.den : Int)) && decide (Nat.gcd q.num.natAbs (q.den : Int).natAbs = 1)) = true
  rw [decide_eq_true h1, decide_eq_true h2]
  rfl
theorem frac_isFq {d : PyData} (h : fracD d = true) : ∃ q, isFq d q := by
  obtain ⟨u, z, e⟩ := frac_of h
  unfold fracD at h
  rw [e] at h
  have h : (decide (0 < z) && decide (Nat.gcd u.natAbs z.natAbs = 1)) = true := h
  rw [Bool.and_eq_true] at h
  have h1 := of_decide_eq_true h.1
  have h2 := of_decide_eq_true h.2
  refine ⟨⟨u, z.natAbs, by omega, h2⟩, ?_⟩
  unfold isFq
  rw [e, Int.natAbs_of_nonneg (by omega)]
theorem Dr.frA {r : Addr} {H : Hp} {v : V} {d : PyData} {q : Rat} (h : Dr r H v d) (e : isFq d q) : FrA r H v q := by
  unfold isFq at e
  cases h with
  | lst n e1 ha =>
    obtain rfl := Option.some.inj e
    cases ha with
    | cons h1 h2 =>
    cases h2 with
    | cons h2 h3 =>
    cases h1
    cases h2
    cases h3
    exact ⟨_, rfl, n, .inr e1⟩
  | tup n e1 ha =>
    obtain rfl := Option.some.inj e
    cases ha with
    | cons h1 h2 =>
    cases h2 with
    | cons h2 h3 =>
    cases h1
    cases h2
    cases h3
    exact ⟨_, rfl, n, .inl e1⟩
  | _ => cases e
theorem k_ixA0 {K : PySem.W.Frag} {r : Addr} {v : V} {q : Rat} {H : Hp} {Q : VK} (h : FrA r H v q) (k : Q (.int q.num) H) : rIx K v (.int 0) H Q := by
  obtain ⟨a, rfl, _, h3⟩ := h
  rcases h3 with h3 | h3
  · exact .inr (.inl (k_ixT (.inl (.inl h3)) rfl k))
  · exact .inl (k_ixL (.inl (.inl h3)) rfl k)
theorem k_ixA1 {K : PySem.W.Frag} {r : Addr} {v : V} {q : Rat} {H : Hp} {Q : VK} (h : FrA r H v q) (k : Q (.int (q.den : Int)) H) : rIx K v (.int 1) H Q := by
  obtain ⟨a, rfl, _, h3⟩ := h
  rcases h3 with h3 | h3
  · exact .inr (.inl (k_ixT (.inl (.inl h3)) rfl k))
  · exact .inl (k_ixL (.inl (.inl h3)) rfl k)
def lenOk (d : PyData) : Prop := ∀ xs, itemsD d = some xs → xs.length ≤ 1000
theorem isFq_len {d : PyData} {q : Rat} (h : isFq d q) : lenOk d := fun xs e => by
  rw [h] at e
  cases e
  show (2 : Nat) ≤ 1000
  decide
/-! ### what reckons with fractions, and refuses what is none -/
theorem k_raiseC {W : WX} {C : Addr} {z : Str} {D : Ends} {σ : L2.St} {H : Hp} (hz : z.length ≤ 100) (q : ∀ d, H d = none → W (.ref C) (some d) σ (upd H d (.xd [("part", .str z)]))) :
    tRaiseE W C (spInit C ["part"]) (tCons (tC (.str z)) tNil) D σ H :=
  k_raiseE ⟨[z], rfl, rfl, by decide, fun y hy => by rw [List.mem_singleton.mp hy]; exact hz, q⟩ fun imp h => imp _ _ h
def spTwoX (C : Addr) : Sp := fun vs H Q E => ∃ (r : Addr) (v w : V) (d e : PyData), vs = [v, w] ∧ Dr r H v d ∧ Dr r H w e ∧ lenOk d ∧ lenOk e ∧
  (fracD d = true → fracD e = true → ∀ H', Same H H' → Q .non H') ∧ (fracD d = false → Outs E C "one" H) ∧ (fracD d = true → fracD e = false → Outs E C "other" H)
def spBinX (C : Addr) (f : Rat → Rat → Rat) : Sp := fun vs H Q E => ∃ (r : Addr) (v w : V) (d e : PyData), vs = [v, w] ∧ Dr r H v d ∧ Dr r H w e ∧ lenOk d ∧ lenOk e ∧
  (∀ p q, isFq d p → isFq e q → Sz 3000 p ∧ Sz 3000 q ∧ ∀ H' x, Same H H' → FrN H H' x (f p q) → Q x H') ∧ (fracD d = false → Outs E C "one" H) ∧ (fracD d = true → fracD e = false → Outs E C "other" H)
def spBelowX (C : Addr) : Sp := fun vs H Q E => ∃ (r : Addr) (v w : V) (d e : PyData), vs = [v, w] ∧ Dr r H v d ∧ Dr r H w e ∧ lenOk d ∧ lenOk e ∧
  (∀ p q, isFq d p → isFq e q → Sz 3000 p ∧ Sz 3000 q ∧ ∀ H', Same H H' → Q (.bl (decide (p < q))) H') ∧ (fracD d = false → Outs E C "one" H) ∧ (fracD d = true → fracD e = false → Outs E C "other" H)
def spRedX (C : Addr) : Sp := fun vs H Q E => ∃ (r : Addr) (v w : V) (d e : PyData), vs = [v, w] ∧ Dr r H v d ∧ Dr r H w e ∧
  (∀ u z, d = .int u → e = .int z → z ≠ 0 → z.natAbs < 2 ^ 8000 ∧ ∀ H' x, Same H H' → FrN H H' x (Rat.divInt u z) → Q x H') ∧ (ndInt d = false → Outs E C "up" H) ∧ (ndInt d = true → (ndInt e = false ∨ e = .int 0) → Outs E C "down" H)
theorem spRed_of {C : Addr} {vs : List V} {H : Hp} {Q : VK} {E : XK} (h : spRed vs H Q E) : spRedX C vs H Q E := by
  obtain ⟨u, w, rfl, h0, hw, q⟩ := h
  refine ⟨0, .int u, .int w, .int u, .int w, rfl, .int _, .int _, fun a b e1 e2 _ => ?_, (fun z => nomatch z), fun _ z => ?_⟩
  · cases e1
    cases e2
    exact ⟨hw, q⟩
  · rcases z with z | z
    · cases z
    · cases z
      exact absurd rfl h0
theorem isFq_two {p a : Rat} (h : isFq (fq p) a) : p.num = a.num ∧ p.den = a.den := by
  unfold isFq fq itemsD at h
  injection h with h
  injection h with h1 h2
  injection h2 with h2 h3
  injection h1 with h1
  injection h2 with h2
  exact ⟨h1, by omega⟩
theorem spBin_of {C : Addr} {f : Rat → Rat → Rat} {vs : List V} {H : Hp} {Q : VK} {E : XK} (h : spBin f vs H Q E) : spBinX C f vs H Q E := by
  obtain ⟨r, v, w, p, q, rfl, hp, hq, zp, zq, k⟩ := h
  refine ⟨r, v, w, fq p, fq q, rfl, hp.dr, hq.dr, isFq_len (isFq_fq p), isFq_len (isFq_fq q), fun a b e1 e2 => ?_, fun z => ?_, fun _ z => ?_⟩
  · obtain rfl : p = a := fq_inj (isFq_two e1)
    obtain rfl : q = b := fq_inj (isFq_two e2)
    exact ⟨zp, zq, k⟩
  · rw [isFq_frac (isFq_fq p)] at z
    cases z
  · rw [isFq_frac (isFq_fq q)] at z
    cases z
end Nd

local macro_rules | `(tactic| walk_at "nd") => `(tactic| (first
  | with_reducible refine Nd.k_cons ?_
  | with_reducible refine Nd.k_nil ?_
  | with_reducible refine Nd.k_op ?_
  | with_reducible refine Nd.k_c ?_
  | with_reducible refine Nd.k_call ?_
  | with_reducible refine Nd.k_cb ?_
  | with_reducible refine Nd.k_seq ?_
  | with_reducible refine Nd.k_next ?_
  | with_reducible refine Nd.k_ret ?_
  | with_reducible refine Nd.k_if ?_
  | with_reducible refine Nd.k_asg ?_
  | with_reducible refine Nd.k_I0 ?_
  | with_reducible refine Nd.k_U ?_
  | with_reducible refine Nd.k_un ?_
  | with_reducible refine Nd.k_drop ?_
  | with_reducible refine Nd.k_retN ?_
  | with_reducible refine Nd.k_brk ?_
  | with_reducible refine Nd.k_cont ?_
  | with_reducible refine Nd.k_gname ?_
  | with_reducible refine Nd.k_gsub ?_
  | with_reducible refine Nd.k_gcons ?_
  | with_reducible refine Nd.k_gnil ?_
  | with_reducible refine Nd.k_par ?_
  | with_reducible refine Nd.k_par3 ?_
  | with_reducible refine Nd.k_tup ?_
  | with_reducible refine Nd.k_lst ?_
  | with_reducible refine Nd.k_ife ?_
  | with_reducible refine Nd.k_andV ?_
  | with_reducible refine Nd.k_orV ?_
  | with_reducible refine Nd.k_notV ?_
  | with_reducible refine Nd.k_tB ?_
  | with_reducible refine Nd.k_test ?_
  | with_reducible refine Nd.k_tAnd ?_
  | with_reducible refine Nd.k_tOr ?_
  | with_reducible refine Nd.k_tNot ?_
  | with_reducible refine Nd.k_tYes ?_
  | with_reducible refine Nd.k_kw ?_
  | with_reducible refine Nd.k_for ?_
  | with_reducible refine Nd.k_lc ?_
  | with_reducible refine Nd.k_iList ?_
  | with_reducible refine Nd.k_iTup ?_
  | with_reducible refine Nd.k_iR1 ?_
  | with_reducible refine Nd.k_iR2 ?_
  | with_reducible refine Nd.k_sl ?_
  | with_reducible refine Nd.k_noPart ?_
  | with_reducible refine Nd.k_part ?_
  | with_reducible refine Nd.k_bm ?_
  | with_reducible refine Nd.k_gcd ?_
  | with_reducible refine Nd.k_tru ?_
  | with_reducible refine Nd.k_bits ?_
  | with_reducible refine Nd.k_dnewK ?_
  | with_reducible refine Nd.k_dget2 ?_
  | with_reducible refine Nd.k_dput ?_
  | with_reducible refine Nd.k_items ?_
  | with_reducible refine Nd.k_iEnum ?_
  | with_reducible refine Nd.k_iEnumT ?_
  | with_reducible refine Nd.k_iZipA ?_
  | focus ((with_reducible refine Nd.k_var (v := ?vv) ?hv ?hq); (case hv => exact rfl))
  | focus ((with_reducible refine Nd.k_aug (x := ?vv) ?hv ?hq); (case hv => exact rfl))
  | focus ((with_reducible refine Nd.k_eq ?hv ?hq); (case hv => exact rfl))
  | focus ((with_reducible refine Nd.k_ne ?hv ?hq); (case hv => exact rfl))
  | with_reducible refine ⟨rfl, ?_⟩
  | with_reducible refine ⟨_, rfl, ?_⟩
  | with_reducible refine ⟨_, _, rfl, ?_⟩
  | with_reducible refine ⟨_, _, _, rfl, ?_⟩
  | with_reducible refine Or.inl ⟨_, rfl, ?_⟩
  | with_reducible refine Or.inr ⟨_, rfl, ?_⟩
  | with_reducible refine Nd.k_nx ?_
  | with_reducible refine Nd.k_rt ?_
  | with_reducible refine Nd.k_bk ?_
  | with_reducible refine Nd.k_ct ?_))
local macro_rules | `(tactic| walk_at "go") => `(tactic| repeat (walk_at "nd"))
local macro_rules | `(tactic| walk_at "nd2") => `(tactic| (first
  | with_reducible refine Nd.k_cons ?_
  | with_reducible refine Nd.k_nil ?_
  | with_reducible refine Nd.k_op ?_
  | with_reducible refine Nd.k_c ?_
  | with_reducible refine Nd.k_call ?_
  | with_reducible refine Nd.k_cb ?_
  | with_reducible refine Nd.k_seq ?_
  | with_reducible refine Nd.k_next ?_
  | with_reducible refine Nd.k_ret ?_
  | with_reducible refine Nd.k_if ?_
  | with_reducible refine Nd.k_asg ?_
  | with_reducible refine Nd.k_I0 ?_
  | with_reducible refine Nd.k_U ?_
  | with_reducible refine Nd.k_un ?_
  | with_reducible refine Nd.k_drop ?_
  | with_reducible refine Nd.k_retN ?_
  | with_reducible refine Nd.k_brk ?_
  | with_reducible refine Nd.k_cont ?_
  | with_reducible refine Nd.k_gname ?_
  | with_reducible refine Nd.k_gsub ?_
  | with_reducible refine Nd.k_gcons ?_
  | with_reducible refine Nd.k_gnil ?_
  | with_reducible refine Nd.k_par ?_
  | with_reducible refine Nd.k_par3 ?_
  | with_reducible refine Nd.k_tup ?_
  | with_reducible refine Nd.k_lst ?_
  | with_reducible refine Nd.k_notV ?_
  | with_reducible refine Nd.k_tB ?_
  | with_reducible refine Nd.k_test ?_
  | with_reducible refine Nd.k_tNot ?_
  | with_reducible refine Nd.k_tYes ?_
  | with_reducible refine Nd.k_kw ?_
  | with_reducible refine Nd.k_for ?_
  | with_reducible refine Nd.k_lc ?_
  | with_reducible refine Nd.k_iList ?_
  | with_reducible refine Nd.k_iTup ?_
  | with_reducible refine Nd.k_iR1 ?_
  | with_reducible refine Nd.k_iR2 ?_
  | with_reducible refine Nd.k_sl ?_
  | with_reducible refine Nd.k_noPart ?_
  | with_reducible refine Nd.k_part ?_
  | with_reducible refine Nd.k_bm ?_
  | with_reducible refine Nd.k_gcd ?_
  | with_reducible refine Nd.k_tru ?_
  | with_reducible refine Nd.k_bits ?_
  | with_reducible refine Nd.k_dnewK ?_
  | with_reducible refine Nd.k_dget2 ?_
  | with_reducible refine Nd.k_dput ?_
  | with_reducible refine Nd.k_items ?_
  | with_reducible refine Nd.k_iEnum ?_
  | with_reducible refine Nd.k_iEnumT ?_
  | with_reducible refine Nd.k_iZipA ?_
  | focus ((with_reducible refine Nd.k_var (v := ?vv) ?hv ?hq); (case hv => exact rfl))
  | focus ((with_reducible refine Nd.k_aug (x := ?vv) ?hv ?hq); (case hv => exact rfl))
  | focus ((with_reducible refine Nd.k_eq ?hv ?hq); (case hv => exact rfl))
  | focus ((with_reducible refine Nd.k_ne ?hv ?hq); (case hv => exact rfl))
  | with_reducible refine ⟨rfl, ?_⟩
  | with_reducible refine ⟨_, rfl, ?_⟩
  | with_reducible refine ⟨_, _, rfl, ?_⟩
  | with_reducible refine ⟨_, _, _, rfl, ?_⟩
  | with_reducible refine Or.inl ⟨_, rfl, ?_⟩
  | with_reducible refine Or.inr ⟨_, rfl, ?_⟩
  | with_reducible refine Nd.k_nx ?_
  | with_reducible refine Nd.k_rt ?_
  | with_reducible refine Nd.k_bk ?_
  | with_reducible refine Nd.k_ct ?_))
local macro_rules | `(tactic| walk_at "ga") => `(tactic| repeat (walk_at "nd2"))


namespace K03
open PySem PySem.Spec PyProof.Rows L2 Nd
def top (i : Nat) : Stmt := PySem.Challenge.pw_nodice_k03_fractions_by_own_reckoning.main.body.getD i (.Pass ⟨0, 0, 0, 0⟩)
structure Txt (mg : Str → Option Value) : Prop where
  m_int : mg "int" = none
  m_len : mg "len" = none
  m_abs : mg "abs" = none
abbrev s__law_drop : Stmt := top 20
theorem sc__law_drop : FnScope ["cruet", "many", "rest", "at", "cell", "mixed"] ["cruet", "many"] (defScope s__law_drop) := ⟨rfl, rfl, rfl, by decide +kernel, rfl, by decide +kernel, by decide +kernel⟩
section
variable {P : Program} {w : World} {K : PySem.W.Frag} {mg : Str → Option Value} {base : Heap}
theorem ok_shake {f : Addr} {fd : FuncData} (F : Fun K "_law_drop" "_law_drop" s__law_drop f fd) (T : Txt mg) : FnG P w K mg base CX0 1 f fd ["cruet", "many"] spDraw := by
  refine okG0 F sc__law_drop (fun vs H Q E h => ?_) (fun cdv A outer s H vs Q E hG hr h => ?_)
  · obtain ⟨r, n, m, rfl, _⟩ := h
    rfl
  · obtain ⟨r, n, m, rfl, R, hn, m0, m1, q⟩ := h
    refine ⟨_, (pss_cons (ps_if (pt_cmpR op_gt (pe_ix ix_list (pv 0) pe_int (fun _ _ => rfl)) pe_int (nomark _)) (pss_cons (ps_set (i := 2) sc__law_drop.nd rfl (.inl rfl) (pe_callTy call_int1 (by rfl) T.m_int (by decide +kernel) (pa_cons (pe_ix ix_list (pv 0) pe_int (fun _ _ => rfl)) pa_nil)))
      (pss_cons (ps_asg (pe_op op_fdiv (pv 2) (pv 1)) (pg_sub (pv 0) pe_int set_list))
      (pss_one (ps_ret (pe_op op_mod (pe_callTy call_int1 (by rfl) T.m_int (by decide +kernel) (pa_cons (pv 2) pa_nil)) (pv 1)))))) pss_nil)
      (pss_cons (ps_set (i := 3) sc__law_drop.nd rfl (.inl rfl) (pe_ix ix_list (pv 0) pe_int (fun _ _ => rfl)))
      (pss_cons (ps_asg (pe_op op_add (pv 3) pe_int) (pg_sub (pv 0) pe_int set_list))
      (pss_cons (ps_if (pt_cmpR (op_eqD hr.units) (pe_ix ix_list (pv 0) pe_int (fun _ _ => rfl)) (pe_lst pa_nil) (nomark _)) (pss_one (ps_ret pe_int)) pss_nil)
      (pss_cons (ps_set (i := 4) sc__law_drop.nd rfl (.inl rfl) (pe_ix ix_list (pe_ix ix_list (pv 0) pe_int (fun _ _ => rfl)) (pe_op op_mod (pe_callTy call_int1 (by rfl) T.m_int (by decide +kernel) (pa_cons (pv 3) pa_nil)) (pe_callB (id := "len") call_len_seq (by rfl) T.m_len PySem.boot_len (pa_cons (pe_ix ix_list (pv 0) pe_int (fun _ _ => rfl)) pa_nil))) (fun _ _ => rfl)))
      (pss_cons (ps_if (PW.pt (pw_and (pt_cmpR op_lt (pv 3) (pe_callB (id := "len") call_len_seq (by rfl) T.m_len PySem.boot_len (pa_cons (pe_ix ix_list (pv 0) pe_int (fun _ _ => rfl)) pa_nil)) (nomark _)) (pw_and1 (pt_cmpR op_ge (pe_callB (id := "abs") call_abs (by rfl) T.m_abs (by decide +kernel) (pa_cons (pv 4) pa_nil)) (pe_op op_pow pe_int pe_int) (nomark _))))) (pss_cons (ps_set (i := 2) sc__law_drop.nd rfl (.inl rfl) (pe_op op_add (pe_op op_mul pe_int (pe_op op_sub (pe_callB (id := "abs") call_abs (by rfl) T.m_abs (by decide +kernel) (pa_cons (pv 4) pa_nil)) (pe_op op_pow pe_int pe_int))) (pe_callTy call_int1 (by rfl) T.m_int (by decide +kernel) (pa_cons (pe_cmpR op_lt (pv 4) pe_int (nomark _)) pa_nil))))
      (pss_cons (ps_asg (pe_op op_fdiv (pe_callTy call_int1 (by rfl) T.m_int (by decide +kernel) (pa_cons (pv 2) pa_nil)) (pv 1)) (pg_sub (pv 0) pe_int set_list))
      (pss_one (ps_ret (pe_op op_mod (pe_callTy call_int1 (by rfl) T.m_int (by decide +kernel) (pa_cons (pv 2) pa_nil)) (pv 1)))))) pss_nil)
      (pss_cons (ps_set (i := 5) sc__law_drop.nd rfl (.inl rfl) (pe_op op_mod (pe_callTy call_int1 (by rfl) T.m_int (by decide +kernel) (pa_cons (pe_op op_pow (pe_op op_add (pe_op op_add (pe_op op_mod (pe_callTy call_int1 (by rfl) T.m_int (by decide +kernel) (pa_cons (pv 4) pa_nil)) pe_int) (pe_op op_mul pe_int (pv 3))) pe_int) pe_int) pa_nil)) pe_int))
      (pss_cons (ps_set (i := 5) sc__law_drop.nd rfl (.inl rfl) (pe_op op_mod (pe_callTy call_int1 (by rfl) T.m_int (by decide +kernel) (pa_cons (pe_op op_pow (pe_op op_add (pe_op op_add (pe_op op_mul (pv 5) (pe_op op_add (pe_op op_mul pe_int (pv 3)) pe_int)) (pe_op op_mul (pe_op op_mul pe_int (pv 3)) (pv 3))) pe_int) pe_int) pa_nil)) pe_int))
      (pss_one (ps_ret (pe_op op_mod (pe_callTy call_int1 (by rfl) T.m_int (by decide +kernel) (pa_cons (pe_op op_fdiv (pv 5) pe_int) pa_nil)) (pv 1)))))))))))), ?_⟩
    dsimp only [cxOf, Cx.nox, Cx.wish]
    obtain ⟨c, ns, a, z, rc, hR, hC, hl, a0, a1, z0⟩ := R.ex
    have at2 : atI [V.ref c, V.int a, V.int z] 2 = some (V.int z) := rfl
    have at1 : atI [V.ref c, V.int a, V.int z] 1 = some (V.int a) := rfl
    walk_at "go"
    refine k_ixL (.inl (.inl hR)) at2 ?_
    walk_at "go"
    refine ite2 (fun h => ?_) (fun h => ?_)
    · walk_at "go"
      refine k_ixL (.inl (.inl hR)) at2 ?_
      walk_at "go"
      refine k_I ⟨m0, m1⟩ ?_
      walk_at "go"
      refine k_setL hR rfl ?_
      walk_at "go"
      refine k_I m0 ?_
      walk_at "go"
      refine q _ _ (Gr.put hR) ⟨c, ns, a, z / m, rc, upd_same, (upd_ne rc.symm).trans hC, hl, a0, by omega, Int.ediv_nonneg z0 (by omega)⟩ (Int.emod_nonneg _ (by omega)) (Int.emod_lt_of_pos _ m0)
    · walk_at "go"
      refine k_ixL (.inl (.inl hR)) at1 ?_
      walk_at "go"
      refine k_setL (j := 1) hR rfl ?_
      walk_at "go"
      refine k_ixL (.inl (.inl upd_same)) rfl ?_
      walk_at "go"
      refine ⟨by decide, fun p hp => ?_⟩
      have np : p ≠ r := fun e => by rw [e, upd_same] at hp; cases hp
      have hc' : c ≠ p := fun e => by rw [← e, upd_ne rc.symm, hC] at hp; cases hp
      have e1 : (upd (upd H r (.lst ([V.ref c, V.int a, V.int z].set 1 (V.int (a + 1))))) p (.lst [])) c = some (.lst (ns.map V.int)) := by
        rw [upd_ne hc', upd_ne rc.symm, hC]
      refine k_eqD (Dp.lst (.inl (.inl e1)) (dpInts ns)) (Dp.lst (.inl (.inl upd_same)) .nil) (shInts ns) shNil ?_
      rw [eqvNil]
      walk_at "go"
      refine ite2 (fun he => ?_) (fun he => ?_)
      · walk_at "go"
        refine q _ _ ((Gr.put hR).trans (Gr.new hp)) (Rid.new ⟨c, ns, a + 1, z, rc, upd_same, (upd_ne rc.symm).trans hC, hl, by omega, by omega, z0⟩ hp) (by omega) m0
      · have hne : 0 < ns.length := by
          cases ns with
          | nil => exact absurd rfl he
          | cons _ _ => exact Nat.succ_pos _
        have hR2 : (upd (upd H r (.lst ([V.ref c, V.int a, V.int z].set 1 (V.int (a + 1))))) p (.lst [])) r = some (.lst [V.ref c, V.int (a + 1), V.int z]) := by
          rw [upd_ne np.symm, upd_same]
          rfl
        have g2 : Gr r H (upd (upd H r (.lst ([V.ref c, V.int a, V.int z].set 1 (V.int (a + 1))))) p (.lst [])) := (Gr.put hR).trans (Gr.new hp)
        clear he hp hc' np
        revert hR2 e1 g2
        generalize (upd (upd H r (.lst ([V.ref c, V.int a, V.int z].set 1 (V.int (a + 1))))) p (.lst [])) = H2
        intro e1 hR2 g2
        have L2 : SqL K H2 r [V.ref c, V.int (a + 1), V.int z] := .inl (.inl hR2)
        have LC : SqL K H2 c (ns.map V.int) := .inl (.inl e1)
        have hlen : (0 : Int) < ((ns.map V.int).length : Int) := by
          rw [List.length_map]
          omega
        walk_at "go"
        refine k_ixL L2 rfl ?_
        walk_at "go"
        refine k_ixL L2 rfl ?_
        walk_at "go"
        refine ⟨c, ns.map V.int, rfl, .inl LC, ?_⟩
        refine k_I hlen ?_
        obtain ⟨v, _, hv⟩ := atInts (ns := ns) (i := a % ((ns.map V.int).length : Int)) (Int.emod_nonneg _ (by omega)) (by
          have := Int.emod_lt_of_pos a hlen
          rw [List.length_map] at this ⊢
          exact this)
        refine k_ixL LC hv ?_
        walk_at "go"
        refine k_ixL L2 rfl ?_
        walk_at "go"
        refine ⟨c, ns.map V.int, rfl, .inl LC, ?_⟩
        walk_at "go"
        refine ite2 (fun h2 => ?_) (fun h2 => iteF ?_)
        · walk_at "go"
          refine k_I ⟨by decide, by decide, by decide⟩ ?_
          walk_at "go"
          refine ite2 (fun h3 => ?_) (fun h3 => ?_)
          · have h3' := of_decide_eq_true h3
            clear h3
            walk_at "go"
            refine k_I ⟨by decide, by decide, by decide⟩ ?_
            walk_at "go"
            refine k_I (.inl ⟨by decide, by decide⟩) ?_
            walk_at "go"
            refine k_I ⟨m0, m1⟩ ?_
            walk_at "go"
            refine k_setL (j := 2) hR2 rfl ?_
            walk_at "go"
            refine k_I m0 ?_
            walk_at "go"
            refine q _ _ (g2.trans (Gr.put hR2)) ⟨c, ns, a + 1, _, rc, upd_same, (upd_ne rc.symm).trans e1, hl, by omega, by omega, ?_⟩ (Int.emod_nonneg _ (by omega)) (Int.emod_lt_of_pos _ m0)
            refine Int.ediv_nonneg (Int.add_nonneg (Int.mul_nonneg (by decide) (Int.sub_nonneg_of_le h3')) ?_) (by omega)
            split <;> decide
          · walk_at "go"
            refine k_I (by decide) ?_
            walk_at "go"
            refine k_I (.inl ⟨by decide, by decide⟩) ?_
            walk_at "go"
            refine k_I ⟨by decide, by decide, by omega⟩ ?_
            walk_at "go"
            refine k_I (by decide) ?_
            generalize hu : (_ : Int) % 2147483563 = u
            have u0 : 0 ≤ u := by rw [← hu]; exact Int.emod_nonneg _ (by decide)
            have u1 : u < 2147483563 := by rw [← hu]; exact Int.emod_lt_of_pos _ (by decide)
            clear hu
            walk_at "go"
            refine k_I (.inl ⟨by decide, by decide⟩) ?_
            walk_at "go"
            refine k_I (.inl ⟨by omega, by omega⟩) ?_
            walk_at "go"
            refine k_I (.inl ⟨by decide, by decide⟩) ?_
            walk_at "go"
            refine k_I (.inl ⟨by omega, by omega⟩) ?_
            walk_at "go"
            refine k_I ⟨by decide, by decide, mixBig u0 (by omega) a0 (by omega) (by decide) (by decide) (by decide) (by decide) (by decide) (by decide)⟩ ?_
            walk_at "go"
            refine k_I (by decide) ?_
            walk_at "go"
            refine k_I ⟨by decide, by decide⟩ ?_
            walk_at "go"
            refine k_I m0 ?_
            walk_at "go"
            refine q _ _ g2 ⟨c, ns, a + 1, z, rc, hR2, e1, hl, by omega, by omega, z0⟩ (Int.emod_nonneg _ (by omega)) (Int.emod_lt_of_pos _ m0)
        · walk_at "go"
          refine k_I (by decide) ?_
          walk_at "go"
          refine k_I (.inl ⟨by decide, by decide⟩) ?_
          walk_at "go"
          refine k_I ⟨by decide, by decide, by omega⟩ ?_
          walk_at "go"
          refine k_I (by decide) ?_
          generalize hu : (_ : Int) % 2147483563 = u
          have u0 : 0 ≤ u := by rw [← hu]; exact Int.emod_nonneg _ (by decide)
          have u1 : u < 2147483563 := by rw [← hu]; exact Int.emod_lt_of_pos _ (by decide)
          clear hu
          walk_at "go"
          refine k_I (.inl ⟨by decide, by decide⟩) ?_
          walk_at "go"
          refine k_I (.inl ⟨by omega, by omega⟩) ?_
          walk_at "go"
          refine k_I (.inl ⟨by decide, by decide⟩) ?_
          walk_at "go"
          refine k_I (.inl ⟨by omega, by omega⟩) ?_
          walk_at "go"
          refine k_I ⟨by decide, by decide, mixBig u0 (by omega) a0 (by omega) (by decide) (by decide) (by decide) (by decide) (by decide) (by decide)⟩ ?_
          walk_at "go"
          refine k_I (by decide) ?_
          walk_at "go"
          refine k_I ⟨by decide, by decide⟩ ?_
          walk_at "go"
          refine k_I m0 ?_
          walk_at "go"
          refine q _ _ g2 ⟨c, ns, a + 1, z, rc, hR2, e1, hl, by omega, by omega, z0⟩ (Int.emod_nonneg _ (by omega)) (Int.emod_lt_of_pos _ m0)
end
end K03

namespace K03
open PySem PySem.Spec PyProof.Rows L2 Nd
abbrev s__law_cruet : Stmt := top 19
theorem sc__law_cruet : FnScope ["script", "cell"] ["script"] (defScope s__law_cruet) := ⟨rfl, rfl, rfl, by decide +kernel, rfl, by decide +kernel, by decide +kernel⟩
abbrev s__law_pick : Stmt := top 21
theorem sc__law_pick : FnScope ["cruet", "some"] ["cruet", "some"] (defScope s__law_pick) := ⟨rfl, rfl, rfl, by decide +kernel, rfl, by decide +kernel, by decide +kernel⟩
section
variable {P : Program} {w : World} {K : PySem.W.Frag} {mg : Str → Option Value} {base : Heap}
theorem ok_riddle {f : Addr} {fd : FuncData} (F : Fun K "_law_cruet" "_law_cruet" s__law_cruet f fd) (T : Txt mg) : FnG P w K mg base CX0 1 f fd ["script"] (spRiddle K) := by
  refine okG0 F sc__law_cruet (fun vs H Q E h => ?_) (fun cdv A outer s H vs Q E hG hr h => ?_)
  · obtain ⟨a, ns, rfl, _⟩ := h
    rfl
  · obtain ⟨a, ns, rfl, hS, hlen, q⟩ := h
    refine ⟨_, (pss_one (ps_ret (pe_lst (pa_cons (pe_lc (own := [("cell", 1)]) (g := gName 1) (tt := tYes) rfl sc__law_cruet.nd (pi_list (pe_slice sl_list (pv 0) po_none (po_some pe_int))) (blkOk_by (own := [("cell", 1)]) (N := ["script", "cell"]) (sc := defScope s__law_cruet) (by decide +kernel)) (fun _ _ _ _ _ => pg_name (i := 1) sc__law_cruet.nd rfl (Or.inl rfl)) (fun _ _ _ _ _ => pts_nil) (fun _ _ _ _ _ => (pe_callTy call_int1 (by rfl) T.m_int (by decide +kernel) (pa_cons (pv 1) pa_nil)))) (pa_cons pe_int (pa_cons pe_int pa_nil)))))), ?_⟩
    dsimp only [cxOf, Cx.nox, Cx.wish]
    walk_at "go"
    refine k_slL hS fun p hp => ?_
    have e1 : cutV (ns.map V.int) none (some 60) = (ns.take 60).map V.int := by
      unfold cutV
      rw [HT.sIx_none, show HT.sIx (ns.map V.int).length (ns.map V.int).length (some 60) = min 60 (ns.map V.int).length from HT.sIx_nat _ _ 60]
      simp [List.map_take]
    rw [e1]
    refine ⟨p, rfl, ⟨_, .inl (.inl upd_same)⟩, ?_⟩
    have hl : (ns.take 60).length ≤ 60 := by rw [List.length_take]; omega
    refine lcIn_L (fun _ => true) (fun i => ((ns.take 60).map V.int).getD i .non) (.inl (.inl upd_same)) (by rw [List.length_map]; omega) (fun x => rfl) (fun i x H2 hi s2 => ⟨fun QT k => k _ (Same.refl _), fun _ H3 s3 QE k => ?_⟩) (fun p' H' np s1 hp' => ?_)
    · obtain ⟨z, hz, rfl⟩ : ∃ z, (ns.take 60)[i]? = some z ∧ x = V.int z := by
        rw [List.getElem?_map] at hi
        cases h : (ns.take 60)[i]? with
        | none => rw [h] at hi; cases hi
        | some z => rw [h] at hi; exact ⟨z, rfl, (Option.some.inj hi).symm⟩
      walk_at "go"
      have := k H3 (Same.refl _)
      rw [List.getD_eq_getElem?_getD, hi] at this
      exact this
    · rw [given_all rfl fun i x hi => by rw [List.getD_eq_getElem?_getD, hi]; rfl] at hp'
      walk_at "go"
      refine ⟨by show 3 ≤ sizeLine; decide, fun r hr' => ?_⟩
      have ss : Same H (upd H' r (.lst [V.ref p', V.int 0, V.int 0])) := (Same.new hp).trans (s1.trans (Same.new hr'))
      have np' : p' ≠ r := fun e => by rw [e, hr'] at hp'; cases hp'
      walk_at "go"
      exact q _ _ ss ((Same.new hp).trans s1 |>.free hr') ⟨p', ns.take 60, 0, 0, np'.symm, upd_same, (upd_ne np').trans hp', hl, by omega, by omega, by omega⟩
theorem ok_pick {f : Addr} {fd : FuncData} (F : Fun K "_law_pick" "_law_pick" s__law_pick f fd) (T : Txt mg) (C__law_drop : Cal P w K mg base CX0 1 "_law_drop" spDraw) : FnG P w K mg base CX0 2 f fd ["cruet", "some"] spPick := by
  refine okG0 F sc__law_pick (fun vs H Q E h => ?_) (fun cdv A outer s H vs Q E hG hr h => ?_)
  · obtain ⟨r, l, n, xs, rfl, _⟩ := h
    rfl
  · obtain ⟨r, l, n, xs, rfl, R, hn, lr, hL, x0, x1, q⟩ := h
    refine ⟨_, (pss_one (ps_ret (pe_ix ix_list (pv 1) (pe_f C__law_drop hG (hr.mono (by decide)) (by rfl) pass0 (pa_cons (pv 0) (pa_cons (pe_callB (id := "len") call_len_seq (by rfl) T.m_len PySem.boot_len (pa_cons (pv 1) pa_nil)) pa_nil))) (fun _ _ => rfl)))), ?_⟩
    dsimp only [cxOf, Cx.nox, Cx.wish]
    walk_at "go"
    refine ⟨l, xs, rfl, .inl (.inl (.inl hL)), ?_⟩
    walk_at "go"
    refine ⟨r, n, _, rfl, R, hn, by omega, by omega, fun H' v g R' v0 v1 => ?_⟩
    obtain ⟨j, rfl⟩ := Int.eq_ofNat_of_zero_le v0
    have hj : j < xs.length := by omega
    have hx : xs[j]? = some xs[j] := by simp [hj]
    refine k_ixL (.inl (.inl (g _ _ lr hL))) (atI_nat hx) ?_
    walk_at "go"
    exact q _ _ g R' (List.getElem_mem hj)
end
end K03

namespace K03
open PySem PySem.Spec PyProof.Rows L2 Nd
abbrev s__shown : Stmt := top 2
theorem sc__shown : FnScope ["field"] ["field"] (defScope s__shown) := ⟨rfl, rfl, rfl, by decide +kernel, rfl, by decide +kernel, by decide +kernel⟩
abbrev s_BadNumber___init__ : Stmt := mem (top 4) 0
theorem sc_BadNumber___init__ : FnScope ["self", "part"] ["self", "part"] (defScope s_BadNumber___init__) := ⟨rfl, rfl, rfl, by decide +kernel, rfl, by decide +kernel, by decide +kernel⟩
abbrev s_is_integer : Stmt := top 6
theorem sc_is_integer : FnScope ["value"] ["value"] (defScope s_is_integer) := ⟨rfl, rfl, rfl, by decide +kernel, rfl, by decide +kernel, by decide +kernel⟩
abbrev s_is_within : Stmt := top 7
theorem sc_is_within : FnScope ["value", "least", "most"] ["value", "least", "most"] (defScope s_is_within) := ⟨rfl, rfl, rfl, by decide +kernel, rfl, by decide +kernel, by decide +kernel⟩
abbrev s_are_integers : Stmt := top 8
theorem sc_are_integers : FnScope ["value", "many", "item"] ["value", "many"] (defScope s_are_integers) := ⟨rfl, rfl, rfl, by decide +kernel, rfl, by decide +kernel, by decide +kernel⟩
abbrev s_is_fraction : Stmt := top 9
theorem sc_is_fraction : FnScope ["value", "up", "down"] ["value"] (defScope s_is_fraction) := ⟨rfl, rfl, rfl, by decide +kernel, rfl, by decide +kernel, by decide +kernel⟩
abbrev s_need_integer : Stmt := top 10
theorem sc_need_integer : FnScope ["value", "part", "least", "most"] ["value", "part", "least", "most"] (defScope s_need_integer) := ⟨rfl, rfl, rfl, by decide +kernel, rfl, by decide +kernel, by decide +kernel⟩
structure TxtC (mg : Str → Option Value) : Prop where
  m_int : mg "int" = none
  m_bool : mg "bool" = none
  m_str : mg "str" = none
  m_len : mg "len" = none
  m_all : mg "all" = none
  m_list : mg "list" = none
  m_tuple : mg "tuple" = none
  m_isinstance : mg "isinstance" = none
  m_range : mg "range" = none
  m_repr : mg "repr" = none
  m_gcd : mg "gcd" = some (.builtin "math.gcd")
def spShown : Sp := fun vs H Q _ => ∃ z : Str, vs = [.str z] ∧ z.length ≤ 100 ∧ Q (.str z) H
section
variable {P : Program} {w : World} {K : PySem.W.Frag} {mg : Str → Option Value} {base : Heap}
theorem ok_shown {f : Addr} {fd : FuncData} (F : Fun K "_shown" "_shown" s__shown f fd) (T : TxtC mg) : FnG P w K mg base CX0 1 f fd ["field"] spShown := by
  refine okG0 F sc__shown (fun vs H Q E h => ?_) (fun cdv A outer s H vs Q E hG hr h => ?_)
  · obtain ⟨z, rfl, _⟩ := h
    rfl
  · obtain ⟨z, rfl, hz, q⟩ := h
    refine ⟨_, (pss_cons (ps_if (pt_val (pe_callB (id := "isinstance") call_isi (by rfl) T.m_isinstance (by decide +kernel) (pa_cons (pv 0) (pa_cons (pe_bltn (v := .ty "str") (u := .type "str") (by rfl) T.m_str (by decide +kernel) rfl) pa_nil)))) (pss_one (ps_ret (pv 0))) pss_nil)
      (pss_one (ps_ret pe_str))), ?_⟩
    try dsimp only [cxOf, Cx.nox, Cx.wish]
    walk_at "go"
    refine k_isi (r := 0) (.str z) (by decide) ?_
    walk_at "go"
    refine iteT ?_
    walk_at "go"
    exact q
theorem ok_BadNumber {f C B : Addr} {fd : FuncData} (F : Fun K "__init__" "BadNumber.__init__" s_BadNumber___init__ f fd) (T : ErrT K mg "BadNumber" "HandError" C B) (C__shown : Cal P w K mg base CX0 1 "_shown" spShown) : FnG P w K mg base CX0 2 f fd ["self", "part"] (spInit C ["part"]) := by
  refine okG0 F sc_BadNumber___init__ (fun vs H Q E h => ?_) (fun cdv A outer s H vs Q E hG hr h => ?_)
  · obtain ⟨a, zs, rfl, hl, _⟩ := h
    simp only [List.length_cons, List.length_map, hl]
  · obtain ⟨a, zs, rfl, hl, hz, ea, q⟩ := h
    obtain ⟨z, rfl⟩ := List.length_eq_one_iff.mp hl
    refine ⟨_, (pss_cons (ps_expr (pe_heinit T.he (by rfl) T.gB (pa_cons (pv 0) (pa_cons (pe_joined (PJ.cons pe_str (PJ.cons (pe_fmt (pe_f C__shown hG (hr.mono (by decide)) (by rfl) pass0 (pa_cons (pv 1) pa_nil))) PJ.nil))) pa_nil))))
      (pss_one (ps_ost (pv 0) (pv 1)))), ?_⟩
    try dsimp only [cxOf, Cx.nox, Cx.wish]
    walk_at "go"
    refine k_vei ?_
    walk_at "go"
    dsimp only [tJs, tFmt]
    refine ⟨_, rfl, by decide, ?_⟩
    walk_at "go"
    have hz' := hz z (List.mem_singleton_self z)
    refine ⟨z, rfl, hz', ?_⟩
    refine .inl ⟨z, rfl, ?_, z, rfl, ?_, ?_⟩
    · exact Nat.le_trans hz' (by decide)
    · rw [Str.length_append, Str.length_append]
      exact Nat.le_trans (Nat.add_le_add (Nat.le_refl _) hz') (by decide +kernel)
    walk_at "go"
    refine ⟨a, C, _, rfl, by simp, T.oex, ea, ?_⟩
    walk_at "go"
    refine k_ost1 rfl rfl T.oex T.noP (ea) fun d hd ne => ?_
    exact q d hd ne
theorem ok_is_integer {f : Addr} {fd : FuncData} (F : Fun K "is_integer" "is_integer" s_is_integer f fd) (T : TxtC mg) : FnG P w K mg base CX0 1 f fd ["value"] spIsInt := by
  refine okG0 F sc_is_integer (fun vs H Q E h => ?_) (fun cdv A outer s H vs Q E hG hr h => ?_)
  · obtain ⟨r, v, d, rfl, _⟩ := h
    rfl
  · obtain ⟨r, v, d, rfl, hd, q⟩ := h
    refine ⟨_, (pss_one (ps_ret (pe_and (pe_callB (id := "isinstance") call_isi (by rfl) T.m_isinstance (by decide +kernel) (pa_cons (pv 0) (pa_cons (pe_bltn (v := .ty "int") (u := .type "int") (by rfl) T.m_int (by decide +kernel) rfl) pa_nil))) (pe_one (pe_not (pe_callB (id := "isinstance") call_isi (by rfl) T.m_isinstance (by decide +kernel) (pa_cons (pv 0) (pa_cons (pe_bltn (v := .ty "bool") (u := .type "bool") (by rfl) T.m_bool (by decide +kernel) rfl) pa_nil)))))))), ?_⟩
    try dsimp only [cxOf, Cx.nox, Cx.wish]
    walk_at "go"
    refine k_isi hd (by decide) ?_
    walk_at "go"
    have q' := q H (Same.refl _)
    rw [← isInt_eq d] at q'
    cases h1 : isD "int" d with
    | true =>
      rw [h1] at q'
      rw [if_pos rfl]
      walk_at "go"
      refine k_isi hd (by decide) ?_
      walk_at "go"
      simpa using q'
    | false =>
      rw [h1] at q'
      rw [if_neg (by decide)]
      walk_at "go"
      simpa using q'
theorem ok_is_within {f : Addr} {fd : FuncData} (F : Fun K "is_within" "is_within" s_is_within f fd) (C_is_integer : Cal P w K mg base CX0 1 "is_integer" spIsInt) : FnG P w K mg base CX0 2 f fd ["value", "least", "most"] spWithin := by
  refine okG0 F sc_is_within (fun vs H Q E h => ?_) (fun cdv A outer s H vs Q E hG hr h => ?_)
  · obtain ⟨r, v, d, l, m, rfl, _⟩ := h
    rfl
  · obtain ⟨r, v, d, l, m, rfl, hd, q⟩ := h
    refine ⟨_, (pss_cons (ps_if (pt_not (pt_val (pe_f C_is_integer hG (hr.mono (by decide)) (by rfl) pass0 (pa_cons (pv 0) pa_nil)))) (pss_one (ps_ret pe_bl)) pss_nil)
      (pss_cons (ps_if (PW.pt (pw_and (pt_cmpR op_notN (pv 1) pe_non (nomark _)) (pw_and1 (pt_cmpR op_lt (pv 0) (pv 1) (nomark _))))) (pss_one (ps_ret pe_bl)) pss_nil)
      (pss_one (ps_ret (pe_or (pe_cmpR op_isN (pv 2) pe_non (nomark _)) (pe_one (pe_cmpR op_le (pv 0) (pv 2) (nomark _)))))))), ?_⟩
    try dsimp only [cxOf, Cx.nox, Cx.wish]
    walk_at "go"
    refine ⟨r, v, d, rfl, hd, fun H' s1 => ?_⟩
    walk_at "go"
    have q' := q H' s1
    by_cases hi : ∃ i, d = .int i
    · obtain ⟨i, rfl⟩ := hi
      cases hd
      refine iteF ?_
      have last : (b : Bool) → (lowD i l && highD i m) = b → Q (.bl b) H' := fun b e => e ▸ q'
      cases l with
      | none =>
        dsimp only [optV]
        walk_at "go"
        refine iteF (iteF ?_)
        walk_at "go"
        cases m with
        | none =>
          refine iteT ?_
          walk_at "go"
          exact last _ rfl
        | some x =>
          refine iteF ?_
          dsimp only [optV]
          walk_at "go"
          exact last _ rfl
      | some y =>
        dsimp only [optV]
        walk_at "go"
        refine iteT ?_
        walk_at "go"
        refine ite2 (fun h => ?_) (fun h => ?_)
        · walk_at "go"
          exact last _ (by have := of_decide_eq_true h; simp [lowD]; omega)
        · have hy : lowD i (some y) = true := by
            simp only [lowD, decide_eq_true_eq] at h ⊢
            omega
          walk_at "go"
          cases m with
          | none =>
            refine iteT ?_
            walk_at "go"
            exact last _ (by rw [hy]; rfl)
          | some x =>
            refine iteF ?_
            dsimp only [optV]
            walk_at "go"
            exact last _ (by rw [hy]; rfl)
    · have e : ndInt d = false := by cases d <;> first | rfl | exact absurd ⟨_, rfl⟩ hi
      have e2 : withinD d l m = false := by cases d <;> first | rfl | exact absurd ⟨_, rfl⟩ hi
      rw [e]
      rw [e2] at q'
      refine iteT ?_
      walk_at "go"
      exact q'
theorem ok_are_integers {f : Addr} {fd : FuncData} (F : Fun K "are_integers" "are_integers" s_are_integers f fd) (T : TxtC mg) (C_is_integer : Cal P w K mg base CX0 1 "is_integer" spIsInt) : FnG P w K mg base CX0 2 f fd ["value", "many"] spAreInts := by
  refine okG0 F sc_are_integers (fun vs H Q E h => ?_) (fun cdv A outer s H vs Q E hG hr h => ?_)
  · obtain ⟨r, v, d, k, rfl, _⟩ := h
    rfl
  · obtain ⟨r, v, d, k, rfl, hd, hz, q⟩ := h
    by_cases hT : isD "tuple" d = true
    · obtain ⟨ds, rfl⟩ : ∃ ds, d = .tuple ds := by cases d <;> first | exact ⟨_, rfl⟩ | cases hT
      refine ⟨_, (pss_cons (ps_if (PW.pt (pw_or (pt_not (pt_val (pe_callB (id := "isinstance") call_isiT (by rfl) T.m_isinstance (by decide +kernel) (pa_cons (pv 0) (pa_cons (pe_tup (pa_cons (pe_bltn (v := .ty "list") (u := .type "list") (by rfl) T.m_list (by decide +kernel) rfl) (pa_cons (pe_bltn (v := .ty "tuple") (u := .type "tuple") (by rfl) T.m_tuple (by decide +kernel) rfl) pa_nil))) pa_nil))))) (pw_or1 (pt_cmpR op_ne (pe_callB (id := "len") call_len_seq (by rfl) T.m_len PySem.boot_len (pa_cons (pv 0) pa_nil)) (pv 1) (nomark _))))) (pss_one (ps_ret pe_bl)) pss_nil)
      (pss_one (ps_ret (pe_callB (id := "all") (cr_all rfl) (by rfl) T.m_all (by decide +kernel) (pa_cons (pe_lc (own := [("item", 2)]) (g := gName 2) (tt := tYes) rfl sc_are_integers.nd (pi_tup (pv 0)) (blkOk_by (own := [("item", 2)]) (N := ["value", "many", "item"]) (sc := defScope s_are_integers) (by decide +kernel)) (fun _ _ _ _ _ => pg_name (i := 2) sc_are_integers.nd rfl (Or.inl rfl)) (fun _ _ _ _ _ => pts_nil) (fun _ _ _ _ _ => (pe_f C_is_integer hG (hr.mono (by decide)) (by rfl) pass0 (pa_cons (pv 2) pa_nil)))) pa_nil))))), ?_⟩
      try dsimp only [cxOf, Cx.nox, Cx.wish]
      have hd0 := hd
      cases hd with
      | @tup a xs _ na ea ha =>
      have hlen := ha.length
      have hz' := hz ds rfl
      walk_at "go"
      refine ⟨by show 2 ≤ sizeLine; decide, fun p hp => ?_⟩
      have s1 : Same H (upd H p (.tup [.ty "list", .ty "tuple"])) := Same.new hp
      have e1 := s1 _ _ ea
      walk_at "go"
      refine k_isi2 (hd0.same s1) upd_same (by decide) (by decide) ?_
      walk_at "go"
      refine iteF ?_
      walk_at "go"
      refine ⟨a, xs, rfl, .inr (.inl (.inl e1)), ?_⟩
      walk_at "go"
      by_cases hk : (xs.length : Int) = k
      · subst hk
        rw [show (!decide (V.int (xs.length : Int) = V.int (xs.length : Int))) = false by simp]
        refine iteF ?_
        walk_at "go"
        refine ⟨⟨_, .inl (.inl e1)⟩, ?_⟩
        refine lcIn_T (fun _ => true) (fun i => .bl (ndInt (ds.getD i .none))) (.inl (.inl e1)) (by omega) (fun x => rfl) (fun i x H2 hi s2 => ⟨fun QT k => k _ (Same.refl _), fun _ H3 s3 QE k => ?_⟩) (fun p' H' np s3 hp' => ?_)
        · obtain ⟨d, hd, hx⟩ := ha.get hi
          walk_at "go"
          refine ⟨r, x, d, rfl, hx.same (s1.trans (s2.trans s3)), fun H4 s4 => ?_⟩
          walk_at "go"
          have := k H4 s4
          rw [List.getD_eq_getElem?_getD, hd] at this
          exact this
        · have e2 : given xs.length (fun _ => true) (fun i => V.bl (ndInt (ds.getD i .none))) = (ds.map ndInt).map V.bl := by
            refine given_all (by simp [hlen]) fun i x hi => ?_
            simp only [List.getElem?_map, Option.map_map] at hi
            obtain ⟨d, h1, h2⟩ := Option.map_eq_some_iff.mp hi
            rw [List.getD_eq_getElem?_getD, h1]
            exact h2
          rw [e2] at hp'
          walk_at "go"
          refine ⟨p', ds.map ndInt, rfl, .inl (.inl hp'), ?_⟩
          walk_at "go"
          have q' := q H' (s1.trans s3)
          simpa [areIntsD, itemsD, hlen, List.all_map] using q'
      · rw [show (!decide (V.int (xs.length : Int) = V.int k)) = true by simp [hk]]
        refine iteT ?_
        walk_at "go"
        have q' := q _ s1
        simpa [areIntsD, itemsD, ← hlen, hk] using q'
    by_cases hL : isD "list" d = true
    · obtain ⟨ds, rfl⟩ : ∃ ds, d = .list ds := by cases d <;> first | exact ⟨_, rfl⟩ | cases hL
      refine ⟨_, (pss_cons (ps_if (PW.pt (pw_or (pt_not (pt_val (pe_callB (id := "isinstance") call_isiT (by rfl) T.m_isinstance (by decide +kernel) (pa_cons (pv 0) (pa_cons (pe_tup (pa_cons (pe_bltn (v := .ty "list") (u := .type "list") (by rfl) T.m_list (by decide +kernel) rfl) (pa_cons (pe_bltn (v := .ty "tuple") (u := .type "tuple") (by rfl) T.m_tuple (by decide +kernel) rfl) pa_nil))) pa_nil))))) (pw_or1 (pt_cmpR op_ne (pe_callB (id := "len") call_len_seq (by rfl) T.m_len PySem.boot_len (pa_cons (pv 0) pa_nil)) (pv 1) (nomark _))))) (pss_one (ps_ret pe_bl)) pss_nil)
      (pss_one (ps_ret (pe_callB (id := "all") (cr_all rfl) (by rfl) T.m_all (by decide +kernel) (pa_cons (pe_lc (own := [("item", 2)]) (g := gName 2) (tt := tYes) rfl sc_are_integers.nd (pi_list (pv 0)) (blkOk_by (own := [("item", 2)]) (N := ["value", "many", "item"]) (sc := defScope s_are_integers) (by decide +kernel)) (fun _ _ _ _ _ => pg_name (i := 2) sc_are_integers.nd rfl (Or.inl rfl)) (fun _ _ _ _ _ => pts_nil) (fun _ _ _ _ _ => (pe_f C_is_integer hG (hr.mono (by decide)) (by rfl) pass0 (pa_cons (pv 2) pa_nil)))) pa_nil))))), ?_⟩
      try dsimp only [cxOf, Cx.nox, Cx.wish]
      have hd0 := hd
      cases hd with
      | @lst a xs _ na ea ha =>
      have hlen := ha.length
      have hz' := hz ds rfl
      walk_at "go"
      refine ⟨by show 2 ≤ sizeLine; decide, fun p hp => ?_⟩
      have s1 : Same H (upd H p (.tup [.ty "list", .ty "tuple"])) := Same.new hp
      have e1 := s1 _ _ ea
      walk_at "go"
      refine k_isi2 (hd0.same s1) upd_same (by decide) (by decide) ?_
      walk_at "go"
      refine iteF ?_
      walk_at "go"
      refine ⟨a, xs, rfl, .inl (.inl (.inl e1)), ?_⟩
      walk_at "go"
      by_cases hk : (xs.length : Int) = k
      · subst hk
        rw [show (!decide (V.int (xs.length : Int) = V.int (xs.length : Int))) = false by simp]
        refine iteF ?_
        walk_at "go"
        refine ⟨⟨_, .inl (.inl e1)⟩, ?_⟩
        refine lcIn_L (fun _ => true) (fun i => .bl (ndInt (ds.getD i .none))) (.inl (.inl e1)) (by omega) (fun x => rfl) (fun i x H2 hi s2 => ⟨fun QT k => k _ (Same.refl _), fun _ H3 s3 QE k => ?_⟩) (fun p' H' np s3 hp' => ?_)
        · obtain ⟨d, hd, hx⟩ := ha.get hi
          walk_at "go"
          refine ⟨r, x, d, rfl, hx.same (s1.trans (s2.trans s3)), fun H4 s4 => ?_⟩
          walk_at "go"
          have := k H4 s4
          rw [List.getD_eq_getElem?_getD, hd] at this
          exact this
        · have e2 : given xs.length (fun _ => true) (fun i => V.bl (ndInt (ds.getD i .none))) = (ds.map ndInt).map V.bl := by
            refine given_all (by simp [hlen]) fun i x hi => ?_
            simp only [List.getElem?_map, Option.map_map] at hi
            obtain ⟨d, h1, h2⟩ := Option.map_eq_some_iff.mp hi
            rw [List.getD_eq_getElem?_getD, h1]
            exact h2
          rw [e2] at hp'
          walk_at "go"
          refine ⟨p', ds.map ndInt, rfl, .inl (.inl hp'), ?_⟩
          walk_at "go"
          have q' := q H' (s1.trans s3)
          simpa [areIntsD, itemsD, hlen, List.all_map] using q'
      · rw [show (!decide (V.int (xs.length : Int) = V.int k)) = true by simp [hk]]
        refine iteT ?_
        walk_at "go"
        have q' := q _ s1
        simpa [areIntsD, itemsD, ← hlen, hk] using q'
    · refine ⟨_, (pss_cons (ps_if (PW.pt (pw_or (pt_not (pt_val (pe_callB (id := "isinstance") call_isiT (by rfl) T.m_isinstance (by decide +kernel) (pa_cons (pv 0) (pa_cons (pe_tup (pa_cons (pe_bltn (v := .ty "list") (u := .type "list") (by rfl) T.m_list (by decide +kernel) rfl) (pa_cons (pe_bltn (v := .ty "tuple") (u := .type "tuple") (by rfl) T.m_tuple (by decide +kernel) rfl) pa_nil))) pa_nil))))) (pw_or1 (pt_cmpR op_ne (pe_callB (id := "len") call_len_seq (by rfl) T.m_len PySem.boot_len (pa_cons (pv 0) pa_nil)) (pv 1) (nomark _))))) (pss_one (ps_ret pe_bl)) pss_nil)
      (pss_one (ps_ret (pe_callB (id := "all") (cr_all rfl) (by rfl) T.m_all (by decide +kernel) (pa_cons (pe_lc (own := [("item", 2)]) (g := gName 2) (tt := tYes) rfl sc_are_integers.nd (pi_list (pv 0)) (blkOk_by (own := [("item", 2)]) (N := ["value", "many", "item"]) (sc := defScope s_are_integers) (by decide +kernel)) (fun _ _ _ _ _ => pg_name (i := 2) sc_are_integers.nd rfl (Or.inl rfl)) (fun _ _ _ _ _ => pts_nil) (fun _ _ _ _ _ => (pe_f C_is_integer hG (hr.mono (by decide)) (by rfl) pass0 (pa_cons (pv 2) pa_nil)))) pa_nil))))), ?_⟩
      try dsimp only [cxOf, Cx.nox, Cx.wish]
      walk_at "go"
      refine ⟨by show 2 ≤ sizeLine; decide, fun p hp => ?_⟩
      have s1 : Same H (upd H p (.tup [.ty "list", .ty "tuple"])) := Same.new hp
      walk_at "go"
      refine k_isi2 (hd.same s1) upd_same (by decide) (by decide) ?_
      walk_at "go"
      rw [show (isD "list" d || isD "tuple" d) = false by simp [hL, hT]]
      refine iteT ?_
      refine iteT ?_
      walk_at "go"
      have q' := q _ s1
      have e : areIntsD d k = false := by cases d <;> first | rfl | exact absurd rfl hL | exact absurd rfl hT
      rw [e] at q'
      exact q'
theorem ok_is_fraction {f : Addr} {fd : FuncData} (F : Fun K "is_fraction" "is_fraction" s_is_fraction f fd) (T : TxtC mg) (C_are_integers : Cal P w K mg base CX0 2 "are_integers" spAreInts) : FnG P w K mg base CX0 3 f fd ["value"] spFrac := by
  refine okG0 F sc_is_fraction (fun vs H Q E h => ?_) (fun cdv A outer s H vs Q E hG hr h => ?_)
  · obtain ⟨r, v, d, rfl, _⟩ := h
    rfl
  · obtain ⟨r, v, d, rfl, hd, hz, q⟩ := h
    by_cases hT : isD "tuple" d = true
    · obtain ⟨ds, rfl⟩ : ∃ ds, d = .tuple ds := by cases d <;> first | exact ⟨_, rfl⟩ | cases hT
      refine ⟨_, (pss_cons (ps_if (pt_not (pt_val (pe_f C_are_integers hG (hr.mono (by decide)) (by rfl) pass0 (pa_cons (pv 0) (pa_cons pe_int pa_nil))))) (pss_one (ps_ret pe_bl)) pss_nil)
      (pss_cons (ps_asg (pv 0) (pg_tup (by rfl) (pgs_cons (pg_name (i := 1) sc_is_fraction.nd rfl (.inl rfl)) (pgs_cons (pg_name (i := 2) sc_is_fraction.nd rfl (.inl rfl)) pgs_nil))))
      (pss_one (ps_ret (pe_and (pe_cmpR op_gt (pv 2) pe_int (nomark _)) (pe_one (pe_cmpR op_eq (pe_callBfun cr_gcd (by rfl) T.m_gcd (pa_cons (pv 1) (pa_cons (pv 2) pa_nil))) pe_int (nomark _)))))))), ?_⟩
      try dsimp only [cxOf, Cx.nox, Cx.wish]
      walk_at "go"
      refine ⟨r, v, _, 2, rfl, hd, hz, fun H1 s1 => ?_⟩
      have q' := q H1 s1
      cases hk : areIntsD (.tuple ds) 2 with
      | false =>
        walk_at "go"
        rw [fracD_no hk] at q'
        refine iteT ?_
        walk_at "go"
        exact q'
      | true =>
        obtain ⟨u, z, hds⟩ := two_ints hk
        cases (show ds = [.int u, .int z] from Option.some.inj hds)
        walk_at "go"
        refine iteF ?_
        cases hd with
        | @tup a xs _ na ea ha =>
        cases ha with
        | cons h1 h2 =>
        cases h2 with
        | cons h2 h3 =>
        cases h1
        cases h2
        cases h3
        walk_at "go"
        refine k_gtup (.inl (.inl (s1 _ _ ea))) rfl ?_
        walk_at "go"
        have e : fracD (.tuple [.int u, .int z]) = (decide (0 < z) && decide (Nat.gcd u.natAbs z.natAbs = 1)) := rfl
        rw [e] at q'
        by_cases hz0 : (0 : Int) < z
        · rw [decide_eq_true hz0] at q' ⊢
          refine iteT ?_
          walk_at "go"
          simpa [V.int.injEq, gcd_one] using q'
        · rw [decide_eq_false hz0] at q' ⊢
          refine iteF ?_
          walk_at "go"
          exact q'
    by_cases hL : isD "list" d = true
    · obtain ⟨ds, rfl⟩ : ∃ ds, d = .list ds := by cases d <;> first | exact ⟨_, rfl⟩ | cases hL
      refine ⟨_, (pss_cons (ps_if (pt_not (pt_val (pe_f C_are_integers hG (hr.mono (by decide)) (by rfl) pass0 (pa_cons (pv 0) (pa_cons pe_int pa_nil))))) (pss_one (ps_ret pe_bl)) pss_nil)
      (pss_cons (ps_asg (pv 0) (pg_unl (by rfl) (pgs_cons (pg_name (i := 1) sc_is_fraction.nd rfl (.inl rfl)) (pgs_cons (pg_name (i := 2) sc_is_fraction.nd rfl (.inl rfl)) pgs_nil))))
      (pss_one (ps_ret (pe_and (pe_cmpR op_gt (pv 2) pe_int (nomark _)) (pe_one (pe_cmpR op_eq (pe_callBfun cr_gcd (by rfl) T.m_gcd (pa_cons (pv 1) (pa_cons (pv 2) pa_nil))) pe_int (nomark _)))))))), ?_⟩
      try dsimp only [cxOf, Cx.nox, Cx.wish]
      walk_at "go"
      refine ⟨r, v, _, 2, rfl, hd, hz, fun H1 s1 => ?_⟩
      have q' := q H1 s1
      cases hk : areIntsD (.list ds) 2 with
      | false =>
        walk_at "go"
        rw [fracD_no hk] at q'
        refine iteT ?_
        walk_at "go"
        exact q'
      | true =>
        obtain ⟨u, z, hds⟩ := two_ints hk
        cases (show ds = [.int u, .int z] from Option.some.inj hds)
        walk_at "go"
        refine iteF ?_
        cases hd with
        | @lst a xs _ na ea ha =>
        cases ha with
        | cons h1 h2 =>
        cases h2 with
        | cons h2 h3 =>
        cases h1
        cases h2
        cases h3
        walk_at "go"
        refine k_gunl (.inl (.inl (s1 _ _ ea))) rfl ?_
        walk_at "go"
        have e : fracD (.list [.int u, .int z]) = (decide (0 < z) && decide (Nat.gcd u.natAbs z.natAbs = 1)) := rfl
        rw [e] at q'
        by_cases hz0 : (0 : Int) < z
        · rw [decide_eq_true hz0] at q' ⊢
          refine iteT ?_
          walk_at "go"
          simpa [V.int.injEq, gcd_one] using q'
        · rw [decide_eq_false hz0] at q' ⊢
          refine iteF ?_
          walk_at "go"
          exact q'
    · refine ⟨_, (pss_cons (ps_if (pt_not (pt_val (pe_f C_are_integers hG (hr.mono (by decide)) (by rfl) pass0 (pa_cons (pv 0) (pa_cons pe_int pa_nil))))) (pss_one (ps_ret pe_bl)) pss_nil)
      (pss_cons (ps_asg (pv 0) (pg_tup (by rfl) (pgs_cons (pg_name (i := 1) sc_is_fraction.nd rfl (.inl rfl)) (pgs_cons (pg_name (i := 2) sc_is_fraction.nd rfl (.inl rfl)) pgs_nil))))
      (pss_one (ps_ret (pe_and (pe_cmpR op_gt (pv 2) pe_int (nomark _)) (pe_one (pe_cmpR op_eq (pe_callBfun cr_gcd (by rfl) T.m_gcd (pa_cons (pv 1) (pa_cons (pv 2) pa_nil))) pe_int (nomark _)))))))), ?_⟩
      try dsimp only [cxOf, Cx.nox, Cx.wish]
      walk_at "go"
      refine ⟨r, v, d, 2, rfl, hd, hz, fun H1 s1 => ?_⟩
      have q' := q H1 s1
      have e : itemsD d = none := by cases d <;> first | rfl | exact absurd rfl hL | exact absurd rfl hT
      rw [show areIntsD d 2 = false by simp [areIntsD, e]]
      rw [show fracD d = false by simp [fracD, e]] at q'
      walk_at "go"
      exact q'
theorem ok_need_integer {f : Addr} {fd : FuncData} (F : Fun K "need_integer" "need_integer" s_need_integer f fd) (C_is_within : Cal P w K mg base CX0 2 "is_within" spWithin) : FnG P w K mg base CX0 3 f fd ["value", "part", "least", "most"] spNeed := by
  refine okG0 F sc_need_integer (fun vs H Q E h => ?_) (fun cdv A outer s H vs Q E hG hr h => ?_)
  · obtain ⟨r, v, x, d, l, m, rfl, _⟩ := h
    rfl
  · obtain ⟨r, v, x, d, l, m, rfl, hd, hw, q⟩ := h
    refine ⟨_, (pss_one (ps_if (pt_not (pt_val (pe_f C_is_within hG (hr.mono (by decide)) (by rfl) pass0 (pa_cons (pv 0) (pa_cons (pv 2) (pa_cons (pv 3) pa_nil)))))) (pss_one ps_never) pss_nil)), ?_⟩
    try dsimp only [cxOf, Cx.nox, Cx.wish]
    walk_at "go"
    refine ⟨r, v, d, l, m, rfl, hd, fun H' s1 => ?_⟩
    walk_at "go"
    rw [hw]
    refine iteF ?_
    walk_at "go"
    exact q _ s1
theorem ok_needX {f C : Addr} {fd : FuncData} (F : Fun K "need_integer" "need_integer" s_need_integer f fd) (C_is_within : Cal P w K mg base CX0 2 "is_within" spWithin) (M_BadNumber : MkE P w K mg base "BadNumber" C 2 (spInit C ["part"])) :
    FnG P w K mg base (L2.CX P w) 4 f fd ["value", "part", "least", "most"] (spNeedX C) := by
  refine okG F sc_need_integer (fun vs H Q E h => ?_) (fun cdv A outer s H vs Q E hG hr h => ?_)
  · obtain ⟨r, v, z, d, l, m, rfl, _⟩ := h
    rfl
  · obtain ⟨r, v, z, d, l, m, rfl, hz, hd, q, o⟩ := h
    refine ⟨_, (pss_one (ps_if (pt_not (pt_val (pe_f C_is_within hG (hr.mono (by decide)) (by rfl) pass0 (pa_cons (pv 0) (pa_cons (pv 2) (pa_cons (pv 3) pa_nil)))))) (pss_one (ps_raiseE rfl takesX M_BadNumber hG (hr.mono (by decide)) (by rfl) (pa_cons (pv 1) pa_nil))) pss_nil)), ?_⟩
    try dsimp only [cxOf, Cx.nox, Cx.wish]
    walk_at "go"
    refine ⟨r, v, d, l, m, rfl, hd, fun H' s1 => ?_⟩
    walk_at "go"
    cases hw : withinD d l m with
    | true =>
      refine iteF ?_
      walk_at "go"
      exact q hw _ s1
    | false =>
      refine iteT ?_
      walk_at "go"
      exact k_raise1 rfl hz ((o hw).new s1)
end
end K03

namespace K03
open PySem PySem.Spec PyProof.Rows L2 Nd
abbrev s__need_two : Stmt := top 17
theorem sc__need_two : FnScope ["one", "other"] ["one", "other"] (defScope s__need_two) := ⟨rfl, rfl, rfl, by decide +kernel, rfl, by decide +kernel, by decide +kernel⟩
abbrev s_reduced : Stmt := top 12
theorem sc_reduced : FnScope ["up", "down", "common"] ["up", "down"] (defScope s_reduced) := ⟨rfl, rfl, rfl, by decide +kernel, rfl, by decide +kernel, by decide +kernel⟩
abbrev s_added : Stmt := top 13
theorem sc_added : FnScope ["one", "other"] ["one", "other"] (defScope s_added) := ⟨rfl, rfl, rfl, by decide +kernel, rfl, by decide +kernel, by decide +kernel⟩
abbrev s_less : Stmt := top 14
theorem sc_less : FnScope ["one", "other"] ["one", "other"] (defScope s_less) := ⟨rfl, rfl, rfl, by decide +kernel, rfl, by decide +kernel, by decide +kernel⟩
abbrev s_multiplied : Stmt := top 15
theorem sc_multiplied : FnScope ["one", "other"] ["one", "other"] (defScope s_multiplied) := ⟨rfl, rfl, rfl, by decide +kernel, rfl, by decide +kernel, by decide +kernel⟩
abbrev s_below : Stmt := top 16
theorem sc_below : FnScope ["one", "other"] ["one", "other"] (defScope s_below) := ⟨rfl, rfl, rfl, by decide +kernel, rfl, by decide +kernel, by decide +kernel⟩
section
variable {P : Program} {w : World} {K : PySem.W.Frag} {mg : Str → Option Value} {base : Heap}
theorem ok_need_two {f C : Addr} {fd : FuncData} (F : Fun K "_need_two" "_need_two" s__need_two f fd) (C_is_fraction : Cal P w K mg base CX0 3 "is_fraction" spFrac) (M_BadNumber : MkE P w K mg base "BadNumber" C 2 (spInit C ["part"])) :
    FnG P w K mg base (L2.CX P w) 4 f fd ["one", "other"] (spTwoX C) := by
  refine okG F sc__need_two (fun vs H Q E h => ?_) (fun cdv A outer s H vs Q E hG hr h => ?_)
  · obtain ⟨r, v, w, d, e, rfl, _⟩ := h
    rfl
  · obtain ⟨r, v, w, d, e, rfl, hd, he, ld, le, q, o1, o2⟩ := h
    refine ⟨_, (pss_cons (ps_if (pt_not (pt_val (pe_f C_is_fraction hG (hr.mono (by decide)) (by rfl) pass0 (pa_cons (pv 0) pa_nil)))) (pss_one (ps_raiseE rfl takesX M_BadNumber hG (hr.mono (by decide)) (by rfl) (pa_cons pe_str pa_nil))) pss_nil)
      (pss_one (ps_if (pt_not (pt_val (pe_f C_is_fraction hG (hr.mono (by decide)) (by rfl) pass0 (pa_cons (pv 1) pa_nil)))) (pss_one (ps_raiseE rfl takesX M_BadNumber hG (hr.mono (by decide)) (by rfl) (pa_cons pe_str pa_nil))) pss_nil))), ?_⟩
    try dsimp only [cxOf, Cx.nox, Cx.wish]
    walk_at "go"
    refine ⟨r, v, d, rfl, hd, ld, fun H1 s1 => ?_⟩
    walk_at "go"
    cases hf : fracD d with
    | false =>
      refine iteT ?_
      walk_at "go"
      exact k_raiseC (z := "one") (by decide) ((o1 hf).new s1)
    | true =>
      refine iteF ?_
      walk_at "go"
      refine ⟨r, w, e, rfl, he.same s1, le, fun H2 s2 => ?_⟩
      walk_at "go"
      cases hg : fracD e with
      | false =>
        refine iteT ?_
        walk_at "go"
        exact k_raiseC (z := "other") (by decide) ((o2 hf hg).new (s1.trans s2))
      | true =>
        refine iteF ?_
        walk_at "go"
        exact q hf hg _ (s1.trans s2)
theorem ok_reduced {f C : Addr} {fd : FuncData} (F : Fun K "reduced" "reduced" s_reduced f fd) (T : TxtC mg) (CX_need_integer : Cal P w K mg base (L2.CX P w) 4 "need_integer" (spNeedX C)) (M_BadNumber : MkE P w K mg base "BadNumber" C 2 (spInit C ["part"])) :
    FnG P w K mg base (L2.CX P w) 5 f fd ["up", "down"] (spRedX C) := by
  refine okG F sc_reduced (fun vs H Q E h => ?_) (fun cdv A outer s H vs Q E hG hr h => ?_)
  · obtain ⟨r, v, w, d, e, rfl, _⟩ := h
    rfl
  · obtain ⟨r, v, w, d, e, rfl, hd, he, q, o1, o2⟩ := h
    refine ⟨_, (pss_cons (ps_expr (pe_f CX_need_integer hG (hr.mono (by decide)) (by rfl) passX (pa_cons (pv 0) (pa_cons pe_str (pa_cons pe_non (pa_cons pe_non pa_nil))))))
      (pss_cons (ps_expr (pe_f CX_need_integer hG (hr.mono (by decide)) (by rfl) passX (pa_cons (pv 1) (pa_cons pe_str (pa_cons pe_non (pa_cons pe_non pa_nil))))))
      (pss_cons (ps_if (pt_cmpR op_eq (pv 1) pe_int (nomark _)) (pss_one (ps_raiseE rfl takesX M_BadNumber hG (hr.mono (by decide)) (by rfl) (pa_cons pe_str pa_nil))) pss_nil)
      (pss_cons (ps_set (i := 2) sc_reduced.nd rfl (.inl rfl) (pe_callBfun cr_gcd (by rfl) T.m_gcd (pa_cons (pv 0) (pa_cons (pv 1) pa_nil))))
      (pss_cons (ps_if (pt_cmpR op_lt (pv 1) pe_int (nomark _)) (pss_one (ps_set (i := 2) sc_reduced.nd rfl (.inl rfl) (pe_un un_neg (pv 2)))) pss_nil)
      (pss_one (ps_ret (pe_tup (pa_cons (pe_op op_fdivZ (pv 0) (pv 2)) (pa_cons (pe_op op_fdivZ (pv 1) (pv 2)) pa_nil)))))))))), ?_⟩
    try dsimp only [cxOf, Cx.nox, Cx.wish]
    walk_at "go"
    refine ⟨r, v, "up", d, none, none, rfl, by decide, hd, fun hw H1 s1 => ?_, fun hw => o1 (by cases d <;> first | rfl | cases hw)⟩
    obtain ⟨u, rfl⟩ : ∃ u, d = .int u := by cases d <;> first | exact ⟨_, rfl⟩ | cases hw
    cases hd
    walk_at "go"
    refine ⟨r, w, "down", e, none, none, rfl, by decide, he.same s1, fun hw H2 s2 => ?_, fun hw => (o2 rfl (.inl (by cases e <;> first | rfl | cases hw))).same s1⟩
    obtain ⟨z, rfl⟩ : ∃ u, e = .int u := by cases e <;> first | exact ⟨_, rfl⟩ | cases hw
    cases he
    walk_at "go"
    by_cases h0 : z = 0
    · subst h0
      refine ite_t rfl ?_
      walk_at "go"
      exact k_raiseC (z := "down") (by decide) ((o2 rfl (.inr rfl)).new (s1.trans s2))
    refine ite_f (decide_eq_false fun e => h0 (V.int.inj e)) ?_
    obtain ⟨hw, q⟩ := q u z rfl rfl h0
    walk_at "go"
    have ok := redG_ok (u := u) h0 hw (by decide) (by decide)
    refine ite2 (fun h => ?_) (fun h => ?_)
    · walk_at "go"
      rw [show (-((Nat.gcd u.natAbs z.natAbs : Nat) : Int)) = redG u z by unfold redG; rw [if_pos (of_decide_eq_true h)]]
      refine k_I ok ?_
      walk_at "go"
      refine k_I ok ?_
      walk_at "go"
      refine ⟨small64 (by simp), fun p hp => ?_⟩
      have s3 : Same H2 (upd H2 p (.tup [.int (u.fdiv (redG u z)), .int (z.fdiv (redG u z))])) := Same.new hp
      refine q _ _ (s1.trans (s2.trans s3)) (FrN.from (s1.trans s2) ⟨p, rfl, hp, ?_⟩)
      rw [upd_same, red_up h0, red_down h0]
    · walk_at "go"
      rw [show ((Nat.gcd u.natAbs z.natAbs : Nat) : Int) = redG u z by unfold redG; rw [if_neg (fun y => h (decide_eq_true y))]]
      refine k_I ok ?_
      walk_at "go"
      refine k_I ok ?_
      walk_at "go"
      refine ⟨small64 (by simp), fun p hp => ?_⟩
      have s3 : Same H2 (upd H2 p (.tup [.int (u.fdiv (redG u z)), .int (z.fdiv (redG u z))])) := Same.new hp
      refine q _ _ (s1.trans (s2.trans s3)) (FrN.from (s1.trans s2) ⟨p, rfl, hp, ?_⟩)
      rw [upd_same, red_up h0, red_down h0]
theorem ok_added {f C : Addr} {fd : FuncData} (F : Fun K "added" "added" s_added f fd) (CX__need_two : Cal P w K mg base (L2.CX P w) 4 "_need_two" (spTwoX C)) (C_reduced : Cal P w K mg base CX0 5 "reduced" spRed) : FnG P w K mg base (L2.CX P w) 6 f fd ["one", "other"] (spBinX C (· + ·)) := by
  refine okG F sc_added (fun vs H Q E h => ?_) (fun cdv A outer s H vs Q E hG hr h => ?_)
  · obtain ⟨r, v, w, d, e, rfl, _⟩ := h
    rfl
  · obtain ⟨r, v, w, d, e, rfl, hd, he, ld, le, k, o1, o2⟩ := h
    refine ⟨_, (pss_cons (ps_expr (pe_f CX__need_two hG (hr.mono (by decide)) (by rfl) passX (pa_cons (pv 0) (pa_cons (pv 1) pa_nil))))
      (pss_one (ps_ret (pe_f C_reduced hG (hr.mono (by decide)) (by rfl) pass0 (pa_cons (pe_op op_add (pe_op op_mulW (pe_ix ix_seq (pv 0) pe_int (fun _ _ => rfl)) (pe_ix ix_seq (pv 1) pe_int (fun _ _ => rfl))) (pe_op op_mulW (pe_ix ix_seq (pv 1) pe_int (fun _ _ => rfl)) (pe_ix ix_seq (pv 0) pe_int (fun _ _ => rfl)))) (pa_cons (pe_op op_mulW (pe_ix ix_seq (pv 0) pe_int (fun _ _ => rfl)) (pe_ix ix_seq (pv 1) pe_int (fun _ _ => rfl))) pa_nil)))))), ?_⟩
    try dsimp only [cxOf, Cx.nox, Cx.wish]
    walk_at "go"
    refine ⟨r, v, w, d, e, rfl, hd, he, ld, le, fun f1 f2 H1 s1 => ?_, o1, o2⟩
    obtain ⟨p, ip⟩ := frac_isFq f1
    obtain ⟨q, iq⟩ := frac_isFq f2
    obtain ⟨zp, zq, k⟩ := k p q ip iq
    have hp := (hd.frA ip).same s1
    have hq := (he.frA iq).same s1
    walk_at "go"
    refine k_ixA0 hp ?_
    walk_at "go"
    refine k_ixA1 hq ?_
    refine k_I (wide_mul zp.1 (lt_two _ zq.2) (by decide) (by decide) (by decide)) ?_
    walk_at "go"
    refine k_ixA0 hq ?_
    walk_at "go"
    refine k_ixA1 hp ?_
    refine k_I (wide_mul zq.1 (lt_two _ zp.2) (by decide) (by decide) (by decide)) ?_
    walk_at "go"
    refine k_ixA1 hp ?_
    walk_at "go"
    refine k_ixA1 hq ?_
    refine k_I (wide_mul (lt_two _ zp.2) (lt_two _ zq.2) (by decide) (by decide) (by decide)) ?_
    walk_at "go"
    refine ⟨_, _, rfl, den_ne p q, up_lt (n := 3000 + 3000) (by decide) (wide_lt (lt_two _ zp.2) (lt_two _ zq.2)), fun H2 x s2 hx => ?_⟩
    rw [← add_divInt] at hx
    walk_at "go"
    exact k H2 x (s1.trans s2) (hx.from s1)
theorem ok_less {f C : Addr} {fd : FuncData} (F : Fun K "less" "less" s_less f fd) (CX__need_two : Cal P w K mg base (L2.CX P w) 4 "_need_two" (spTwoX C)) (C_reduced : Cal P w K mg base CX0 5 "reduced" spRed) : FnG P w K mg base (L2.CX P w) 6 f fd ["one", "other"] (spBinX C (· - ·)) := by
  refine okG F sc_less (fun vs H Q E h => ?_) (fun cdv A outer s H vs Q E hG hr h => ?_)
  · obtain ⟨r, v, w, d, e, rfl, _⟩ := h
    rfl
  · obtain ⟨r, v, w, d, e, rfl, hd, he, ld, le, k, o1, o2⟩ := h
    refine ⟨_, (pss_cons (ps_expr (pe_f CX__need_two hG (hr.mono (by decide)) (by rfl) passX (pa_cons (pv 0) (pa_cons (pv 1) pa_nil))))
      (pss_one (ps_ret (pe_f C_reduced hG (hr.mono (by decide)) (by rfl) pass0 (pa_cons (pe_op op_sub (pe_op op_mulW (pe_ix ix_seq (pv 0) pe_int (fun _ _ => rfl)) (pe_ix ix_seq (pv 1) pe_int (fun _ _ => rfl))) (pe_op op_mulW (pe_ix ix_seq (pv 1) pe_int (fun _ _ => rfl)) (pe_ix ix_seq (pv 0) pe_int (fun _ _ => rfl)))) (pa_cons (pe_op op_mulW (pe_ix ix_seq (pv 0) pe_int (fun _ _ => rfl)) (pe_ix ix_seq (pv 1) pe_int (fun _ _ => rfl))) pa_nil)))))), ?_⟩
    try dsimp only [cxOf, Cx.nox, Cx.wish]
    walk_at "go"
    refine ⟨r, v, w, d, e, rfl, hd, he, ld, le, fun f1 f2 H1 s1 => ?_, o1, o2⟩
    obtain ⟨p, ip⟩ := frac_isFq f1
    obtain ⟨q, iq⟩ := frac_isFq f2
    obtain ⟨zp, zq, k⟩ := k p q ip iq
    have hp := (hd.frA ip).same s1
    have hq := (he.frA iq).same s1
    walk_at "go"
    refine k_ixA0 hp ?_
    walk_at "go"
    refine k_ixA1 hq ?_
    refine k_I (wide_mul zp.1 (lt_two _ zq.2) (by decide) (by decide) (by decide)) ?_
    walk_at "go"
    refine k_ixA0 hq ?_
    walk_at "go"
    refine k_ixA1 hp ?_
    refine k_I (wide_mul zq.1 (lt_two _ zp.2) (by decide) (by decide) (by decide)) ?_
    walk_at "go"
    refine k_ixA1 hp ?_
    walk_at "go"
    refine k_ixA1 hq ?_
    refine k_I (wide_mul (lt_two _ zp.2) (lt_two _ zq.2) (by decide) (by decide) (by decide)) ?_
    walk_at "go"
    refine ⟨_, _, rfl, den_ne p q, up_lt (n := 3000 + 3000) (by decide) (wide_lt (lt_two _ zp.2) (lt_two _ zq.2)), fun H2 x s2 hx => ?_⟩
    rw [← sub_divInt] at hx
    walk_at "go"
    exact k H2 x (s1.trans s2) (hx.from s1)
theorem ok_multiplied {f C : Addr} {fd : FuncData} (F : Fun K "multiplied" "multiplied" s_multiplied f fd) (CX__need_two : Cal P w K mg base (L2.CX P w) 4 "_need_two" (spTwoX C)) (C_reduced : Cal P w K mg base CX0 5 "reduced" spRed) : FnG P w K mg base (L2.CX P w) 6 f fd ["one", "other"] (spBinX C (· * ·)) := by
  refine okG F sc_multiplied (fun vs H Q E h => ?_) (fun cdv A outer s H vs Q E hG hr h => ?_)
  · obtain ⟨r, v, w, d, e, rfl, _⟩ := h
    rfl
  · obtain ⟨r, v, w, d, e, rfl, hd, he, ld, le, k, o1, o2⟩ := h
    refine ⟨_, (pss_cons (ps_expr (pe_f CX__need_two hG (hr.mono (by decide)) (by rfl) passX (pa_cons (pv 0) (pa_cons (pv 1) pa_nil))))
      (pss_one (ps_ret (pe_f C_reduced hG (hr.mono (by decide)) (by rfl) pass0 (pa_cons (pe_op op_mulW (pe_ix ix_seq (pv 0) pe_int (fun _ _ => rfl)) (pe_ix ix_seq (pv 1) pe_int (fun _ _ => rfl))) (pa_cons (pe_op op_mulW (pe_ix ix_seq (pv 0) pe_int (fun _ _ => rfl)) (pe_ix ix_seq (pv 1) pe_int (fun _ _ => rfl))) pa_nil)))))), ?_⟩
    try dsimp only [cxOf, Cx.nox, Cx.wish]
    walk_at "go"
    refine ⟨r, v, w, d, e, rfl, hd, he, ld, le, fun f1 f2 H1 s1 => ?_, o1, o2⟩
    obtain ⟨p, ip⟩ := frac_isFq f1
    obtain ⟨q, iq⟩ := frac_isFq f2
    obtain ⟨zp, zq, k⟩ := k p q ip iq
    have hp := (hd.frA ip).same s1
    have hq := (he.frA iq).same s1
    walk_at "go"
    refine k_ixA0 hp ?_
    walk_at "go"
    refine k_ixA0 hq ?_
    refine k_I (wide_mul zp.1 zq.1 (by decide) (by decide) (by decide)) ?_
    walk_at "go"
    refine k_ixA1 hp ?_
    walk_at "go"
    refine k_ixA1 hq ?_
    refine k_I (wide_mul (lt_two _ zp.2) (lt_two _ zq.2) (by decide) (by decide) (by decide)) ?_
    walk_at "go"
    refine ⟨_, _, rfl, den_ne p q, up_lt (n := 3000 + 3000) (by decide) (wide_lt (lt_two _ zp.2) (lt_two _ zq.2)), fun H2 x s2 hx => ?_⟩
    rw [← mul_divInt] at hx
    walk_at "go"
    exact k H2 x (s1.trans s2) (hx.from s1)
theorem ok_below {f C : Addr} {fd : FuncData} (F : Fun K "below" "below" s_below f fd) (CX__need_two : Cal P w K mg base (L2.CX P w) 4 "_need_two" (spTwoX C)) : FnG P w K mg base (L2.CX P w) 6 f fd ["one", "other"] (spBelowX C) := by
  refine okG F sc_below (fun vs H Q E h => ?_) (fun cdv A outer s H vs Q E hG hr h => ?_)
  · obtain ⟨r, v, w, d, e, rfl, _⟩ := h
    rfl
  · obtain ⟨r, v, w, d, e, rfl, hd, he, ld, le, k, o1, o2⟩ := h
    refine ⟨_, (pss_cons (ps_expr (pe_f CX__need_two hG (hr.mono (by decide)) (by rfl) passX (pa_cons (pv 0) (pa_cons (pv 1) pa_nil))))
      (pss_one (ps_ret (pe_cmpR op_lt (pe_op op_mulW (pe_ix ix_seq (pv 0) pe_int (fun _ _ => rfl)) (pe_ix ix_seq (pv 1) pe_int (fun _ _ => rfl))) (pe_op op_mulW (pe_ix ix_seq (pv 1) pe_int (fun _ _ => rfl)) (pe_ix ix_seq (pv 0) pe_int (fun _ _ => rfl))) (nomark _))))), ?_⟩
    try dsimp only [cxOf, Cx.nox, Cx.wish]
    walk_at "go"
    refine ⟨r, v, w, d, e, rfl, hd, he, ld, le, fun f1 f2 H1 s1 => ?_, o1, o2⟩
    obtain ⟨p, ip⟩ := frac_isFq f1
    obtain ⟨q, iq⟩ := frac_isFq f2
    obtain ⟨zp, zq, k⟩ := k p q ip iq
    have hp := (hd.frA ip).same s1
    have hq := (he.frA iq).same s1
    walk_at "go"
    refine k_ixA0 hp ?_
    walk_at "go"
    refine k_ixA1 hq ?_
    refine k_I (wide_mul zp.1 (lt_two _ zq.2) (by decide) (by decide) (by decide)) ?_
    walk_at "go"
    refine k_ixA0 hq ?_
    walk_at "go"
    refine k_ixA1 hp ?_
    refine k_I (wide_mul zq.1 (lt_two _ zp.2) (by decide) (by decide) (by decide)) ?_
    walk_at "go"
    rw [← decide_eq_decide.mpr (Rat.lt_iff p q)]
    exact k H1 s1
end
end K03

namespace K03
open PySem PySem.Spec PyProof.Rows L2 Nd
abbrev s__law_least : Stmt := top 23
theorem sc__law_least : FnScope ["up", "down", "one", "other"] ["up", "down"] (defScope s__law_least) := ⟨rfl, rfl, rfl, by decide +kernel, rfl, by decide +kernel, by decide +kernel⟩
abbrev s__law_integer : Stmt := top 22
theorem sc__law_integer : FnScope ["cruet"] ["cruet"] (defScope s__law_integer) := ⟨rfl, rfl, rfl, by decide +kernel, rfl, by decide +kernel, by decide +kernel⟩
def spLeast : Sp := fun vs H Q _ => ∃ u w : Int, vs = [.int u, .int w] ∧ w ≠ 0 ∧ w.natAbs < 2 ^ 8000 ∧ ∀ H' v, Same H H' → FrN H H' v (Rat.divInt u w) → Q v H'
section
variable {P : Program} {w : World} {K : PySem.W.Frag} {mg : Str → Option Value} {base : Heap}
theorem ok_least {f : Addr} {fd : FuncData} (F : Fun K "_law_least" "_law_least" s__law_least f fd) (T : Txt mg) : FnG P w K mg base CX0 1 f fd ["up", "down"] spLeast := by
  refine okG0 F sc__law_least (fun vs H Q E h => ?_) (fun cdv A outer s H vs Q E hG hr h => ?_)
  · obtain ⟨u, w, rfl, _⟩ := h
    rfl
  · obtain ⟨u, w, rfl, w0, hw, q⟩ := h
    refine ⟨_, (pss_cons (ps_par (i := 2) (j := 3) (by rfl) sc__law_least.nd rfl rfl (by decide) rfl rfl (pa_cons (pe_callB (id := "abs") call_abs (by rfl) T.m_abs (by decide +kernel) (pa_cons (pv 0) pa_nil)) (pa_cons (pe_callB (id := "abs") call_abs (by rfl) T.m_abs (by decide +kernel) (pa_cons (pv 1) pa_nil)) pa_nil)) (by rfl))
      (pss_cons (ps_while PassesOwn.never (pt_cmpR op_gt (pv 3) pe_int (nomark _)) (pss_one (ps_par (i := 2) (j := 3) (by rfl) sc__law_least.nd rfl rfl (by decide) rfl rfl (pa_cons (pv 3) (pa_cons (pe_op op_mod (pe_callTy call_int1 (by rfl) T.m_int (by decide +kernel) (pa_cons (pv 2) pa_nil)) (pv 3)) pa_nil)) (by rfl))))
      (pss_cons (ps_set (i := 2) sc__law_least.nd rfl (.inl rfl) (pe_ifExp (pt_cmpR op_gt (pv 1) pe_int (nomark _)) (pv 2) (pe_un un_neg (pv 2))))
      (pss_one (ps_ret (pe_tup (pa_cons (pe_op op_fdivZ (pv 0) (pv 2)) (pa_cons (pe_op op_fdivZ (pv 1) (pv 2)) pa_nil)))))))), ?_⟩
    try dsimp only [cxOf, Cx.nox, Cx.wish]
    walk_at "go"
    have ab : ∀ x : Int, (if x < 0 then -x else x) = (x.natAbs : Int) := fun x => by omega
    rw [ab, ab]
    refine k_while (fun m σ H' => ∃ x y : Nat, σ = [some (.int u), some (.int w), some (.int x), some (.int y)] ∧ y = m ∧ Same H H' ∧ Nat.gcd x y = Nat.gcd u.natAbs w.natAbs) w.natAbs
      ⟨u.natAbs, w.natAbs, rfl, rfl, Same.refl _, rfl⟩ (fun m σ H' hW => ?_)
    obtain ⟨x, y, rfl, rfl, s1, e⟩ := hW
    walk_at "go"
    refine ite2 (fun h => ?_) (fun h => ?_)
    · have h' : (0 : Int) < (y : Int) := of_decide_eq_true h
      refine ⟨fun σ' H' => ∃ m', m' < y ∧ ∃ x y : Nat, σ' = [some (.int u), some (.int w), some (.int x), some (.int y)] ∧ y = m' ∧ Same H H' ∧ Nat.gcd x y = Nat.gcd u.natAbs w.natAbs, fun _ _ z => z, ?_⟩
      walk_at "go"
      refine k_I h' ?_
      walk_at "go"
      refine ⟨x % y, Nat.mod_lt _ (by omega), y, x % y, ?_, rfl, s1, by rw [gcd_turn]; exact e⟩
      rw [← Int.natCast_emod]
      rfl
    · have h' : y = 0 := by
        have : ¬ (0 : Int) < (y : Int) := fun z => h (decide_eq_true z)
        omega
      subst h'
      rw [Nat.gcd_zero_right] at e
      have ok := redG_ok (u := u) w0 hw (by decide) (by decide)
      walk_at "go"
      refine ite2 (fun h2 => ?_) (fun h2 => ?_)
      · have h3 : (0 : Int) < w := of_decide_eq_true h2
        walk_at "go"
        rw [show ((x : Nat) : Int) = redG u w by rw [e, redG, if_neg (by omega)]]
        refine k_I ok ?_
        walk_at "go"
        refine k_I ok ?_
        walk_at "go"
        refine ⟨small64 (by simp), fun p hp => ?_⟩
        refine q _ _ (s1.trans (Same.new hp)) (FrN.from s1 ⟨p, rfl, hp, ?_⟩)
        rw [upd_same, red_up w0, red_down w0]
      · have h3 : ¬ (0 : Int) < w := fun z => h2 (decide_eq_true z)
        walk_at "go"
        rw [show -((x : Nat) : Int) = redG u w by rw [e, redG, if_pos (by omega)]]
        refine k_I ok ?_
        walk_at "go"
        refine k_I ok ?_
        walk_at "go"
        refine ⟨small64 (by simp), fun p hp => ?_⟩
        refine q _ _ (s1.trans (Same.new hp)) (FrN.from s1 ⟨p, rfl, hp, ?_⟩)
        rw [upd_same, red_up w0, red_down w0]
theorem ok_integer {f : Addr} {fd : FuncData} (F : Fun K "_law_integer" "_law_integer" s__law_integer f fd) (C__law_drop : Cal P w K mg base CX0 1 "_law_drop" spDraw) (C__law_pick : Cal P w K mg base CX0 2 "_law_pick" spPick) :
    FnG P w K mg base CX0 3 f fd ["cruet"] (spNum 3 (10 ^ 60)) := by
  refine okG0 F sc__law_integer (fun vs H Q E h => ?_) (fun cdv A outer s H vs Q E hG hr h => ?_)
  · obtain ⟨r, n, rfl, _⟩ := h
    rfl
  · obtain ⟨r, n, rfl, R, hn, q⟩ := h
    refine ⟨_, (pss_one (ps_ret (pe_f C__law_pick hG (hr.mono (by decide)) (by rfl) pass0 (pa_cons (pv 0) (pa_cons (pe_lst (pa_cons pe_int (pa_cons pe_int (pa_cons (pe_un un_neg pe_int) (pa_cons pe_int (pa_cons (pe_un un_neg pe_int) (pa_cons (pe_op op_sub (pe_f C__law_drop hG (hr.mono (by decide)) (by rfl) pass0 (pa_cons (pv 0) (pa_cons pe_int pa_nil))) pe_int) (pa_cons (pe_op op_sub (pe_op op_pow pe_int pe_int) (pe_f C__law_drop hG (hr.mono (by decide)) (by rfl) pass0 (pa_cons (pv 0) (pa_cons pe_int pa_nil)))) (pa_cons (pe_op op_mul pe_int (pe_op op_pow pe_int pe_int)) (pa_cons (pe_un un_neg (pe_op op_pow pe_int pe_int)) pa_nil)))))))))) pa_nil))))), ?_⟩
    try dsimp only [cxOf, Cx.nox, Cx.wish]
    walk_at "go"
    refine ⟨r, n, 90, rfl, R, by omega, by decide, by decide, fun H1 v1 g1 R1 a1 b1 => ?_⟩
    walk_at "go"
    refine k_I ⟨by decide, by decide, by decide⟩ ?_
    walk_at "go"
    refine ⟨r, n + 1, 9, rfl, R1, by omega, by decide, by decide, fun H2 v2 g2 R2 a2 b2 => ?_⟩
    walk_at "go"
    refine k_I ⟨by decide, by decide, by decide⟩ ?_
    walk_at "go"
    refine k_I (.inl ⟨by decide, by decide⟩) ?_
    walk_at "go"
    refine k_I ⟨by decide, by decide, by decide⟩ ?_
    walk_at "go"
    refine ⟨small64 (by simp), fun p3 hp3 => ?_⟩
    generalize hU : upd _ p3 _ = H3
    obtain ⟨s3, e3⟩ := upd_facts hU hp3
    clear hU
    have R3 := R2.same s3
    walk_at "go"
    refine ⟨r, p3, n + 2, _, rfl, R3, by omega, R2.ne hp3, e3, by simp, by simp, fun H4 v g4 R4 hv => ?_⟩
    walk_at "go"
    have g := g1.trans (g2.trans ((Gr.same s3).trans g4))
    simp only [List.mem_cons, List.not_mem_nil, or_false] at hv
    rcases hv with rfl | rfl | rfl | rfl | rfl | rfl | rfl | rfl | rfl
    all_goals refine q _ _ g R4 ?_
    all_goals try rw [show ((10 : Int) ^ (60 : Int).toNat) = 10 ^ 60 from rfl]
    all_goals first | decide | omega
end
end K03

namespace K03
open PySem PySem.Spec PyProof.Rows L2 Nd
abbrev s__law_both_right : Stmt := top 25
theorem sc__law_both_right : FnScope ["cruet", "one", "other", "a", "b", "c", "d", "passed", "kept", "due", "told", "named"] ["cruet", "one", "other"] (defScope s__law_both_right) := ⟨rfl, rfl, rfl, by decide +kernel, rfl, by decide +kernel, by decide +kernel⟩
def Mid (q : Rat) : Prop := q.num.natAbs ≤ 10 ^ 60 ∧ q.den ≤ 10 ^ 60
theorem Mid.sz {q : Rat} (h : Mid q) : Sz 3000 q := ⟨Nat.lt_of_le_of_lt h.1 (by decide +kernel), Nat.lt_of_le_of_lt h.2 (by decide +kernel)⟩
def Sm (q : Rat) : Prop := q.num.natAbs < 10 ^ 125 ∧ q.den < 10 ^ 125
theorem Mid.sm {q : Rat} (h : Mid q) : Sm q := ⟨Nat.lt_of_le_of_lt h.1 (by decide +kernel), Nat.lt_of_le_of_lt h.2 (by decide +kernel)⟩
theorem sm_of {q : Rat} (h : Sz 415 q) : Sm q := ⟨Nat.lt_of_lt_of_le h.1 (by decide +kernel), Nat.lt_of_lt_of_le h.2 (by decide +kernel)⟩
theorem Mid.s2 {q : Rat} (h : Mid q) : Sz 200 q := ⟨Nat.lt_of_le_of_lt h.1 (by decide +kernel), Nat.lt_of_le_of_lt h.2 (by decide +kernel)⟩
theorem sm_add {p q : Rat} (hp : Mid p) (hq : Mid q) : Sm (p + q) := sm_of ((hp.s2.add hq.s2).le (by decide))
theorem sm_sub {p q : Rat} (hp : Mid p) (hq : Mid q) : Sm (p - q) := sm_of ((hp.s2.sub hq.s2).le (by decide))
theorem sm_mul {p q : Rat} (hp : Mid p) (hq : Mid q) : Sm (p * q) := sm_of ((hp.s2.mul hq.s2).le (by decide))
/-! ### texts of data of such numbers -/
structure Tx (d : PyData) : Prop where
  sh : d.showable = true
  dp : d.depth ≤ 2
  lf : PyData.leavesShort 130 d = true
  wt : PyData.weight d ≤ 4000
theorem tx_int {i : Int} (h : i.natAbs < 10 ^ 125) : PyData.showable (.int i) = true ∧ PyData.leavesShort 130 (.int i) = true ∧ PyData.weight (.int i) ≤ 900 := by
  have l1 : i.natAbs.log2 < 420 := PySem.Flt.log2_lt_of (k := 420) (by decide) (Nat.lt_of_lt_of_le h (by decide +kernel))
  have b1 : (PyData.shown (.int i)).length ≤ 130 := by
    have e := int_text_length_le10 (k := 125) (by decide) h
    change (Str.ofString (toString i)).length ≤ 130
    rw [PySem.ofString_length]
    exact Nat.le_trans e (by decide)
  refine ⟨?_, ?_, ?_⟩
  · simp [PyData.showable]
    omega
  · simp [PyData.leavesShort, b1]
  · simp [PyData.weight]
    split <;> omega
theorem tx_fq {q : Rat} (h : Sm q) : Tx (fq q) := by
  obtain ⟨a1, a2, a3⟩ := tx_int h.1
  obtain ⟨b1, b2, b3⟩ := tx_int (i := (q.den : Int)) (by rw [Int.natAbs_natCast]; exact h.2)
  refine ⟨?_, ?_, ?_, ?_⟩
  · simp [fq, PyData.showable, PyData.showableAll] at a1 b1 ⊢
    exact ⟨a1, b1⟩
  · simp [fq, PyData.depth, PyData.depthAll]
  · simp [fq, PyData.leavesShort, PyData.leavesShortAll] at a2 b2 ⊢
    exact ⟨a2, b2⟩
  · have : PyData.weight (fq q) = PyData.weight (.list [.int q.num, .int (q.den : Int)]) := by simp [fq, PyData.weight]
    simp [PyData.weight, PyData.weightAll] at a3 b3 this ⊢
    omega
theorem isFq_cases {d : PyData} {q : Rat} (h : isFq d q) : d = fq q ∨ d = .list [.int q.num, .int (q.den : Int)] := by
  unfold isFq at h
  cases d <;> first | cases h | skip
  · exact .inr rfl
  · exact .inl rfl
theorem tx_isFq {d : PyData} {q : Rat} (i : isFq d q) (h : Sm q) : Tx d := by
  rcases isFq_cases i with rfl | rfl
  · exact tx_fq h
  obtain ⟨a1, a2, a3⟩ := tx_int h.1
  obtain ⟨b1, b2, b3⟩ := tx_int (i := (q.den : Int)) (by rw [Int.natAbs_natCast]; exact h.2)
  refine ⟨?_, ?_, ?_, ?_⟩
  · simp [PyData.showable, PyData.showableAll] at a1 b1 ⊢
    exact ⟨a1, b1⟩
  · simp [PyData.depth, PyData.depthAll]
  · simp [PyData.leavesShort, PyData.leavesShortAll] at a2 b2 ⊢
    exact ⟨a2, b2⟩
  · simp [PyData.weight, PyData.weightAll] at a3 b3 ⊢
    omega
theorem tx_bl (b : Bool) : Tx (.bool b) := by
  cases b
  all_goals exact ⟨by decide, by decide, by decide +kernel, by decide⟩
def TxAll : List PyData → Prop
  | [] => True
  | d :: ds => Tx d ∧ TxAll ds
theorem txs_show : ∀ {ds : List PyData}, TxAll ds → PyData.showableAll ds = true
  | [], _ => by simp [PyData.showableAll]
  | d :: ds, h => by simp [PyData.showableAll, h.1.sh, txs_show h.2]
theorem txs_dep : ∀ {ds : List PyData}, TxAll ds → PyData.depthAll ds ≤ 2
  | [], _ => by simp [PyData.depthAll]
  | d :: ds, h => by
    have a := h.1.dp
    have b := txs_dep h.2
    simp [PyData.depthAll]
    omega
theorem txs_lf : ∀ {ds : List PyData}, TxAll ds → PyData.leavesShortAll 130 ds = true
  | [], _ => by simp [PyData.leavesShortAll]
  | d :: ds, h => by simp [PyData.leavesShortAll, h.1.lf, txs_lf h.2]
theorem txs_wt : ∀ {ds : List PyData}, TxAll ds → PyData.weightAll ds ≤ 4010 * ds.length
  | [], _ => by simp [PyData.weightAll]
  | d :: ds, h => by
    have a := h.1.wt
    have b := txs_wt h.2
    simp [PyData.weightAll]
    omega
theorem reps {ds : List PyData} (hn : ds.length ≤ 10) (h : TxAll ds) : PyData.showable (.list ds) = true ∧ PyData.depth (.list ds) ≤ 60 ∧ (PyData.shown (.list ds)).length ≤ sizeLine := by
  refine ⟨?_, ?_, ?_⟩
  · have := txs_show h
    simp [PyData.showable, this]
  · have := txs_dep h
    simp [PyData.depth]
    omega
  · have a := PyData.shown_le 130 (by decide) (.list ds) (by
      have := txs_lf h
      simp [PyData.leavesShort, this])
    have b : PyData.weight (.list ds) ≤ 50000 := by
      have := txs_wt h
      simp [PyData.weight]
      omega
    exact Nat.le_trans a (Nat.le_trans (Nat.add_le_add_right (Nat.mul_le_mul_left _ b) _) (show (130 + 2) * 50000 + 130 ≤ sizeLine by decide))
theorem ife_via {c : Bool} {A B : VK → Prop} {Q : VK} (R : VK) (h1 : c = true → ∀ Q' : VK, (∀ v H', R v H' → Q' v H') → A Q') (h2 : c = false → ∀ Q' : VK, (∀ v H', R v H' → Q' v H') → B Q') (fin : ∀ v H', R v H' → Q v H') : if c = true then A Q else B Q := by
  cases c with
  | true => exact h1 rfl Q fin
  | false => exact h2 rfl Q fin
theorem isFq_nd {d : PyData} {q : Rat} (i : isFq d q) : d.hasDict = false := by
  rcases isFq_cases i with rfl | rfl
  · simp [fq, PyData.hasDict, PyData.hasDictAll]
  · simp [PyData.hasDict, PyData.hasDictAll]
def spAny (f : Rat → Rat → Rat) : Sp := fun vs H Q _ => ∃ (r : Addr) (v w : V) (d e : PyData) (p q : Rat), vs = [v, w] ∧ Dr r H v d ∧ Dr r H w e ∧ isFq d p ∧ isFq e q ∧ Mid p ∧ Mid q ∧ ∀ H' x, Same H H' → FrN H H' x (f p q) → Q x H'
def spBelowA : Sp := fun vs H Q _ => ∃ (r : Addr) (v w : V) (d e : PyData) (p q : Rat), vs = [v, w] ∧ Dr r H v d ∧ Dr r H w e ∧ isFq d p ∧ isFq e q ∧ Mid p ∧ Mid q ∧ ∀ H', Same H H' → Q (.bl (decide (p < q))) H'
theorem isFq_inj {d : PyData} {p q : Rat} (h : isFq d p) (h2 : isFq d q) : p = q := by
  unfold isFq at h h2
  rw [h] at h2
  exact fq_inj (isFq_two (p := p) (a := q) h2)
theorem spAny_of {C : Addr} {f : Rat → Rat → Rat} {vs : List V} {H : Hp} {Q : VK} {E : XK} (h : spAny f vs H Q E) : spBinX C f vs H Q E := by
  obtain ⟨r, v, w, d, e, p, q, rfl, hd, he, ip, iq, mp, mq, k⟩ := h
  refine ⟨r, v, w, d, e, rfl, hd, he, isFq_len ip, isFq_len iq, fun a b e1 e2 => ?_, fun z => ?_, fun _ z => ?_⟩
  · obtain rfl := isFq_inj ip e1
    obtain rfl := isFq_inj iq e2
    exact ⟨mp.sz, mq.sz, k⟩
  · rw [isFq_frac ip] at z
    cases z
  · rw [isFq_frac iq] at z
    cases z
theorem spBelowA_of {C : Addr} {vs : List V} {H : Hp} {Q : VK} {E : XK} (h : spBelowA vs H Q E) : spBelowX C vs H Q E := by
  obtain ⟨r, v, w, d, e, p, q, rfl, hd, he, ip, iq, mp, mq, k⟩ := h
  refine ⟨r, v, w, d, e, rfl, hd, he, isFq_len ip, isFq_len iq, fun a b e1 e2 => ?_, fun z => ?_, fun _ z => ?_⟩
  · obtain rfl := isFq_inj ip e1
    obtain rfl := isFq_inj iq e2
    exact ⟨mp.sz, mq.sz, k⟩
  · rw [isFq_frac ip] at z
    cases z
  · rw [isFq_frac iq] at z
    cases z
def spBoth : Sp := fun vs H Q _ => ∃ (r : Addr) (n : Nat) (v w : V) (p q : Rat), vs = [.ref r, v, w] ∧ Rid r n H ∧ n + 1 < 1000000 ∧ Fr r H v p ∧ Fr r H w q ∧ Mid p ∧ Mid q ∧ ∀ H', Gr r H H' → Rid r (n + 1) H' → Q (.bl true) H'
section
variable {P : Program} {w : World} {K : PySem.W.Frag} {mg : Str → Option Value} {base : Heap}
theorem ok_both {f : Addr} {fd : FuncData} (F : Fun K "_law_both_right" "_law_both_right" s__law_both_right f fd) (T : TxtC mg) (C__law_drop : Cal P w K mg base CX0 1 "_law_drop" spDraw) (C__law_least : Cal P w K mg base CX0 1 "_law_least" spLeast)
    (C_added : Cal P w K mg base CX0 6 "added" (spAny (· + ·))) (C_less : Cal P w K mg base CX0 6 "less" (spAny (· - ·))) (C_multiplied : Cal P w K mg base CX0 6 "multiplied" (spAny (· * ·))) (C_below : Cal P w K mg base CX0 6 "below" spBelowA)
    (CK_added_other_one : CalK P w K mg base CX0 6 "added" ["other", "one"] [1, 0] (spAny (· + ·))) (CK_less_other_one : CalK P w K mg base CX0 6 "less" ["other", "one"] [1, 0] (spAny (· - ·))) (CK_multiplied_other_one : CalK P w K mg base CX0 6 "multiplied" ["other", "one"] [1, 0] (spAny (· * ·))) (CK_below_other_one : CalK P w K mg base CX0 6 "below" ["other", "one"] [1, 0] spBelowA) :
    FnG P w K mg base CX0 7 f fd ["cruet", "one", "other"] spBoth := by
  refine okG0 F sc__law_both_right (fun vs H Q E h => ?_) (fun cdv A outer s H vs Q E hG hr h => ?_)
  · obtain ⟨r, n, v, w, p, q, rfl, _⟩ := h
    rfl
  · obtain ⟨r, n, v, w, p, q, rfl, R, hn, hp, hq, mp, mq, k⟩ := h
    refine ⟨_, (pss_cons (ps_asg (pe_tup (pa_cons (pv 1) (pa_cons (pv 2) pa_nil))) (pg_tup (by rfl) (pgs_cons (pg_tup (by rfl) (pgs_cons (pg_name (i := 3) sc__law_both_right.nd rfl (.inl rfl)) (pgs_cons (pg_name (i := 4) sc__law_both_right.nd rfl (.inl rfl)) pgs_nil))) (pgs_cons (pg_tup (by rfl) (pgs_cons (pg_name (i := 5) sc__law_both_right.nd rfl (.inl rfl)) (pgs_cons (pg_name (i := 6) sc__law_both_right.nd rfl (.inl rfl)) pgs_nil))) pgs_nil))))
      (pss_cons (ps_set (i := 7) sc__law_both_right.nd rfl (.inl rfl) (pe_ifExp (pt_cmpR op_eq (pe_f C__law_drop hG (hr.mono (by decide)) (by rfl) pass0 (pa_cons (pv 0) (pa_cons pe_int pa_nil))) pe_int (nomark _)) (pe_lst (pa_cons (pe_callTy call_list_of (by rfl) T.m_list (by decide +kernel) (pa_cons (pv 1) pa_nil)) (pa_cons (pe_callTy call_list_of (by rfl) T.m_list (by decide +kernel) (pa_cons (pv 2) pa_nil)) pa_nil))) (pe_lst (pa_cons (pv 1) (pa_cons (pv 2) pa_nil)))))
      (pss_cons (ps_set (i := 8) sc__law_both_right.nd rfl (.inl rfl) (pe_callB (id := "repr") (cr_repr hG hr) (by rfl) T.m_repr (by decide +kernel) (pa_cons (pv 7) pa_nil)))
      (pss_cons (ps_set (i := 9) sc__law_both_right.nd rfl (.inl rfl) (pe_lst (pa_cons (pe_f C__law_least hG (hr.mono (by decide)) (by rfl) pass0 (pa_cons (pe_op op_add (pe_op op_mulW (pv 3) (pv 6)) (pe_op op_mulW (pv 5) (pv 4))) (pa_cons (pe_op op_mulW (pv 4) (pv 6)) pa_nil))) (pa_cons (pe_f C__law_least hG (hr.mono (by decide)) (by rfl) pass0 (pa_cons (pe_op op_sub (pe_op op_mulW (pv 3) (pv 6)) (pe_op op_mulW (pv 5) (pv 4))) (pa_cons (pe_op op_mulW (pv 4) (pv 6)) pa_nil))) (pa_cons (pe_f C__law_least hG (hr.mono (by decide)) (by rfl) pass0 (pa_cons (pe_op op_mulW (pv 3) (pv 5)) (pa_cons (pe_op op_mulW (pv 4) (pv 6)) pa_nil))) (pa_cons (pe_cmpR op_lt (pe_op op_mulW (pv 3) (pv 6)) (pe_op op_mulW (pv 5) (pv 4)) (nomark _)) pa_nil))))))
      (pss_cons (ps_set (i := 10) sc__law_both_right.nd rfl (.inl rfl) (pe_lst (pa_cons (pe_f C_added hG (hr.mono (by decide)) (by rfl) pass0 (pa_cons (pe_ix ix_list (pv 7) pe_int (fun _ _ => rfl)) (pa_cons (pe_ix ix_list (pv 7) pe_int (fun _ _ => rfl)) pa_nil))) (pa_cons (pe_f C_less hG (hr.mono (by decide)) (by rfl) pass0 (pa_cons (pe_ix ix_list (pv 7) pe_int (fun _ _ => rfl)) (pa_cons (pe_ix ix_list (pv 7) pe_int (fun _ _ => rfl)) pa_nil))) (pa_cons (pe_f C_multiplied hG (hr.mono (by decide)) (by rfl) pass0 (pa_cons (pe_ix ix_list (pv 7) pe_int (fun _ _ => rfl)) (pa_cons (pe_ix ix_list (pv 7) pe_int (fun _ _ => rfl)) pa_nil))) (pa_cons (pe_f C_below hG (hr.mono (by decide)) (by rfl) pass0 (pa_cons (pe_ix ix_list (pv 7) pe_int (fun _ _ => rfl)) (pa_cons (pe_ix ix_list (pv 7) pe_int (fun _ _ => rfl)) pa_nil))) pa_nil))))))
      (pss_cons (ps_set (i := 11) sc__law_both_right.nd rfl (.inl rfl) (pe_lst (pa_cons (pe_kw CK_added_other_one hG (hr.mono (by decide)) (by rfl) pass0 (pk_cons (pv 2) (pk_cons (pv 1) pk_nil))) (pa_cons (pe_kw CK_less_other_one hG (hr.mono (by decide)) (by rfl) pass0 (pk_cons (pv 2) (pk_cons (pv 1) pk_nil))) (pa_cons (pe_kw CK_multiplied_other_one hG (hr.mono (by decide)) (by rfl) pass0 (pk_cons (pv 2) (pk_cons (pv 1) pk_nil))) (pa_cons (pe_kw CK_below_other_one hG (hr.mono (by decide)) (by rfl) pass0 (pk_cons (pv 2) (pk_cons (pv 1) pk_nil))) pa_nil))))))
      (pss_one (ps_ret (pe_and (pe_cmpR op_eq (pe_callB (id := "repr") (cr_repr hG hr) (by rfl) T.m_repr (by decide +kernel) (pa_cons (pv 10) pa_nil)) (pe_callB (id := "repr") (cr_repr hG hr) (by rfl) T.m_repr (by decide +kernel) (pa_cons (pv 9) pa_nil)) (nomark _)) (pe_and (pe_cmpR op_eq (pe_callB (id := "repr") (cr_repr hG hr) (by rfl) T.m_repr (by decide +kernel) (pa_cons (pv 11) pa_nil)) (pe_callB (id := "repr") (cr_repr hG hr) (by rfl) T.m_repr (by decide +kernel) (pa_cons (pv 9) pa_nil)) (nomark _)) (pe_one (pe_cmpR op_eq (pe_callB (id := "repr") (cr_repr hG hr) (by rfl) T.m_repr (by decide +kernel) (pa_cons (pv 7) pa_nil)) (pv 8) (nomark _))))))))))))), ?_⟩
    try dsimp only [cxOf, Cx.nox, Cx.wish]
    obtain ⟨a1, rfl, na1, ea1⟩ := id hp
    obtain ⟨a2, rfl, na2, ea2⟩ := id hq
    walk_at "ga"
    refine ⟨small64 (by simp), fun pt hpt => ?_⟩
    generalize hU : upd _ pt _ = H1
    obtain ⟨s1, e1⟩ := upd_facts hU hpt
    clear hU
    refine k_gtup (.inl (.inl e1)) rfl ?_
    walk_at "ga"
    refine k_gtup (.inl (.inl (s1 _ _ ea1))) rfl ?_
    walk_at "ga"
    refine k_gtup (.inl (.inl (s1 _ _ ea2))) rfl ?_
    walk_at "ga"
    refine k_ife ?_
    walk_at "ga"
    have ea1 := s1 _ _ ea1
    have ea2 := s1 _ _ ea2
    replace hp := hp.same s1
    replace hq := hq.same s1
    have R1 := R.same s1
    refine ⟨r, n, 2, rfl, R1, by omega, by decide, by decide, fun H2 v2 g2 R2 _ _ => ?_⟩
    walk_at "ga"
    have ea1 := g2.all _ _ na1 ea1
    have ea2 := g2.all _ _ na2 ea2
    replace hp := hp.gr g2
    replace hq := hq.gr g2
    refine ife_via (fun v H' => ∃ (pp : Addr) (x y : V) (d e : PyData), v = .ref pp ∧ Same H2 H' ∧ H' pp = some (.lst [x, y]) ∧ Dr r H' x d ∧ Dr r H' y e ∧ isFq d p ∧ isFq e q) (fun _ Q' hQ => ?_) (fun _ Q' hQ => ?_) (fun vv H3 hv => ?_)
    · walk_at "ga"
      refine ⟨a1, _, rfl, .inr (.inl (.inl ea1)), fun l1 hl1 => ?_⟩
      generalize hU : upd H2 l1 _ = Ha
      obtain ⟨sa, eA⟩ := upd_facts hU hl1
      clear hU
      walk_at "ga"
      refine ⟨a2, _, rfl, .inr (.inl (.inl (sa _ _ ea2))), fun l2 hl2 => ?_⟩
      generalize hU : upd Ha l2 _ = Hb
      obtain ⟨sb, eB⟩ := upd_facts hU hl2
      clear hU
      walk_at "ga"
      refine ⟨small64 (by simp), fun pp hpp => ?_⟩
      generalize hU : upd _ pp _ = Hc
      obtain ⟨sc, ec⟩ := upd_facts hU hpp
      clear hU
      refine hQ _ _ ⟨pp, _, _, .list [.int p.num, .int (p.den : Int)], .list [.int q.num, .int (q.den : Int)], rfl, sa.trans (sb.trans sc), ec, ?_, ?_, rfl, rfl⟩
      · exact .lst (R2.ne hl1) (sc _ _ (sb _ _ eA)) (.cons (.int _) (.cons (.int _) .nil))
      · exact .lst ((R2.same sa).ne hl2) (sc _ _ eB) (.cons (.int _) (.cons (.int _) .nil))
    · walk_at "ga"
      refine ⟨small64 (by simp), fun pp hpp => ?_⟩
      generalize hU : upd _ pp _ = Hc
      obtain ⟨sc, ec⟩ := upd_facts hU hpp
      clear hU
      exact hQ _ _ ⟨pp, _, _, fq p, fq q, rfl, sc, ec, (hp.same sc).dr, (hq.same sc).dr, isFq_fq p, isFq_fq q⟩
    obtain ⟨pp, x, y, d, e, rfl, s3, ep, hx, hy, ix, iy⟩ := hv
    have R3 := R2.same s3
    have rp := reps (ds := [d, e]) (show (2 : Nat) ≤ 10 by decide) ⟨tx_isFq ix mp.sm, tx_isFq iy mq.sm, trivial⟩
    have nx := isFq_nd ix
    have ny := isFq_nd iy
    walk_at "ga"
    refine k_repr (.lst (.inl (.inl ep)) (.cons (hx.dp nx) (.cons (hy.dp ny) .nil))) rp.1 rp.2.1 rp.2.2 ?_
    obtain ⟨kept, hk⟩ : ∃ kept, kept = PyData.shown (.list [d, e]) := ⟨_, rfl⟩
    rw [← hk]
    walk_at "ga"
    refine k_I (wide_mul mp.s2.1 (lt_two _ mq.s2.2) (by decide) (by decide) (by decide)) ?_
    walk_at "ga"
    refine k_I (wide_mul mq.s2.1 (lt_two _ mp.s2.2) (by decide) (by decide) (by decide)) ?_
    walk_at "ga"
    refine k_I (wide_mul (lt_two _ mp.s2.2) (lt_two _ mq.s2.2) (by decide) (by decide) (by decide)) ?_
    walk_at "ga"
    refine ⟨_, _, rfl, den_ne p q, up_lt (n := 200 + 200) (by decide) (wide_lt (lt_two _ mp.s2.2) (lt_two _ mq.s2.2)), fun H4 x4 s4 h4 => ?_⟩
    rw [← add_divInt] at h4
    walk_at "ga"
    refine k_I (wide_mul mp.s2.1 (lt_two _ mq.s2.2) (by decide) (by decide) (by decide)) ?_
    walk_at "ga"
    refine k_I (wide_mul mq.s2.1 (lt_two _ mp.s2.2) (by decide) (by decide) (by decide)) ?_
    walk_at "ga"
    refine k_I (wide_mul (lt_two _ mp.s2.2) (lt_two _ mq.s2.2) (by decide) (by decide) (by decide)) ?_
    walk_at "ga"
    refine ⟨_, _, rfl, den_ne p q, up_lt (n := 200 + 200) (by decide) (wide_lt (lt_two _ mp.s2.2) (lt_two _ mq.s2.2)), fun H5 x5 s5 h5 => ?_⟩
    rw [← sub_divInt] at h5
    walk_at "ga"
    refine k_I (wide_mul mp.s2.1 mq.s2.1 (by decide) (by decide) (by decide)) ?_
    walk_at "ga"
    refine k_I (wide_mul (lt_two _ mp.s2.2) (lt_two _ mq.s2.2) (by decide) (by decide) (by decide)) ?_
    walk_at "ga"
    refine ⟨_, _, rfl, den_ne p q, up_lt (n := 200 + 200) (by decide) (wide_lt (lt_two _ mp.s2.2) (lt_two _ mq.s2.2)), fun H6 x6 s6 h6 => ?_⟩
    rw [← mul_divInt] at h6
    walk_at "ga"
    refine k_I (wide_mul mp.s2.1 (lt_two _ mq.s2.2) (by decide) (by decide) (by decide)) ?_
    walk_at "ga"
    refine k_I (wide_mul mq.s2.1 (lt_two _ mp.s2.2) (by decide) (by decide) (by decide)) ?_
    walk_at "ga"
    rw [show decide (p.num * (q.den : Int) < q.num * (p.den : Int)) = decide (p < q) from decide_eq_decide.mpr (Rat.lt_iff p q).symm]
    refine ⟨small64 (by simp), fun pd hpd => ?_⟩
    generalize hU : upd _ pd _ = H7
    obtain ⟨s7, e7⟩ := upd_facts hU hpd
    clear hU
    walk_at "ga"
    have s37 := s4.trans (s5.trans (s6.trans s7))
    replace ep := s37 _ _ ep
    replace hx := hx.same s37
    replace hy := hy.same s37
    refine k_ixL (.inl (.inl ep)) rfl ?_
    walk_at "ga"
    refine k_ixL (.inl (.inl ep)) rfl ?_
    walk_at "ga"
    refine ⟨r, x, y, d, e, p, q, rfl, hx, hy, ix, iy, mp, mq, fun H8 x8 s8 h8 => ?_⟩
    replace ep := s8 _ _ ep
    replace hx := hx.same s8
    replace hy := hy.same s8
    walk_at "ga"
    refine k_ixL (.inl (.inl ep)) rfl ?_
    walk_at "ga"
    refine k_ixL (.inl (.inl ep)) rfl ?_
    walk_at "ga"
    refine ⟨r, x, y, d, e, p, q, rfl, hx, hy, ix, iy, mp, mq, fun H9 x9 s9 h9 => ?_⟩
    replace ep := s9 _ _ ep
    replace hx := hx.same s9
    replace hy := hy.same s9
    walk_at "ga"
    refine k_ixL (.inl (.inl ep)) rfl ?_
    walk_at "ga"
    refine k_ixL (.inl (.inl ep)) rfl ?_
    walk_at "ga"
    refine ⟨r, x, y, d, e, p, q, rfl, hx, hy, ix, iy, mp, mq, fun H10 x10 s10 h10 => ?_⟩
    replace ep := s10 _ _ ep
    replace hx := hx.same s10
    replace hy := hy.same s10
    walk_at "ga"
    refine k_ixL (.inl (.inl ep)) rfl ?_
    walk_at "ga"
    refine k_ixL (.inl (.inl ep)) rfl ?_
    walk_at "ga"
    refine ⟨r, x, y, d, e, p, q, rfl, hx, hy, ix, iy, mp, mq, fun H11 s11 => ?_⟩
    replace ep := s11 _ _ ep
    replace hx := hx.same s11
    replace hy := hy.same s11
    walk_at "ga"
    refine ⟨small64 (by simp), fun pw hpw => ?_⟩
    generalize hU : upd _ pw _ = H12
    obtain ⟨s12, e12⟩ := upd_facts hU hpw
    clear hU
    walk_at "ga"
    have s312 := s3.trans (s37.trans (s8.trans (s9.trans (s10.trans (s11.trans s12)))))
    replace hp := hp.same s312
    replace hq := hq.same s312
    refine ⟨r, .ref a1, .ref a2, fq p, fq q, p, q, rfl, hp.dr, hq.dr, isFq_fq p, isFq_fq q, mp, mq, fun H13 x13 s13 h13 => ?_⟩
    replace hp := hp.same s13
    replace hq := hq.same s13
    walk_at "ga"
    refine ⟨r, .ref a1, .ref a2, fq p, fq q, p, q, rfl, hp.dr, hq.dr, isFq_fq p, isFq_fq q, mp, mq, fun H14 x14 s14 h14 => ?_⟩
    replace hp := hp.same s14
    replace hq := hq.same s14
    walk_at "ga"
    refine ⟨r, .ref a1, .ref a2, fq p, fq q, p, q, rfl, hp.dr, hq.dr, isFq_fq p, isFq_fq q, mp, mq, fun H15 x15 s15 h15 => ?_⟩
    replace hp := hp.same s15
    replace hq := hq.same s15
    walk_at "ga"
    refine ⟨r, .ref a1, .ref a2, fq p, fq q, p, q, rfl, hp.dr, hq.dr, isFq_fq p, isFq_fq q, mp, mq, fun H16 s16 => ?_⟩
    replace hp := hp.same s16
    replace hq := hq.same s16
    walk_at "ga"
    refine ⟨small64 (by simp), fun pn hpn => ?_⟩
    generalize hU : upd _ pn _ = H17
    obtain ⟨s17, e17⟩ := upd_facts hU hpn
    clear hU
    walk_at "ga"
    have R7 := R3.same s37
    have R8 := R7.same s8
    have R9 := R8.same s9
    have R12 := R9.same (s10.trans (s11.trans s12))
    have R13 := R12.same s13
    have R14 := R13.same s14
    have R15 := R14.same s15
    have t16 := s16.trans s17
    have t15 := s15.trans t16
    have t14 := s14.trans t15
    have t13 := s13.trans t14
    have t12 := s12.trans t13
    have t11 := s11.trans t12
    have t10 := s10.trans t11
    have t9 := s9.trans t10
    have t8 := s8.trans t9
    have t7 := s7.trans t8
    have t6 := s6.trans t7
    have t5 := s5.trans t6
    have R17 := R15.same t16
    have ds : TxAll [fq (p + q), fq (p - q), fq (p * q), .bool (decide (p < q))] := ⟨tx_fq (sm_add mp mq), tx_fq (sm_sub mp mq), tx_fq (sm_mul mp mq), tx_bl _, trivial⟩
    obtain ⟨dd, hdd⟩ : ∃ dd, dd = PyData.list [fq (p + q), fq (p - q), fq (p * q), .bool (decide (p < q))] := ⟨_, rfl⟩
    have rq := reps (by simp) ds
    have dDue : Dp K H17 (.ref pd) dd := by
      rw [hdd]
      exact .lst (.inl (.inl (t8 _ _ e7))) (.cons ((h4.fr R3).same t5).dp (.cons ((h5.fr (R3.same s4)).same t6).dp (.cons ((h6.fr ((R3.same s4).same s5)).same t7).dp (.cons (.bl _) .nil))))
    have dTold : Dp K H17 (.ref pw) dd := by
      rw [hdd]
      exact .lst (.inl (.inl (t13 _ _ e12))) (.cons ((h8.fr R7).same t9).dp (.cons ((h9.fr R8).same t10).dp (.cons ((h10.fr R9).same t11).dp (.cons (.bl _) .nil))))
    have dNamed : Dp K H17 (.ref pn) dd := by
      rw [hdd]
      exact .lst (.inl (.inl e17)) (.cons ((h13.fr R12).same t14).dp (.cons ((h14.fr R13).same t15).dp (.cons ((h15.fr R14).same t16).dp (.cons (.bl _) .nil))))
    rw [← hdd] at rq
    have ep17 := t13 _ _ (s12 _ _ ep)
    have hx17 := hx.same t12
    have hy17 := hy.same t12
    have gAll : Gr r H H17 := (Gr.same s1).trans (g2.trans ((Gr.same s3).trans ((Gr.same s4).trans (Gr.same t5))))
    clear hdd ds h4 h5 h6 h8 h9 h10 h13 h14 h15 e7 e12 e17 t5 t6 t7 t8 t9 t10 t11 t12 t13 t14 t15 t16 s3 s4 s5 s6 s7 s8 s9 s10 s11 s12 s13 s14 s15 s16 s17 s37 s312 ep hx hy R7 R8 R9 R12 R13 R14 R15 R3 R2 R1 hp hq ea1 ea2
    refine k_andV ?_
    walk_at "ga"
    refine k_repr dTold rq.1 rq.2.1 rq.2.2 ?_
    walk_at "ga"
    refine k_repr dDue rq.1 rq.2.1 rq.2.2 ?_
    obtain ⟨z, hz⟩ : ∃ z, z = PyData.shown dd := ⟨_, rfl⟩
    rw [← hz]
    walk_at "ga"
    refine ite_t (by simp) ?_
    refine k_andV ?_
    walk_at "ga"
    refine k_repr dNamed rq.1 rq.2.1 rq.2.2 ?_
    walk_at "ga"
    refine k_repr dDue rq.1 rq.2.1 rq.2.2 ?_
    rw [← hz]
    walk_at "ga"
    refine ite_t (by simp) ?_
    walk_at "ga"
    refine k_repr (.lst (.inl (.inl ep17)) (.cons (hx17.dp nx) (.cons (hy17.dp ny) .nil))) rp.1 rp.2.1 rp.2.2 ?_
    rw [← hk]
    walk_at "ga"
    rw [show decide (V.str kept = V.str kept) = true by simp]
    exact k _ gAll R17
end
end K03

namespace K03
open PySem PySem.Spec PyProof.Rows L2 Nd LamX
abbrev s__law_heard : Stmt := top 24
theorem sc__law_heard : FnScope ["ask", "caught", "error"] ["ask"] (defScope s__law_heard) := ⟨rfl, rfl, rfl, by decide +kernel, rfl, by decide +kernel, by decide +kernel⟩
theorem gives_part {X : Cx} {C B g : Addr} {cdg : Value} {q z : Str} {k : Nat} (T : ErrT X.K X.mg "BadNumber" "HandError" C B) (mi : X.mg "isinstance" = none) :
    GivesG X ["ask", "caught", "error"] "_law_heard" (defScope s__law_heard) g cdg (defBody s__law_heard) "ask" q k (TTpart C z) := by
  intro f c' s H Q tl act hc hr h
  have cHE : ∃ u, X.mg "HandError" = some u ∧ RelV (.ref B) u := ⟨_, T.gB, rfl⟩
  have cBN : ∃ u, X.mg "BadNumber" = some u ∧ RelV (.ref C) u := ⟨_, T.gC, rfl⟩
  refine ⟨_, (pss_cons (ps_set (i := 1) sc__law_heard.nd rfl (.inl rfl) pe_non)
      (pss_cons (ps_tryX (c := .ref B) (i := 2) (tb := fun W => tDrop (fun σZ HZ Q => σZ[0]? = some (some (.ref f)) ∧ HZ c' = some (CodeO c' q) ∧ tl (fun cls d H' => W cls d σZ H') HZ Q)) (ts := fun _ _ _ => tAsg (tVar 2) (gName 1)) rfl rfl rfl sc__law_heard.nd rfl (by rfl) ⟨by rfl, by decide, .inl T.gB⟩
          (fun W pn xe tk _ => pss_one (ps_expr (act W pn xe _ _ tk))) (fun a ob cls d pn _ _ => pss_one (ps_asg (pv 2) (pg_name (i := 1) sc__law_heard.nd rfl (.inl rfl)))))
      (pss_cons (ps_if (pt_val (pe_callB (id := "isinstance") call_isX (by rfl) mi (by decide +kernel) (pa_cons (pv 1) (pa_cons (C8.pe_gc rfl cBN) pa_nil)))) (pss_one (ps_ret (pe_xg (pv 1)))) pss_nil)
      (pss_one (ps_ret (pe_ifExp (pt_cmpR op_isN (pv 1) pe_non (nomark _)) pe_non pe_str)))))), ?_⟩
  try dsimp only [cxOf, Cx.nox, Cx.wish]
  walk_at "go"
  refine ⟨hc, h _ fun d H' e kk => ⟨T.exm, fun a na => ?_⟩⟩
  walk_at "go"
  have ed : (upd H' a (ExV (.ref C) (some d) a)) d = some (.xd [("part", .str z)]) := (upd_ne (ne_of_none e na)).trans e
  refine ⟨a, C, d, _, _, _, _, rfl, upd_same, ed, T.exc, T.cls, fun u r => r, by unfold PySem.W.kitOne; exact if_pos (by simp), ?_⟩
  walk_at "go"
  refine iteT ?_
  walk_at "go"
  refine k_xg ?_
  walk_at "go"
  refine ⟨a, C, d, _, .str z, rfl, upd_same, ed, T.xf, T.noP, by simp [List.lookup], ?_⟩
  walk_at "go"
  exact kk _ (Same.new na)
theorem tells_part {P : Program} {w : World} {K : PySem.W.Frag} {mg : Str → Option Value} {base : Heap} {f C B : Addr} {fd : FuncData} {k : Nat} (F : Fun K "_law_heard" "_law_heard" s__law_heard f fd) (gm : mg "_law_heard" = some (.ref f)) (kp : PySem.W.keepIn K (.ref f) = true) (hb : Binds K fd ["ask"] [])
    (T : ErrT K mg "BadNumber" "HandError" C B) (mi : mg "isinstance" = none) : Tells P w K mg base "_law_heard" k (TTpart C) := by
  obtain ⟨oc, od, kV, doc, pm, an, cdv, ct, osl, rfl, lk, hcd⟩ := F.ex
  refine ⟨f, "ask", _, _, _, _, kV, doc, pm, cdv, ct, oc, an, od, osl, ["ask", "caught", "error"], gm, kp, lk, hcd, hb, sc__law_heard, rfl, by exact .inl rfl, by decide, by decide, fun X q z e1 e2 e3 e4 e5 _ => ?_⟩
  subst e1
  subst e2
  subst e3
  subst e4
  subst e5
  exact gives_part T mi
end K03

namespace K03
open PySem PySem.Spec PyProof.Rows L2 Nd LamX
abbrev s__law_refused_right : Stmt := top 26
theorem sc__law_refused_right : FnScope ["cruet", "one", "heard", "ask", "none", "odd", "wrong"] ["cruet", "one"] (defScope s__law_refused_right) := ⟨rfl, rfl, rfl, by decide +kernel, rfl, by decide +kernel, by decide +kernel⟩
def spRefuse (C : Addr) : Sp := fun vs H Q E => ∃ (r : Addr) (v w : V) (d e : PyData), vs = [v, w] ∧ Dr r H v d ∧ Dr r H w e ∧ lenOk d ∧ lenOk e ∧ (fracD d = false ∧ Outs E C "one" H ∨ fracD d = true ∧ fracD e = false ∧ Outs E C "other" H)
theorem spRefuse_bin {C : Addr} {f : Rat → Rat → Rat} {vs : List V} {H : Hp} {Q : VK} {E : XK} (h : spRefuse C vs H Q E) : spBinX C f vs H Q E := by
  obtain ⟨r, v, w, d, e, rfl, hd, he, ld, le, z⟩ := h
  refine ⟨r, v, w, d, e, rfl, hd, he, ld, le, fun p q ip iq => ?_, fun f1 => ?_, fun f1 f2 => ?_⟩
  · rcases z with ⟨z, _⟩ | ⟨_, z, _⟩
    · rw [isFq_frac ip] at z
      cases z
    · rw [isFq_frac iq] at z
      cases z
  · rcases z with ⟨_, o⟩ | ⟨z, _, _⟩
    · exact o
    · rw [f1] at z
      cases z
  · rcases z with ⟨z, _⟩ | ⟨_, _, o⟩
    · rw [f1] at z
      cases z
    · exact o
theorem spRefuse_below {C : Addr} {vs : List V} {H : Hp} {Q : VK} {E : XK} (h : spRefuse C vs H Q E) : spBelowX C vs H Q E := by
  obtain ⟨r, v, w, d, e, rfl, hd, he, ld, le, z⟩ := h
  refine ⟨r, v, w, d, e, rfl, hd, he, ld, le, fun p q ip iq => ?_, fun f1 => ?_, fun f1 f2 => ?_⟩
  · rcases z with ⟨z, _⟩ | ⟨_, z, _⟩
    · rw [isFq_frac ip] at z
      cases z
    · rw [isFq_frac iq] at z
      cases z
  · rcases z with ⟨_, o⟩ | ⟨z, _, _⟩
    · exact o
    · rw [f1] at z
      cases z
  · rcases z with ⟨z, _⟩ | ⟨_, _, o⟩
    · rw [f1] at z
      cases z
    · exact o
theorem extPut {H H1 : Hp} {D : Addr} {o : HO} (x : ExtN H H1) (n : H D = none) : ExtN H (upd H1 D o) := fun b u e nt => (upd_ne (ne_of_none e n)).trans (x b u e nt)
def S3 : List V := [.str "one", .str "other", .str "one"]
def D3 : PyData := .list [.str "one", .str "other", .str "one"]
def Hd (H : Hp) (D : Addr) (ys : List V) : Prop := ∀ y ∈ ys, ∃ q, y = .ref q ∧ q ≠ D ∧ H q = some (.lst S3)
theorem Hd.ext {H H' : Hp} {D : Addr} {ys : List V} (h : Hd H D ys) (x : ExtN H H') : Hd H' D ys := fun y hy => by
  obtain ⟨q, e, n, h1⟩ := h y hy
  exact ⟨q, e, n, x _ _ h1 (fun _ z => nomatch z)⟩
theorem Hd.put {H : Hp} {D : Addr} {ys : List V} {o : HO} (h : Hd H D ys) : Hd (upd H D o) D ys := fun y hy => by
  obtain ⟨q, e, n, h1⟩ := h y hy
  exact ⟨q, e, n, (upd_ne n).trans h1⟩
theorem Hd.dp {K : PySem.W.Frag} {H : Hp} {D : Addr} : ∀ {ys : List V}, Hd H D ys → DpAll K H ys (List.replicate ys.length D3)
  | [], _ => .nil
  | y :: ys, h => by
    obtain ⟨q, e, n, h1⟩ := h y List.mem_cons_self
    subst e
    exact .cons (.lst (.inl (.inl h1)) (.cons (.str _) (.cons (.str _) (.cons (.str _) .nil)))) (Hd.dp fun y hy => h y (List.mem_cons_of_mem _ hy))
def TLr (P1 : Addr) : List (Addr × Str) := [(P1, ("_law_refused_right.<locals>." : Str) ++ "<lambda>")]
def spRef (P1 : Addr) : Sp := fun vs H Q _ => ∃ (r : Addr) (n : Nat) (v : V) (p : Rat), vs = [.ref r, v] ∧ Rid r n H ∧ n + 3 < 1000000 ∧ Fr r H v p ∧ Tabs (TLr P1) H ∧ ∀ H', Rid r (n + 3) H' → Tabs (TLr P1) H' → Q (.bl true) H'
section
variable {P : Program} {w : World} {K : PySem.W.Frag} {mg : Str → Option Value} {base : Heap}
theorem ok_refused {f c P1 C : Addr} {fd : FuncData} (F : Fun K "_law_refused_right" "_law_refused_right" s__law_refused_right f fd) (hc : fd.code = .ref c) (TB : TabB base mg c P1) (T : TxtC mg) (C__law_pick : Cal P w K mg base CX0 2 "_law_pick" spPick)
    (CX_added : Cal P w K mg base (L2.CX P w) 6 "added" (spRefuse C)) (CX_less : Cal P w K mg base (L2.CX P w) 6 "less" (spRefuse C)) (CX_multiplied : Cal P w K mg base (L2.CX P w) 6 "multiplied" (spRefuse C)) (CX_below : Cal P w K mg base (L2.CX P w) 6 "below" (spRefuse C))
    (CX_reduced : Cal P w K mg base (L2.CX P w) 5 "reduced" (spRedX C)) (Te__law_heard : Tells P w K mg base "_law_heard" 7 (TTpart C)) :
    FnG P w K mg base CX0 9 f fd ["cruet", "one"] (spRef P1) := by
  obtain ⟨fa, ga, ca⟩ := CX_added.held
  obtain ⟨fl, gl, cl⟩ := CX_less.held
  obtain ⟨fm, gm, cm⟩ := CX_multiplied.held
  obtain ⟨fb, gb, cb⟩ := CX_below.held
  have c_added : ∃ u, mg "added" = some u ∧ RelV (.ref fa) u := ⟨_, ga, rfl⟩
  have c_less : ∃ u, mg "less" = some u ∧ RelV (.ref fl) u := ⟨_, gl, rfl⟩
  have c_multiplied : ∃ u, mg "multiplied" = some u ∧ RelV (.ref fm) u := ⟨_, gm, rfl⟩
  have c_below : ∃ u, mg "below" = some u ∧ RelV (.ref fb) u := ⟨_, gb, rfl⟩
  have hmT : (P1, ("_law_refused_right.<locals>." : Str) ++ "<lambda>") ∈ TLr P1 := List.mem_singleton_self _
  have hu : ∀ p ∈ TLr P1, p.1 = P1 → p.2 = ("_law_refused_right.<locals>." : Str) ++ "<lambda>" := fun p hp _ => by rw [List.mem_singleton.mp hp]
  refine okGd F hc sc__law_refused_right (fun vs H Q E h => ?_) (fun A outer s H vs Q E hG hr h => ?_)
  · obtain ⟨r, n, v, p, rfl, _⟩ := h
    rfl
  · obtain ⟨r, n, v, p, rfl, R, hn, hp, hT, k⟩ := h
    refine ⟨_, (pss_cons (ps_set (i := 4) sc__law_refused_right.nd rfl (.inr rfl) (pe_f C__law_pick hG (hr.mono (by decide)) (by rfl) pass0 (pa_cons (pv 0) (pa_cons (pe_lst (pa_cons pe_non (pa_cons (pe_tup (pa_cons pe_int (pa_cons pe_int pa_nil))) (pa_cons (pe_tup (pa_cons pe_int (pa_cons pe_int pa_nil))) (pa_cons (pe_tup (pa_cons pe_int (pa_cons pe_int pa_nil))) (pa_cons (pe_tup (pa_cons pe_int (pa_cons (pe_un un_neg pe_int) pa_nil))) (pa_cons pe_int (pa_cons (pe_tup (pa_cons pe_int (pa_cons pe_bl pa_nil))) (pa_cons pe_str (pa_cons (pe_lst (pa_cons (pv 1) pa_nil)) (pa_cons (pe_tup (pa_cons pe_int (pa_cons pe_int (pa_cons pe_int pa_nil)))) (pa_cons (pe_tup (pa_cons (pe_ix ix_tup (pv 1) pe_int (fun _ _ => rfl)) (pa_cons pe_non pa_nil))) (pa_cons pe_dnewK pa_nil))))))))))))) pa_nil))))
      (pss_cons (ps_set (i := 5) sc__law_refused_right.nd rfl (.inr rfl) (pe_f C__law_pick hG (hr.mono (by decide)) (by rfl) pass0 (pa_cons (pv 0) (pa_cons (pe_lst (pa_cons pe_non (pa_cons pe_bl (pa_cons pe_str (pa_cons (pv 1) (pa_cons pe_int (pa_cons (pe_lst (pa_cons pe_int pa_nil)) (pa_cons (pe_tup (pa_cons pe_int (pa_cons pe_int pa_nil))) pa_nil)))))))) pa_nil))))
      (pss_cons (ps_set (i := 2) sc__law_refused_right.nd rfl (.inl rfl) (pe_lst pa_nil))
      (pss_cons (ps_for PassesOwn.never rfl (pi_tup (pe_tup (pa_cons (C8.pe_gc rfl c_added) (pa_cons (C8.pe_gc rfl c_less) (pa_cons (C8.pe_gc rfl c_multiplied) (pa_cons (C8.pe_gc rfl c_below) pa_nil)))))) (pg_name (i := 3) sc__law_refused_right.nd rfl (.inr rfl)) (pss_one (ps_expr (pe_bm PySem.F.plainAttrs_list PySem.F.slot_list_append PySem.F.type_list_append mt_append (pv 2) (pa_cons (pe_lst (pa_cons (pe_tells (z := "one") Te__law_heard (by rfl) hG TB rfl hmT hu (hr.mono (by decide)) (lamD_by (N := ["cruet", "one", "heard", "ask", "none", "odd", "wrong"]) (so := defScope s__law_refused_right) (by decide +kernel)) (.inl ⟨rfl, fun _ _ _ _ _ => rfl⟩) (fun A outer s H E f c' hg2 hr2 => (pe_fv (P := P) (w := w) (K := K) (mg := mg) (base := base) (k := 6) (i := 3) (CX := L2.CX P w) ⟨rfl, rfl, rfl, rfl, rfl⟩ (by rfl) (by first | exact Or.inl rfl | exact Or.inr (Or.inl rfl) | exact Or.inr (Or.inr rfl)) hg2 (hr2.mono (by decide)) passLam (pa_cons (pv 4) (pa_cons (pv 5) pa_nil))))) (pa_cons (pe_tells (z := "other") Te__law_heard (by rfl) hG TB rfl hmT hu (hr.mono (by decide)) (lamD_by (N := ["cruet", "one", "heard", "ask", "none", "odd", "wrong"]) (so := defScope s__law_refused_right) (by decide +kernel)) (.inr ⟨_, _, "a1", rfl, pe_int, rfl, fun _ _ _ _ _ _ _ => ⟨_, rfl, rfl⟩⟩) (fun A outer s H E f c' hg2 hr2 => (pe_fv (P := P) (w := w) (K := K) (mg := mg) (base := base) (k := 6) (i := 3) (CX := L2.CX P w) ⟨rfl, rfl, rfl, rfl, rfl⟩ (by rfl) (by first | exact Or.inl rfl | exact Or.inr (Or.inl rfl) | exact Or.inr (Or.inr rfl)) hg2 (hr2.mono (by decide)) passLam (pa_cons (pv 1) (pa_cons (pv 4) pa_nil))))) (pa_cons (pe_tells (z := "one") Te__law_heard (by rfl) hG TB rfl hmT hu (hr.mono (by decide)) (lamD_by (N := ["cruet", "one", "heard", "ask", "none", "odd", "wrong"]) (so := defScope s__law_refused_right) (by decide +kernel)) (.inr ⟨_, _, "a2", rfl, pe_int, rfl, fun _ _ _ _ _ _ _ => ⟨_, rfl, rfl⟩⟩) (fun A outer s H E f c' hg2 hr2 => (pe_fv (P := P) (w := w) (K := K) (mg := mg) (base := base) (k := 6) (i := 3) (CX := L2.CX P w) ⟨rfl, rfl, rfl, rfl, rfl⟩ (by rfl) (by first | exact Or.inl rfl | exact Or.inr (Or.inl rfl) | exact Or.inr (Or.inr rfl)) hg2 (hr2.mono (by decide)) passLam (pa_cons (pv 4) (pa_cons (pv 1) pa_nil))))) pa_nil)))) pa_nil)))))
      (pss_cons (ps_if (pt_cmpR (op_neD hr.units) (pv 2) (pe_op op_rep (pe_lst (pa_cons (pe_lst (pa_cons pe_str (pa_cons pe_str (pa_cons pe_str pa_nil)))) pa_nil)) pe_int) (nomark _)) (pss_one (ps_ret pe_bl)) pss_nil)
      (pss_cons (ps_set (i := 6) sc__law_refused_right.nd rfl (.inr rfl) (pe_f C__law_pick hG (hr.mono (by decide)) (by rfl) pass0 (pa_cons (pv 0) (pa_cons (pe_lst (pa_cons pe_non (pa_cons pe_bl (pa_cons pe_str (pa_cons (pe_lst (pa_cons pe_int pa_nil)) (pa_cons (pv 1) (pa_cons pe_bl pa_nil))))))) pa_nil))))
      (pss_one (ps_ret (pe_cmpR (op_eqD hr.units) (pe_lst (pa_cons (pe_tells (z := "up") Te__law_heard (by rfl) hG TB rfl hmT hu (hr.mono (by decide)) (lamD_by (N := ["cruet", "one", "heard", "ask", "none", "odd", "wrong"]) (so := defScope s__law_refused_right) (by decide +kernel)) (.inl ⟨rfl, fun _ _ _ _ _ => rfl⟩) (fun A outer s H E f c' hg2 hr2 => (pe_f CX_reduced hg2 (hr2.mono (by decide)) (by rfl) passLam (pa_cons (pv 6) (pa_cons (pv 5) pa_nil))))) (pa_cons (pe_tells (z := "down") Te__law_heard (by rfl) hG TB rfl hmT hu (hr.mono (by decide)) (lamD_by (N := ["cruet", "one", "heard", "ask", "none", "odd", "wrong"]) (so := defScope s__law_refused_right) (by decide +kernel)) (.inr ⟨_, _, "a1", rfl, pe_int, rfl, fun _ _ _ _ _ _ _ => ⟨_, rfl, rfl⟩⟩) (fun A outer s H E f c' hg2 hr2 => (pe_f CX_reduced hg2 (hr2.mono (by decide)) (by rfl) passLam (pa_cons pe_int (pa_cons (pv 5) pa_nil))))) (pa_cons (pe_tells (z := "down") Te__law_heard (by rfl) hG TB rfl hmT hu (hr.mono (by decide)) (lamD_by (N := ["cruet", "one", "heard", "ask", "none", "odd", "wrong"]) (so := defScope s__law_refused_right) (by decide +kernel)) (.inr ⟨_, _, "a2", rfl, pe_int, rfl, fun _ _ _ _ _ _ _ => ⟨_, rfl, rfl⟩⟩) (fun A outer s H E f c' hg2 hr2 => (pe_f CX_reduced hg2 (hr2.mono (by decide)) (by rfl) passLam (pa_cons pe_int (pa_cons pe_int pa_nil))))) pa_nil)))) (pe_lst (pa_cons pe_str (pa_cons pe_str (pa_cons pe_str pa_nil)))) (nomark _)))))))))), ?_⟩
    try dsimp only [cxOf, Cx.nox, Cx.wish]
    walk_at "ga"
    refine ⟨small64 (by simp), fun p1 hp1 => ?_⟩
    generalize hU : upd _ p1 _ = H1
    obtain ⟨s1, e1⟩ := upd_facts hU hp1
    clear hU
    walk_at "ga"
    refine ⟨small64 (by simp), fun p2 hp2 => ?_⟩
    generalize hU : upd _ p2 _ = H2
    obtain ⟨s2, e2⟩ := upd_facts hU hp2
    clear hU
    walk_at "ga"
    refine ⟨small64 (by simp), fun p3 hp3 => ?_⟩
    generalize hU : upd _ p3 _ = H3
    obtain ⟨s3, e3⟩ := upd_facts hU hp3
    clear hU
    walk_at "ga"
    refine ⟨small64 (by simp), fun p4 hp4 => ?_⟩
    generalize hU : upd _ p4 _ = H4
    obtain ⟨s4, e4⟩ := upd_facts hU hp4
    clear hU
    walk_at "ga"
    refine ⟨small64 (by simp), fun p5 hp5 => ?_⟩
    generalize hU : upd _ p5 _ = H5
    obtain ⟨s5, e5⟩ := upd_facts hU hp5
    clear hU
    walk_at "ga"
    refine ⟨small64 (by simp), fun p6 hp6 => ?_⟩
    generalize hU : upd _ p6 _ = H6
    obtain ⟨s6, e6⟩ := upd_facts hU hp6
    clear hU
    walk_at "ga"
    refine ⟨small64 (by simp), fun p7 hp7 => ?_⟩
    generalize hU : upd _ p7 _ = H7
    obtain ⟨s7, e7⟩ := upd_facts hU hp7
    clear hU
    walk_at "ga"
    have s17 := s1.trans (s2.trans (s3.trans (s4.trans (s5.trans (s6.trans s7)))))
    replace hp := hp.same s17
    refine k_ix0 hp ?_
    walk_at "ga"
    refine ⟨small64 (by simp), fun p8 hp8 => ?_⟩
    generalize hU : upd _ p8 _ = H8
    obtain ⟨s8, e8⟩ := upd_facts hU hp8
    clear hU
    walk_at "ga"
    intro p9 hp9
    generalize hU : upd H8 p9 _ = H9
    obtain ⟨s9, e9⟩ := upd_facts hU hp9
    clear hU
    walk_at "ga"
    refine ⟨small64 (by simp), fun p10 hp10 => ?_⟩
    generalize hU : upd _ p10 _ = H10
    obtain ⟨s10, e10⟩ := upd_facts hU hp10
    clear hU
    walk_at "ga"
    have R1 := R.same s1
    have R2 := R1.same s2
    have R3 := R2.same s3
    have R4 := R3.same s4
    have R5 := R4.same s5
    have R6 := R5.same s6
    have R7 := R6.same s7
    have R8 := R7.same s8
    have R9 := R8.same s9
    have R10 := R9.same s10
    refine ⟨r, p10, n, _, rfl, R10, by omega, R9.ne hp10, e10, by simp, by simp, fun H11 none g11 R11 hnone => ?_⟩
    have hp10 := hp.same (s8.trans (s9.trans s10))
    replace hp := hp10.gr g11
    have T11 := (hT.ext (s17.trans (s8.trans (s9.trans s10)))).gr R10 g11
    have t10 := s10
    have t9 := s9.trans t10
    have t8 := s8.trans t9
    have t7 := s7.trans t8
    have t6 := s6.trans t7
    have t5 := s5.trans t6
    have t4 := s4.trans t5
    have t3 := s3.trans t4
    have t2 := s2.trans t3
    obtain ⟨dN, hN, fN, lN⟩ : ∃ d, Dr r H11 none d ∧ fracD d = false ∧ lenOk d := by
      simp only [List.mem_cons, List.not_mem_nil, or_false] at hnone
      rcases hnone with rfl | rfl | rfl | rfl | rfl | rfl | rfl | rfl | rfl | rfl | rfl | rfl
      · exact ⟨_, .non, rfl, fun _ e => nomatch e⟩
      · exact ⟨_, .tup (R.ne hp1) (g11.all _ _ (R.ne hp1) (t2 _ _ e1)) (.cons (.int _) (.cons (.int _) .nil)), by decide +kernel, fun _ e => by cases e; simp⟩
      · exact ⟨_, .tup (R1.ne hp2) (g11.all _ _ (R1.ne hp2) (t3 _ _ e2)) (.cons (.int _) (.cons (.int _) .nil)), by decide +kernel, fun _ e => by cases e; simp⟩
      · exact ⟨_, .tup (R2.ne hp3) (g11.all _ _ (R2.ne hp3) (t4 _ _ e3)) (.cons (.int _) (.cons (.int _) .nil)), by decide +kernel, fun _ e => by cases e; simp⟩
      · exact ⟨_, .tup (R3.ne hp4) (g11.all _ _ (R3.ne hp4) (t5 _ _ e4)) (.cons (.int _) (.cons (.int _) .nil)), by decide +kernel, fun _ e => by cases e; simp⟩
      · exact ⟨_, .int _, rfl, fun _ e => nomatch e⟩
      · exact ⟨_, .tup (R4.ne hp5) (g11.all _ _ (R4.ne hp5) (t6 _ _ e5)) (.cons (.int _) (.cons (.bl _) .nil)), by decide +kernel, fun _ e => by cases e; simp⟩
      · exact ⟨_, .str _, rfl, fun _ e => nomatch e⟩
      · exact ⟨_, .lst (R5.ne hp6) (g11.all _ _ (R5.ne hp6) (t7 _ _ e6)) (.cons hp.dr .nil), rfl, fun _ e => by cases e; simp⟩
      · exact ⟨_, .tup (R6.ne hp7) (g11.all _ _ (R6.ne hp7) (t8 _ _ e7)) (.cons (.int _) (.cons (.int _) (.cons (.int _) .nil))), by decide +kernel, fun _ e => by cases e; simp⟩
      · exact ⟨_, .tup (R7.ne hp8) (g11.all _ _ (R7.ne hp8) (t9 _ _ e8)) (.cons (.int _) (.cons .non .nil)), rfl, fun _ e => by cases e; simp⟩
      · exact ⟨_, .dct (R8.ne hp9) (g11.all _ _ (R8.ne hp9) (t10 _ _ e9)) .nil, rfl, fun _ e => nomatch e⟩
    clear hnone e1 e2 e3 e4 e5 e6 e7 e8 e9 e10 t2 t3 t4 t5 t6 t7 t8 t9 t10 s1 s2 s3 s4 s5 s6 s7 s8 s9 s10 s17 R1 R2 R3 R4 R5 R6 R7 R8 R9 R10 hp1 hp2 hp3 hp4 hp5 hp6 hp7 hp8 hp9 hp10 g11 hT R
    walk_at "ga"
    refine ⟨small64 (by simp), fun q1 hq1 => ?_⟩
    generalize hU : upd _ q1 _ = G1
    obtain ⟨s1, e1⟩ := upd_facts hU hq1
    clear hU
    walk_at "ga"
    refine ⟨small64 (by simp), fun q2 hq2 => ?_⟩
    generalize hU : upd _ q2 _ = G2
    obtain ⟨s2, e2⟩ := upd_facts hU hq2
    clear hU
    walk_at "ga"
    refine ⟨small64 (by simp), fun q3 hq3 => ?_⟩
    generalize hU : upd _ q3 _ = G3
    obtain ⟨s3, e3⟩ := upd_facts hU hq3
    clear hU
    walk_at "ga"
    have S1 := R11.same s1
    have S2 := S1.same s2
    have S3 := S2.same s3
    refine ⟨r, q3, n + 1, _, rfl, S3, by omega, S2.ne hq3, e3, by simp, by simp, fun G4 odd g4 S4 hodd => ?_⟩
    have hp3 := hp.same (s1.trans (s2.trans s3))
    replace hp := hp3.gr g4
    have T4 := (T11.ext (s1.trans (s2.trans s3))).gr S3 g4
    have hN4 := (hN.same (s1.trans (s2.trans s3))).gr g4
    obtain ⟨dO, hO, wO, lO⟩ : ∃ d, Dr r G4 odd d ∧ (ndInt d = false ∨ d = .int 0) ∧ lenOk d := by
      simp only [List.mem_cons, List.not_mem_nil, or_false] at hodd
      rcases hodd with rfl | rfl | rfl | rfl | rfl | rfl | rfl
      · exact ⟨_, .non, .inl rfl, fun _ e => nomatch e⟩
      · exact ⟨_, .bl _, .inl rfl, fun _ e => nomatch e⟩
      · exact ⟨_, .str _, .inl rfl, fun _ e => nomatch e⟩
      · exact ⟨_, hp.dr, .inl rfl, isFq_len (isFq_fq p)⟩
      · exact ⟨_, .int _, .inr rfl, fun _ e => nomatch e⟩
      · exact ⟨_, .lst (R11.ne hq1) (g4.all _ _ (R11.ne hq1) (s3 _ _ (s2 _ _ e1))) (.cons (.int _) .nil), .inl rfl, fun _ e => by cases e; simp⟩
      · exact ⟨_, .tup (S1.ne hq2) (g4.all _ _ (S1.ne hq2) (s3 _ _ e2)) (.cons (.int _) (.cons (.int _) .nil)), .inl rfl, fun _ e => by cases e; simp⟩
    clear hodd e1 e2 e3 s1 s2 s3 S1 S2 S3 R11 T11 hN hp3 g4 hq1 hq2 hq3
    walk_at "ga"
    refine ⟨small64 (by simp), fun ph hph => ?_⟩
    generalize hU : upd _ ph _ = G5
    obtain ⟨s5, e5⟩ := upd_facts hU hph
    clear hU
    walk_at "ga"
    refine ⟨small64 (by simp), fun pt hpt => ?_⟩
    generalize hU : upd _ pt _ = G6
    obtain ⟨s6, e6⟩ := upd_facts hU hpt
    clear hU
    walk_at "ga"
    have x6 : ExtN G4 G6 := ExtN.of (s5.trans s6)
    have T6 := (T4.ext s5).ext s6
    have calls : ∀ (i : Nat) (x : V), [V.ref fa, V.ref fl, V.ref fm, V.ref fb][i]? = some x → ∃ g, x = .ref g ∧ CalV P w K mg base (L2.CX P w) 6 g (spRefuse C) := fun i x e => by
      have := List.mem_of_getElem? e
      simp only [List.mem_cons, List.not_mem_nil, or_false] at this
      rcases this with rfl | rfl | rfl | rfl
      · exact ⟨_, rfl, ca⟩
      · exact ⟨_, rfl, cl⟩
      · exact ⟨_, rfl, cm⟩
      · exact ⟨_, rfl, cb⟩
    refine ⟨⟨_, .inl (.inl e6)⟩, ?_⟩
    refine forIn_it (walk_tup (xs := [V.ref fa, V.ref fl, V.ref fm, V.ref fb])) (fun i σ' Hc => ExtN G4 Hc ∧ Tabs (TLr P1) Hc ∧ Hc pt = some (.tup [.ref fa, .ref fl, .ref fm, .ref fb]) ∧
        (∃ ys, Hc ph = some (.lst ys) ∧ ys.length = i ∧ Hd Hc ph ys) ∧ ∃ x3, σ' = [some (.ref r), some v, some (.ref ph), x3, some none, some odd, Option.none])
      ⟨x6, T6, e6, ⟨[], s6 _ _ e5, rfl, fun y hy => nomatch hy⟩, _, rfl⟩ (fun _ _ Hc _ z => .inl (.inl z.2.2.1)) (fun i x σ' Hc Hc' hi z y => ?_) (fun σ' Hc z => ?_)
    · obtain ⟨x4, Tc, ept, ⟨ys, eh, hl, hd⟩, x3, rfl⟩ := z
      obtain ⟨rfl, hx⟩ := y
      obtain ⟨g, rfl, cg⟩ := calls i x hx
      have hi4 : i < 4 := hi
      walk_at "ga"
      refine ⟨.inl ⟨rfl, _, .inl (.inl eh)⟩, ?_⟩
      walk_at "ga"
      refine k_lamP Tc (fun Ha E xa Ta oa => ?_) (fun Hb xb Tb => ?_)
      · refine k_callV rfl cg ?_
        walk_at "ga"
        exact ⟨r, none, odd, dN, dO, rfl, hN4.ext (x4.trans xa), hO.ext (x4.trans xa), lN, lO, .inl ⟨fN, oa⟩⟩
      replace x4 := x4.trans xb
      replace hd := hd.ext xb
      have eh := xb _ _ eh (fun _ z => nomatch z)
      have ept := xb _ _ ept (fun _ z => nomatch z)
      walk_at "ga"
      refine k_lamP Tb (fun Ha E xa Ta oa => ?_) (fun Hc xb Tc => ?_)
      · refine k_callV rfl cg ?_
        walk_at "ga"
        exact ⟨r, v, none, fq p, dN, rfl, hp.dr.ext (x4.trans xa), hN4.ext (x4.trans xa), isFq_len (isFq_fq p), lN, .inr ⟨isFq_frac (isFq_fq p), fN, oa⟩⟩
      replace x4 := x4.trans xb
      replace hd := hd.ext xb
      have eh := xb _ _ eh (fun _ z => nomatch z)
      have ept := xb _ _ ept (fun _ z => nomatch z)
      walk_at "ga"
      refine k_lamP Tc (fun Ha E xa Ta oa => ?_) (fun Hb xb Tb => ?_)
      · refine k_callV rfl cg ?_
        walk_at "ga"
        exact ⟨r, none, v, dN, fq p, rfl, hN4.ext (x4.trans xa), hp.dr.ext (x4.trans xa), lN, isFq_len (isFq_fq p), .inl ⟨fN, oa⟩⟩
      replace x4 := x4.trans xb
      replace hd := hd.ext xb
      have eh := xb _ _ eh (fun _ z => nomatch z)
      have ept := xb _ _ ept (fun _ z => nomatch z)
      walk_at "ga"
      refine ⟨small64 (by simp), fun pl hpl => ?_⟩
      generalize hU : upd _ pl _ = He
      obtain ⟨se, ee⟩ := upd_facts hU hpl
      clear hU
      walk_at "ga"
      have eh2 := se _ _ eh
      refine k_app eh2 (by rw [hl]; exact Nat.lt_of_lt_of_le hi4 (by decide)) ?_
      walk_at "ga"
      have npl : pl ≠ ph := fun z => by
        rw [z, eh] at hpl
        cases hpl
      have npt : pt ≠ ph := fun z => by
        rw [z, eh] at ept
        cases ept
      refine ⟨extPut (x4.trans (ExtN.of se)) hph, Tabs.put (Tb.ext se) eh2, (upd_ne npt).trans (se _ _ ept), ⟨ys ++ [.ref pl], upd_same, by simp [hl], ?_⟩, _, rfl⟩
      intro y hy
      rcases List.mem_append.mp hy with hy | hy
      · obtain ⟨q, e, n, h1⟩ := hd y hy
        exact ⟨q, e, n, (upd_ne n).trans (se _ _ h1)⟩
      · rw [List.mem_singleton.mp hy]
        exact ⟨pl, rfl, npl, (upd_ne npl).trans ee⟩
    · obtain ⟨x4, Tc, ept, ⟨ys, eh, hl, hd⟩, x3, rfl⟩ := z
      walk_at "ga"
      refine ⟨small64 (by simp), fun pa hpa => ?_⟩
      generalize hU : upd _ pa _ = Hd1
      obtain ⟨s1, e1⟩ := upd_facts hU hpa
      clear hU
      walk_at "ga"
      refine ⟨small64 (by simp), fun pb hpb => ?_⟩
      generalize hU : upd _ pb _ = Hd2
      obtain ⟨s2, e2⟩ := upd_facts hU hpb
      clear hU
      walk_at "ga"
      refine ⟨pb, 4, [.ref pa], rfl, rfl, e2, by decide, by decide, by show 1 * 4 ≤ sizeLine; decide, fun pc hpc => ?_⟩
      rw [show (List.replicate (4 : Int).toNat [V.ref pa]).flatten = [V.ref pa, .ref pa, .ref pa, .ref pa] from rfl]
      generalize hU : upd Hd2 pc _ = Hd3
      obtain ⟨s3, e3⟩ := upd_facts hU hpc
      clear hU
      have x13 : ExtN Hc Hd3 := ExtN.of (s1.trans (s2.trans s3))
      replace hl : ys.length = 4 := hl
      have dA : Dp K Hd3 (.ref ph) (.list (List.replicate 4 D3)) := .lst (.inl (.inl (x13 _ _ eh (fun _ z => nomatch z)))) (by have := (hd.ext x13).dp (K := K); rw [hl] at this; exact this)
      have dO3 : Dp K Hd3 (.ref pa) D3 := .lst (.inl (.inl (s3 _ _ (s2 _ _ e1)))) (.cons (.str _) (.cons (.str _) (.cons (.str _) .nil)))
      have dB : Dp K Hd3 (.ref pc) (.list (List.replicate 4 D3)) := .lst (.inl (.inl e3)) (.cons dO3 (.cons dO3 (.cons dO3 (.cons dO3 .nil))))
      refine k_neD dA dB (by decide +kernel) (by decide +kernel) ?_
      rw [show (!PyData.eqv (.list (List.replicate 4 D3)) (.list (List.replicate 4 D3))) = false by decide +kernel]
      walk_at "ga"
      refine iteF ?_
      have RN := S4.ext (x4.trans x13)
      have hOr := hO.ext (x4.trans x13)
      have hVr := hp.dr.ext (x4.trans x13)
      replace Tc := Tc.ext (s1.trans (s2.trans s3))
      walk_at "ga"
      clear ept eh hd hl e1 e2 e3 dA dO3 dB x13 calls
      refine ⟨small64 (by simp), fun w1 hw1 => ?_⟩
      generalize hU : upd _ w1 _ = He1
      obtain ⟨s4, e4⟩ := upd_facts hU hw1
      clear hU
      walk_at "ga"
      refine ⟨small64 (by simp), fun w2 hw2 => ?_⟩
      generalize hU : upd _ w2 _ = He2
      obtain ⟨s5, e5⟩ := upd_facts hU hw2
      clear hU
      walk_at "ga"
      have R1 := RN.same s4
      have R2 := R1.same s5
      refine ⟨r, w2, n + 2, _, rfl, R2, by omega, R1.ne hw2, e5, by simp, by simp, fun He3 wrong g3 R3 hwr => ?_⟩
      replace Tc := ((Tc.ext s4).ext s5).gr R2 g3
      replace hOr := ((hOr.same s4).same s5).gr g3
      replace hVr := ((hVr.same s4).same s5).gr g3
      obtain ⟨dW, hW, wW⟩ : ∃ d, Dr r He3 wrong d ∧ ndInt d = false := by
        simp only [List.mem_cons, List.not_mem_nil, or_false] at hwr
        rcases hwr with rfl | rfl | rfl | rfl | rfl | rfl
        · exact ⟨_, .non, rfl⟩
        · exact ⟨_, .bl _, rfl⟩
        · exact ⟨_, .str _, rfl⟩
        · exact ⟨_, .lst (RN.ne hw1) (g3.all _ _ (RN.ne hw1) (s5 _ _ e4)) (.cons (.int _) .nil), rfl⟩
        · exact ⟨_, hVr, rfl⟩
        · exact ⟨_, .bl _, rfl⟩
      clear hwr
      walk_at "ga"
      refine k_lamP Tc (fun Ha E xa Ta oa => ?_) (fun Hb xb Tb => ?_)
      · walk_at "ga"
        exact ⟨r, wrong, odd, dW, dO, rfl, hW.ext xa, hOr.ext xa, fun u z e => (by rw [e] at wW; cases wW), fun _ => oa, fun z => (by rw [wW] at z; cases z)⟩
      replace hOr := hOr.ext xb
      replace R3 := R3.ext xb
      walk_at "ga"
      refine k_lamP Tb (fun Ha E xa Ta oa => ?_) (fun Hc2 xb Tc2 => ?_)
      · walk_at "ga"
        refine ⟨r, .int 3, odd, .int 3, dO, rfl, .int _, hOr.ext xa, fun u z _ e nz => ?_, fun z => (by cases z), fun _ _ => oa⟩
        rcases wO with z' | z'
        · rw [e] at z'
          cases z'
        · rw [e] at z'
          cases z'
          exact absurd rfl nz
      replace R3 := R3.ext xb
      walk_at "ga"
      refine k_lamP Tc2 (fun Ha E xa Ta oa => ?_) (fun Hb2 xb Tb2 => ?_)
      · walk_at "ga"
        refine ⟨r, .int 0, .int 0, .int 0, .int 0, rfl, .int _, .int _, fun u z _ e nz => ?_, fun z => (by cases z), fun _ _ => oa⟩
        cases e
        exact absurd rfl nz
      replace R3 := R3.ext xb
      walk_at "ga"
      refine ⟨small64 (by simp), fun w3 hw3 => ?_⟩
      generalize hU : upd _ w3 _ = Hf1
      obtain ⟨s6, e6⟩ := upd_facts hU hw3
      clear hU
      walk_at "ga"
      refine ⟨small64 (by simp), fun w4 hw4 => ?_⟩
      generalize hU : upd _ w4 _ = Hf2
      obtain ⟨s7, e7⟩ := upd_facts hU hw4
      clear hU
      refine k_eqD (.lst (.inl (.inl (s7 _ _ e6))) (.cons (.str _) (.cons (.str _) (.cons (.str _) .nil)))) (.lst (.inl (.inl e7)) (.cons (.str _) (.cons (.str _) (.cons (.str _) .nil)))) (sh_strs ["up", "down", "down"] (by decide +kernel)) (sh_strs ["up", "down", "down"] (by decide +kernel)) ?_
      rw [show PyData.eqv (.list [.str "up", .str "down", .str "down"]) (.list [.str "up", .str "down", .str "down"]) = true by decide +kernel]
      exact k _ ((R3.same s6).same s7) ((Tb2.ext s6).ext s7)
end
end K03

namespace K03
open PySem PySem.Spec PyProof.Rows L2 Nd LamX
abbrev s_law : Stmt := top 27
theorem sc_law : FnScope ["script", "cruet", "turn", "up", "down", "by", "one", "third", "other"] ["script"] (defScope s_law) := ⟨rfl, rfl, rfl, by decide +kernel, rfl, by decide +kernel, by decide +kernel⟩
def spLaw (K : PySem.W.Frag) (P1 : Addr) : Sp := fun vs H Q _ => ∃ (a : Addr) (ns : List Int), vs = [.ref a] ∧ SqL K H a (ns.map V.int) ∧ ns.length ≤ 63 ∧ H P1 = some (.tbl #[]) ∧ ∀ H', Q (.bl true) H'
theorem mid_divInt {u w : Int} (h0 : w ≠ 0) (hu : u.natAbs ≤ 10 ^ 60) (hw : w.natAbs ≤ 10 ^ 60) : Mid (Rat.divInt u w) := ⟨Nat.le_trans (divInt_le h0).1 hu, Nat.le_trans (divInt_le h0).2 hw⟩
section
variable {P : Program} {w : World} {K : PySem.W.Frag} {mg : Str → Option Value} {base : Heap}
theorem ok_law {f P1 : Addr} {fd : FuncData} (F : Fun K "law" "law" s_law f fd) (T : TxtC mg)
    (C__law_cruet : Cal P w K mg base CX0 1 "_law_cruet" (spRiddle K)) (C__law_drop : Cal P w K mg base CX0 1 "_law_drop" spDraw) (C__law_pick : Cal P w K mg base CX0 2 "_law_pick" spPick)
    (C__law_integer : Cal P w K mg base CX0 3 "_law_integer" (spNum 3 (10 ^ 60))) (C__law_least : Cal P w K mg base CX0 1 "_law_least" spLeast) (C_reduced : Cal P w K mg base CX0 5 "reduced" spRed) (CK_reduced_down_up : CalK P w K mg base CX0 5 "reduced" ["down", "up"] [1, 0] spRed)
    (C_below : Cal P w K mg base CX0 6 "below" spBelowA) (C__law_both_right : Cal P w K mg base CX0 7 "_law_both_right" spBoth) (C__law_refused_right : Cal P w K mg base CX0 9 "_law_refused_right" (spRef P1)) :
    FnG P w K mg base CX0 10 f fd ["script"] (spLaw K P1) := by
  refine okG0 F sc_law (fun vs H Q E h => ?_) (fun cdv A outer s H vs Q E hG hr h => ?_)
  · obtain ⟨a, ns, rfl, _⟩ := h
    rfl
  · obtain ⟨a, ns, rfl, hS, hlen, hT0, q⟩ := h
    refine ⟨_, (pss_cons (ps_set (i := 1) sc_law.nd rfl (.inl rfl) (pe_f C__law_cruet hG (hr.mono (by decide)) (by rfl) pass0 (pa_cons (pv 0) pa_nil)))
      (pss_cons (ps_for PassesOwn.never rfl (pi_range1 rfl T.m_range (pa_cons pe_int pa_nil)) (pg_name (i := 2) sc_law.nd rfl (.inl rfl)) (pss_cons (ps_par3 (i := 3) (j := 4) (l := 5) (by rfl) sc_law.nd rfl rfl rfl (by decide) (by decide) (by decide) rfl rfl rfl (pa_cons (pe_f C__law_integer hG (hr.mono (by decide)) (by rfl) pass0 (pa_cons (pv 1) pa_nil)) (pa_cons (pe_f C__law_integer hG (hr.mono (by decide)) (by rfl) pass0 (pa_cons (pv 1) pa_nil)) (pa_cons (pe_f C__law_pick hG (hr.mono (by decide)) (by rfl) pass0 (pa_cons (pv 1) (pa_cons (pe_lst (pa_cons pe_int (pa_cons (pe_un un_neg pe_int) (pa_cons pe_int (pa_cons (pe_op op_pow pe_int pe_int) pa_nil))))) pa_nil))) pa_nil))) (by rfl))
      (pss_cons (ps_set (i := 4) sc_law.nd rfl (.inl rfl) (pe_ifExp (pt_cmpR op_ne (pv 4) pe_int (nomark _)) (pv 4) (pe_op op_add pe_int (pe_f C__law_drop hG (hr.mono (by decide)) (by rfl) pass0 (pa_cons (pv 1) (pa_cons pe_int pa_nil))))))
      (pss_cons (ps_par (i := 6) (j := 7) (by rfl) sc_law.nd rfl rfl (by decide) rfl rfl (pa_cons (pe_f C__law_least hG (hr.mono (by decide)) (by rfl) pass0 (pa_cons (pv 3) (pa_cons (pv 4) pa_nil))) (pa_cons (pe_f C__law_integer hG (hr.mono (by decide)) (by rfl) pass0 (pa_cons (pv 1) pa_nil)) pa_nil)) (by rfl))
      (pss_cons (ps_if (pt_cmpR op_ne (pe_callB (id := "repr") (cr_repr hG hr) (by rfl) T.m_repr (by decide +kernel) (pa_cons (pe_lst (pa_cons (pe_f C_reduced hG (hr.mono (by decide)) (by rfl) pass0 (pa_cons (pe_op op_mulW (pv 3) (pv 5)) (pa_cons (pe_op op_mulW (pv 4) (pv 5)) pa_nil))) (pa_cons (pe_kw CK_reduced_down_up hG (hr.mono (by decide)) (by rfl) pass0 (pk_cons (pv 4) (pk_cons (pv 3) pk_nil))) pa_nil))) pa_nil)) (pe_callB (id := "repr") (cr_repr hG hr) (by rfl) T.m_repr (by decide +kernel) (pa_cons (pe_lst (pa_cons (pv 6) (pa_cons (pv 6) pa_nil))) pa_nil)) (nomark _)) (pss_one (ps_ret pe_bl)) pss_nil)
      (pss_cons (ps_set (i := 8) sc_law.nd rfl (.inl rfl) (pe_f C__law_pick hG (hr.mono (by decide)) (by rfl) pass0 (pa_cons (pv 1) (pa_cons (pe_lst (pa_cons (pe_f C__law_least hG (hr.mono (by decide)) (by rfl) pass0 (pa_cons (pv 7) (pa_cons (pe_op op_add pe_int (pe_f C__law_drop hG (hr.mono (by decide)) (by rfl) pass0 (pa_cons (pv 1) (pa_cons pe_int pa_nil)))) pa_nil))) (pa_cons (pv 6) (pa_cons (pe_tup (pa_cons (pe_un un_neg (pe_ix ix_tup (pv 6) pe_int (fun _ _ => rfl))) (pa_cons (pe_ix ix_tup (pv 6) pe_int (fun _ _ => rfl)) pa_nil))) (pa_cons (pe_tup (pa_cons pe_int (pa_cons pe_int pa_nil))) (pa_cons (pe_f C__law_least hG (hr.mono (by decide)) (by rfl) pass0 (pa_cons (pv 7) (pa_cons (pv 4) pa_nil))) pa_nil)))))) pa_nil))))
      (pss_cons (ps_if (PW.pt (pw_or (pt_not (pt_val (pe_f C__law_both_right hG (hr.mono (by decide)) (by rfl) pass0 (pa_cons (pv 1) (pa_cons (pv 6) (pa_cons (pv 8) pa_nil)))))) (pw_or1 (pt_not (pt_val (pe_f C__law_both_right hG (hr.mono (by decide)) (by rfl) pass0 (pa_cons (pv 1) (pa_cons (pv 8) (pa_cons (pv 6) pa_nil))))))))) (pss_one (ps_ret pe_bl)) pss_nil)
      (pss_one (ps_if (pt_not (pt_val (pe_f C__law_refused_right hG (hr.mono (by decide)) (by rfl) pass0 (pa_cons (pv 1) (pa_cons (pv 6) pa_nil))))) (pss_one (ps_ret pe_bl)) pss_nil)))))))))
      (pss_one (ps_ret (pe_and (pe_cmpR op_isBl (pe_f C_below hG (hr.mono (by decide)) (by rfl) pass0 (pa_cons (pe_tup (pa_cons pe_int (pa_cons pe_int pa_nil))) (pa_cons (pe_tup (pa_cons pe_int (pa_cons pe_int pa_nil))) pa_nil))) pe_bl (nomark _)) (pe_one (pe_cmpR (op_eqD hr.units) (pe_f C_reduced hG (hr.mono (by decide)) (by rfl) pass0 (pa_cons pe_int (pa_cons (pe_un un_neg pe_int) pa_nil))) (pe_tup (pa_cons pe_int (pa_cons pe_int pa_nil))) (nomark _)))))))), ?_⟩
    try dsimp only [cxOf, Cx.nox, Cx.wish]
    walk_at "ga"
    refine ⟨a, ns, rfl, hS, hlen, fun H1 r s1 nr R0 => ?_⟩
    have T0 : Tabs (TLr P1) H1 := (Tabs.one hT0).ext s1
    walk_at "ga"
    refine ⟨by decide, by decide, ?_⟩
    refine forIn_R (fun i σ H' => Rid r (18 * i) H' ∧ Tabs (TLr P1) H' ∧ ∃ x2 x3 x4 x5 x6 x7 x8, σ = [some (.ref a), some (.ref r), x2, x3, x4, x5, x6, x7, x8]) ⟨R0, T0, _, _, _, _, _, _, _, rfl⟩ (fun i σ H2 hi hP => ?_) (fun σ H2 hP => ?_)
    · obtain ⟨R2, T2, x2, x3, x4, x5, x6, x7, x8, rfl⟩ := hP
      have hi' : i < 4 := hi
      walk_at "ga"
      refine ⟨r, _, rfl, R2, by omega, fun H3 u g3 R3 bu => ?_⟩
      have T3 := T2.gr R2 g3
      walk_at "ga"
      refine ⟨r, _, rfl, R3, by omega, fun H4 d0 g4 R4 bd => ?_⟩
      have T4 := T3.gr R3 g4
      walk_at "ga"
      refine k_I ⟨by decide, by decide, by decide⟩ ?_
      walk_at "ga"
      refine ⟨small64 (by simp), fun p5 hp5 => ?_⟩
      generalize hU : upd _ p5 _ = H5
      obtain ⟨s5, e5⟩ := upd_facts hU hp5
      clear hU
      have R5 := R4.same s5
      have T5 := T4.ext s5
      walk_at "ga"
      refine ⟨r, p5, _, _, rfl, R5, by omega, R4.ne hp5, e5, by simp, by simp, fun H6 v6 g6 R6 hv6 => ?_⟩
      have T6 := T5.gr R5 g6
      obtain ⟨m, rfl, m0, mB⟩ : ∃ m : Int, v6 = .int m ∧ m ≠ 0 ∧ m.natAbs < 2 ^ 100 := by
        simp only [List.mem_cons, List.not_mem_nil, or_false] at hv6
        rcases hv6 with rfl | rfl | rfl | rfl
        · exact ⟨_, rfl, by decide, by decide⟩
        · exact ⟨_, rfl, by decide, by decide⟩
        · exact ⟨_, rfl, by decide, by decide⟩
        · exact ⟨_, rfl, by decide, by decide⟩
      clear hv6
      walk_at "ga"
      refine k_ife ?_
      walk_at "ga"
      refine ife_via (fun v H' => ∃ z : Int, v = .int z ∧ z ≠ 0 ∧ z.natAbs ≤ 10 ^ 60 ∧ Rid r (18 * i + 8) H' ∧ Tabs (TLr P1) H') (fun hc Q' hQ => ?_) (fun hc Q' hQ => ?_) (fun vv H7 hv => ?_)
      · walk_at "ga"
        refine hQ _ _ ⟨d0, rfl, fun z => ?_, bd, R6.mono (by omega), T6⟩
        rw [z] at hc
        exact absurd hc (by decide)
      · walk_at "ga"
        refine ⟨r, _, 9, rfl, R6, by omega, by decide, by decide, fun H7 z g7 R7 z0 z9 => ?_⟩
        walk_at "ga"
        exact hQ _ _ ⟨_, rfl, by omega, by omega, R7.mono (by omega), T6.gr R6 g7⟩
      obtain ⟨z, rfl, z0, bz, R7, T7⟩ := hv
      clear g3 g4 g6 R2 R3 R4 R5 R6 T2 T3 T4 T5 T6 s5 e5 hp5 bd
      walk_at "ga"
      have hz8 : z.natAbs < 2 ^ 8000 := Nat.lt_of_le_of_lt bz (by decide +kernel)
      refine ⟨u, z, rfl, z0, hz8, fun H8 x8 s8 h8 => ?_⟩
      have mp := mid_divInt (u := u) z0 bu bz
      have hp := h8.fr R7
      have R8 := R7.same s8
      have T8 := T7.ext s8
      generalize hpq : Rat.divInt u z = p at mp hp
      clear h8
      walk_at "ga"
      refine ⟨r, _, rfl, R8, by omega, fun H9 th g9 R9 bt => ?_⟩
      replace hp := hp.gr g9
      have T9 := T8.gr R8 g9
      have sp := tx_fq mp.sm
      have rp := reps (ds := [fq p, fq p]) (by simp) ⟨sp, sp, trivial⟩
      walk_at "ga"
      have bu2 : u.natAbs < 2 ^ 200 := Nat.lt_of_le_of_lt bu (by decide +kernel)
      have bz2 : z.natAbs < 2 ^ 200 := Nat.lt_of_le_of_lt bz (by decide +kernel)
      refine k_I (wide_mul bu2 mB (by decide) (by decide) (by decide)) ?_
      walk_at "ga"
      refine k_I (wide_mul bz2 mB (by decide) (by decide) (by decide)) ?_
      walk_at "ga"
      refine ⟨_, _, rfl, Int.mul_ne_zero z0 m0, up_lt (n := 200 + 100) (by decide) (wide_lt bz2 mB), fun Ha xa sa ha => ?_⟩
      rw [Rat.divInt_mul_right m0, hpq] at ha
      walk_at "ga"
      refine ⟨u, z, rfl, z0, hz8, fun Hb xb sb hb => ?_⟩
      rw [hpq] at hb
      walk_at "ga"
      refine ⟨small64 (by simp), fun pc hpc => ?_⟩
      generalize hU : upd _ pc _ = Hc
      obtain ⟨sc, ec⟩ := upd_facts hU hpc
      clear hU
      walk_at "ga"
      have fa := ((ha.fr R9).same sb).same sc
      have fb := (hb.fr (R9.same sa)).same sc
      refine k_repr (.lst (.inl (.inl ec)) (.cons fa.dp (.cons fb.dp .nil))) rp.1 rp.2.1 rp.2.2 ?_
      walk_at "ga"
      refine ⟨small64 (by simp), fun pd hpd => ?_⟩
      generalize hU : upd _ pd _ = Hd
      obtain ⟨sd, ed⟩ := upd_facts hU hpd
      clear hU
      walk_at "ga"
      replace hp := hp.same (sa.trans (sb.trans (sc.trans sd)))
      have Rd := R9.same (sa.trans (sb.trans (sc.trans sd)))
      have Td := T9.ext (sa.trans (sb.trans (sc.trans sd)))
      refine k_repr (.lst (.inl (.inl ed)) (.cons hp.dp (.cons hp.dp .nil))) rp.1 rp.2.1 rp.2.2 ?_
      generalize PyData.shown (.list [fq p, fq p]) = txt
      walk_at "ga"
      refine ite_f (by simp) ?_
      clear fa fb ha hb ec ed sa sb sc sd hpc hpd rp sp bu2 bz2 R7 T7 R8 T8 s8 g9 R9 T9
      walk_at "ga"
      refine ⟨r, _, 60, rfl, Rd, by omega, by decide, by decide, fun He d6 ge Re d60 d61 => ?_⟩
      replace hp := hp.gr ge
      have Te := Td.gr Rd ge
      walk_at "ga"
      refine ⟨th, 1 + d6, rfl, by omega, by omega, fun Hf xf sf hf => ?_⟩
      have mf := mid_divInt (u := th) (w := 1 + d6) (by omega) bt (by omega)
      have ff := hf.fr Re
      clear hf
      generalize Rat.divInt th (1 + d6) = qf at mf ff
      replace hp := hp.same sf
      have Rf := Re.same sf
      walk_at "ga"
      refine k_ix0 hp ?_
      walk_at "ga"
      refine k_ix1 hp ?_
      walk_at "ga"
      refine ⟨small64 (by simp), fun pg hpg => ?_⟩
      generalize hU : upd _ pg _ = Hg
      obtain ⟨sg, eg⟩ := upd_facts hU hpg
      clear hU
      have Rg := Rf.same sg
      walk_at "ga"
      refine ⟨small64 (by simp), fun ph hph => ?_⟩
      generalize hU : upd _ ph _ = Hh
      obtain ⟨sh, eh⟩ := upd_facts hU hph
      clear hU
      have Rh := Rg.same sh
      walk_at "ga"
      refine ⟨th, z, rfl, z0, hz8, fun Hi xi si hi2 => ?_⟩
      have mi := mid_divInt (u := th) z0 bt bz
      have fi := hi2.fr Rh
      clear hi2
      generalize Rat.divInt th z = qi at mi fi
      have Ri := Rh.same si
      walk_at "ga"
      refine ⟨small64 (by simp), fun pj hpj => ?_⟩
      generalize hU : upd _ pj _ = Hj
      obtain ⟨sj, ej⟩ := upd_facts hU hpj
      clear hU
      have Rj := Ri.same sj
      have Tj := Te.ext (sf.trans (sg.trans (sh.trans (si.trans sj))))
      walk_at "ga"
      refine ⟨r, pj, _, _, rfl, Rj, by omega, Ri.ne hpj, ej, by simp, by simp, fun Hk v gk Rk hv => ?_⟩
      have hp1 := hp.same (sg.trans (sh.trans (si.trans sj)))
      replace hp := hp1.gr gk
      have Tk := Tj.gr Rj gk
      obtain ⟨qo, ho, mo⟩ : ∃ qo, Nd.Fr r Hk v qo ∧ Mid qo := by
        simp only [List.mem_cons, List.not_mem_nil, or_false] at hv
        rcases hv with rfl | rfl | rfl | rfl | rfl
        · exact ⟨qf, (ff.same (sg.trans (sh.trans (si.trans sj)))).gr gk, mf⟩
        · exact ⟨p, hp, mp⟩
        · refine ⟨-p, (Fr.same ⟨pg, rfl, Rf.ne hpg, eg⟩ (sh.trans (si.trans sj))).gr gk, ?_, mp.2⟩
          rw [Rat.neg_num, Int.natAbs_neg]
          exact mp.1
        · exact ⟨0, (Fr.same ⟨ph, rfl, Rg.ne hph, eh⟩ (si.trans sj)).gr gk, by decide, by decide⟩
        · exact ⟨qi, (fi.same sj).gr gk, mi⟩
      clear hv hp1 ff fi mf mi eg eh ej sf sg sh si sj hpg hph hpj Rd Td ge Re Te Rf Rg Rh Ri Rj Tj gk
      walk_at "ga"
      refine k_tOr ?_
      walk_at "ga"
      refine ⟨r, _, _, v, p, qo, rfl, Rk, by omega, hp, ho, mp, mo, fun Hl gl Rl => ?_⟩
      replace hp := hp.gr gl
      replace ho := ho.gr gl
      have Tl := Tk.gr Rk gl
      walk_at "ga"
      refine iteF ?_
      walk_at "ga"
      refine ⟨r, _, v, _, qo, p, rfl, Rl, by omega, ho, hp, mo, mp, fun Hm gm Rm => ?_⟩
      replace hp := hp.gr gm
      have Tm := Tl.gr Rl gm
      walk_at "ga"
      refine iteF ?_
      walk_at "ga"
      refine ⟨r, _, _, p, rfl, Rm, by omega, hp, Tm, fun Hn Rn Tn => ?_⟩
      walk_at "ga"
      refine iteF ?_
      walk_at "ga"
      exact ⟨Rn.mono (by omega), Tn, _, _, _, _, _, _, _, rfl⟩
    · obtain ⟨R2, T2, x2, x3, x4, x5, x6, x7, x8, rfl⟩ := hP
      walk_at "ga"
      refine k_andV ?_
      walk_at "ga"
      refine ⟨small64 (by simp), fun p1 hp1 => ?_⟩
      generalize hU : upd _ p1 _ = H3
      obtain ⟨s3, e3⟩ := upd_facts hU hp1
      clear hU
      walk_at "ga"
      refine ⟨small64 (by simp), fun p2 hp2 => ?_⟩
      generalize hU : upd _ p2 _ = H4
      obtain ⟨s4, e4⟩ := upd_facts hU hp2
      clear hU
      walk_at "ga"
      have f1 : Nd.Fr r H4 (.ref p1) 0 := ⟨p1, rfl, R2.ne hp1, s4 _ _ e3⟩
      have f2 : Nd.Fr r H4 (.ref p2) 0 := ⟨p2, rfl, (R2.same s3).ne hp2, e4⟩
      have m0 : Mid 0 := ⟨by decide, by decide⟩
      refine ⟨r, _, _, fq 0, fq 0, 0, 0, rfl, f1.dr, f2.dr, isFq_fq 0, isFq_fq 0, m0, m0, fun H5 s5 => ?_⟩
      have R5 := (R2.same s3).same (s4.trans s5)
      walk_at "ga"
      refine ⟨_, false, rfl, rfl, ?_⟩
      rw [show decide ((0 : Rat) < 0) = false by decide]
      walk_at "ga"
      refine ite_t (by decide) ?_
      walk_at "ga"
      refine ⟨0, -5, rfl, by decide, by decide, fun H6 x6 s6 h6 => ?_⟩
      have f6 := h6.fr R5
      rw [Rat.zero_divInt] at f6
      walk_at "ga"
      refine ⟨small64 (by simp), fun p7 hp7 => ?_⟩
      generalize hU : upd _ p7 _ = H7
      obtain ⟨s7, e7⟩ := upd_facts hU hp7
      clear hU
      have f7 : Nd.Fr r H7 (.ref p7) 0 := ⟨p7, rfl, (R5.same s6).ne hp7, e7⟩
      refine k_eqD (f6.same s7).dp f7.dp (sh_fq _) (sh_fq _) ?_
      rw [show PyData.eqv (fq 0) (fq 0) = true by decide +kernel]
      exact q _
end
end K03

namespace K03
open PySem PySem.Spec PyProof.Rows L2 Nd LamX
theorem all_mk {l : PySem.W.OpenLaw} {w : World} {K : PySem.W.Frag} {h : Heap} {mg : Str → Option Value} {fa f0 f1 f2 f3 f4 f5 f6 f7 f8 f9 f10 f11 f12 f13 f14 f15 f16 f17 f18 f19 f20 CB C0 fI0 cL P1 : Addr} (X : K.In h) (G : h.Ns mainGlobals mg) (hfa : mg "law" = some (.ref fa))
    {od0 an0 od1 an1 od2 an2 od3 an3 od4 an4 od5 an5 od6 an6 od7 an7 od8 an8 od9 an9 od10 an10 od11 an11 od12 an12 od13 an13 od14 an14 od15 an15 od16 an16 od17 an17 od18 an18 od19 an19 od20 an20 : Option Addr} {sl0 sl1 sl2 sl3 sl4 sl5 sl6 sl7 sl8 sl9 sl10 sl11 sl12 sl13 sl14 sl15 sl16 sl17 sl18 sl19 sl20 : Array (Option Value)} {oc0 kV0 dc0 pm0 cd0 ct0 oc1 kV1 dc1 pm1 cd1 ct1 oc2 kV2 dc2 pm2 cd2 ct2 oc3 kV3 dc3 pm3 cd3 ct3 oc4 kV4 dc4 pm4 cd4 ct4 oc5 kV5 dc5 pm5 cd5 ct5 oc6 kV6 dc6 pm6 cd6 ct6 oc7 kV7 dc7 pm7 cd7 ct7 oc8 kV8 dc8 pm8 cd8 ct8 oc9 kV9 dc9 pm9 cd9 ct9 oc10 kV10 dc10 pm10 cd10 ct10 oc11 kV11 dc11 pm11 cd11 ct11 oc12 kV12 dc12 pm12 cd12 ct12 oc13 kV13 dc13 pm13 cd13 ct13 oc14 kV14 dc14 pm14 cd14 ct14 oc15 kV15 dc15 pm15 cd15 ct15 oc16 kV16 dc16 pm16 cd16 ct16 oc17 kV17 dc17 pm17 cd17 ct17 oc18 kV18 dc18 pm18 ct18 oc19 kV19 dc19 pm19 cd19 ct19 oc20 kV20 dc20 pm20 cd20 ct20 : Value}
    (a0 : PySem.W.nsIn K mainGlobals "_shown" = some (some (.ref f0))) (l0 : K.lookup f0 = some ⟨oc0, od0, .func (PySem.W.fnOf "_shown" "_shown" (defArgs s__shown) (defBody s__shown) (defScope s__shown) .none kV0 dc0 pm0 an0 cd0 ct0), sl0⟩) (c0 : PySem.W.codeIn K cd0 "_shown" = true) (k0 : PySem.W.keepIn K (.ref f0) = true)
    (a1 : PySem.W.nsIn K mainGlobals "is_integer" = some (some (.ref f1))) (l1 : K.lookup f1 = some ⟨oc1, od1, .func (PySem.W.fnOf "is_integer" "is_integer" (defArgs s_is_integer) (defBody s_is_integer) (defScope s_is_integer) .none kV1 dc1 pm1 an1 cd1 ct1), sl1⟩) (c1 : PySem.W.codeIn K cd1 "is_integer" = true) (k1 : PySem.W.keepIn K (.ref f1) = true)
    (a2 : PySem.W.nsIn K mainGlobals "is_within" = some (some (.ref f2))) (l2 : K.lookup f2 = some ⟨oc2, od2, .func (PySem.W.fnOf "is_within" "is_within" (defArgs s_is_within) (defBody s_is_within) (defScope s_is_within) .none kV2 dc2 pm2 an2 cd2 ct2), sl2⟩) (c2 : PySem.W.codeIn K cd2 "is_within" = true) (k2 : PySem.W.keepIn K (.ref f2) = true)
    (a3 : PySem.W.nsIn K mainGlobals "are_integers" = some (some (.ref f3))) (l3 : K.lookup f3 = some ⟨oc3, od3, .func (PySem.W.fnOf "are_integers" "are_integers" (defArgs s_are_integers) (defBody s_are_integers) (defScope s_are_integers) .none kV3 dc3 pm3 an3 cd3 ct3), sl3⟩) (c3 : PySem.W.codeIn K cd3 "are_integers" = true) (k3 : PySem.W.keepIn K (.ref f3) = true)
    (a4 : PySem.W.nsIn K mainGlobals "is_fraction" = some (some (.ref f4))) (l4 : K.lookup f4 = some ⟨oc4, od4, .func (PySem.W.fnOf "is_fraction" "is_fraction" (defArgs s_is_fraction) (defBody s_is_fraction) (defScope s_is_fraction) .none kV4 dc4 pm4 an4 cd4 ct4), sl4⟩) (c4 : PySem.W.codeIn K cd4 "is_fraction" = true) (k4 : PySem.W.keepIn K (.ref f4) = true)
    (a5 : PySem.W.nsIn K mainGlobals "need_integer" = some (some (.ref f5))) (l5 : K.lookup f5 = some ⟨oc5, od5, .func (PySem.W.fnOf "need_integer" "need_integer" (defArgs s_need_integer) (defBody s_need_integer) (defScope s_need_integer) .none kV5 dc5 pm5 an5 cd5 ct5), sl5⟩) (c5 : PySem.W.codeIn K cd5 "need_integer" = true) (k5 : PySem.W.keepIn K (.ref f5) = true)
    (a6 : PySem.W.nsIn K mainGlobals "_need_two" = some (some (.ref f6))) (l6 : K.lookup f6 = some ⟨oc6, od6, .func (PySem.W.fnOf "_need_two" "_need_two" (defArgs s__need_two) (defBody s__need_two) (defScope s__need_two) .none kV6 dc6 pm6 an6 cd6 ct6), sl6⟩) (c6 : PySem.W.codeIn K cd6 "_need_two" = true) (k6 : PySem.W.keepIn K (.ref f6) = true)
    (a7 : PySem.W.nsIn K mainGlobals "reduced" = some (some (.ref f7))) (l7 : K.lookup f7 = some ⟨oc7, od7, .func (PySem.W.fnOf "reduced" "reduced" (defArgs s_reduced) (defBody s_reduced) (defScope s_reduced) .none kV7 dc7 pm7 an7 cd7 ct7), sl7⟩) (c7 : PySem.W.codeIn K cd7 "reduced" = true) (k7 : PySem.W.keepIn K (.ref f7) = true)
    (a8 : PySem.W.nsIn K mainGlobals "added" = some (some (.ref f8))) (l8 : K.lookup f8 = some ⟨oc8, od8, .func (PySem.W.fnOf "added" "added" (defArgs s_added) (defBody s_added) (defScope s_added) .none kV8 dc8 pm8 an8 cd8 ct8), sl8⟩) (c8 : PySem.W.codeIn K cd8 "added" = true) (k8 : PySem.W.keepIn K (.ref f8) = true)
    (a9 : PySem.W.nsIn K mainGlobals "less" = some (some (.ref f9))) (l9 : K.lookup f9 = some ⟨oc9, od9, .func (PySem.W.fnOf "less" "less" (defArgs s_less) (defBody s_less) (defScope s_less) .none kV9 dc9 pm9 an9 cd9 ct9), sl9⟩) (c9 : PySem.W.codeIn K cd9 "less" = true) (k9 : PySem.W.keepIn K (.ref f9) = true)
    (a10 : PySem.W.nsIn K mainGlobals "multiplied" = some (some (.ref f10))) (l10 : K.lookup f10 = some ⟨oc10, od10, .func (PySem.W.fnOf "multiplied" "multiplied" (defArgs s_multiplied) (defBody s_multiplied) (defScope s_multiplied) .none kV10 dc10 pm10 an10 cd10 ct10), sl10⟩) (c10 : PySem.W.codeIn K cd10 "multiplied" = true) (k10 : PySem.W.keepIn K (.ref f10) = true)
    (a11 : PySem.W.nsIn K mainGlobals "below" = some (some (.ref f11))) (l11 : K.lookup f11 = some ⟨oc11, od11, .func (PySem.W.fnOf "below" "below" (defArgs s_below) (defBody s_below) (defScope s_below) .none kV11 dc11 pm11 an11 cd11 ct11), sl11⟩) (c11 : PySem.W.codeIn K cd11 "below" = true) (k11 : PySem.W.keepIn K (.ref f11) = true)
    (a12 : PySem.W.nsIn K mainGlobals "_law_cruet" = some (some (.ref f12))) (l12 : K.lookup f12 = some ⟨oc12, od12, .func (PySem.W.fnOf "_law_cruet" "_law_cruet" (defArgs s__law_cruet) (defBody s__law_cruet) (defScope s__law_cruet) .none kV12 dc12 pm12 an12 cd12 ct12), sl12⟩) (c12 : PySem.W.codeIn K cd12 "_law_cruet" = true) (k12 : PySem.W.keepIn K (.ref f12) = true)
    (a13 : PySem.W.nsIn K mainGlobals "_law_drop" = some (some (.ref f13))) (l13 : K.lookup f13 = some ⟨oc13, od13, .func (PySem.W.fnOf "_law_drop" "_law_drop" (defArgs s__law_drop) (defBody s__law_drop) (defScope s__law_drop) .none kV13 dc13 pm13 an13 cd13 ct13), sl13⟩) (c13 : PySem.W.codeIn K cd13 "_law_drop" = true) (k13 : PySem.W.keepIn K (.ref f13) = true)
    (a14 : PySem.W.nsIn K mainGlobals "_law_pick" = some (some (.ref f14))) (l14 : K.lookup f14 = some ⟨oc14, od14, .func (PySem.W.fnOf "_law_pick" "_law_pick" (defArgs s__law_pick) (defBody s__law_pick) (defScope s__law_pick) .none kV14 dc14 pm14 an14 cd14 ct14), sl14⟩) (c14 : PySem.W.codeIn K cd14 "_law_pick" = true) (k14 : PySem.W.keepIn K (.ref f14) = true)
    (a15 : PySem.W.nsIn K mainGlobals "_law_integer" = some (some (.ref f15))) (l15 : K.lookup f15 = some ⟨oc15, od15, .func (PySem.W.fnOf "_law_integer" "_law_integer" (defArgs s__law_integer) (defBody s__law_integer) (defScope s__law_integer) .none kV15 dc15 pm15 an15 cd15 ct15), sl15⟩) (c15 : PySem.W.codeIn K cd15 "_law_integer" = true) (k15 : PySem.W.keepIn K (.ref f15) = true)
    (a16 : PySem.W.nsIn K mainGlobals "_law_least" = some (some (.ref f16))) (l16 : K.lookup f16 = some ⟨oc16, od16, .func (PySem.W.fnOf "_law_least" "_law_least" (defArgs s__law_least) (defBody s__law_least) (defScope s__law_least) .none kV16 dc16 pm16 an16 cd16 ct16), sl16⟩) (c16 : PySem.W.codeIn K cd16 "_law_least" = true) (k16 : PySem.W.keepIn K (.ref f16) = true)
    (a17 : PySem.W.nsIn K mainGlobals "_law_both_right" = some (some (.ref f17))) (l17 : K.lookup f17 = some ⟨oc17, od17, .func (PySem.W.fnOf "_law_both_right" "_law_both_right" (defArgs s__law_both_right) (defBody s__law_both_right) (defScope s__law_both_right) .none kV17 dc17 pm17 an17 cd17 ct17), sl17⟩) (c17 : PySem.W.codeIn K cd17 "_law_both_right" = true) (k17 : PySem.W.keepIn K (.ref f17) = true)
    (a18 : PySem.W.nsIn K mainGlobals "_law_refused_right" = some (some (.ref f18))) (l18 : K.lookup f18 = some ⟨oc18, od18, .func (PySem.W.fnOf "_law_refused_right" "_law_refused_right" (defArgs s__law_refused_right) (defBody s__law_refused_right) (defScope s__law_refused_right) .none kV18 dc18 pm18 an18 (.ref cL) ct18), sl18⟩) (c18 : PySem.W.codeIn K (.ref cL) "_law_refused_right" = true) (k18 : PySem.W.keepIn K (.ref f18) = true)
    (a19 : PySem.W.nsIn K mainGlobals "law" = some (some (.ref f19))) (l19 : K.lookup f19 = some ⟨oc19, od19, .func (PySem.W.fnOf "law" "law" (defArgs s_law) (defBody s_law) (defScope s_law) .none kV19 dc19 pm19 an19 cd19 ct19), sl19⟩) (c19 : PySem.W.codeIn K cd19 "law" = true) (k19 : PySem.W.keepIn K (.ref f19) = true)
    (a20 : PySem.W.nsIn K mainGlobals "_law_heard" = some (some (.ref f20))) (l20 : K.lookup f20 = some ⟨oc20, od20, .func (PySem.W.fnOf "_law_heard" "_law_heard" (defArgs s__law_heard) (defBody s__law_heard) (defScope s__law_heard) .none kV20 dc20 pm20 an20 cd20 ct20), sl20⟩) (c20 : PySem.W.codeIn K cd20 "_law_heard" = true) (k20 : PySem.W.keepIn K (.ref f20) = true)
    (z_int : PySem.W.nsIn K mainGlobals "int" = some none)
    (z_bool : PySem.W.nsIn K mainGlobals "bool" = some none)
    (z_str : PySem.W.nsIn K mainGlobals "str" = some none)
    (z_len : PySem.W.nsIn K mainGlobals "len" = some none)
    (z_all : PySem.W.nsIn K mainGlobals "all" = some none)
    (z_list : PySem.W.nsIn K mainGlobals "list" = some none)
    (z_tuple : PySem.W.nsIn K mainGlobals "tuple" = some none)
    (z_isinstance : PySem.W.nsIn K mainGlobals "isinstance" = some none)
    (z_range : PySem.W.nsIn K mainGlobals "range" = some none)
    (z_repr : PySem.W.nsIn K mainGlobals "repr" = some none)
    (z_abs : PySem.W.nsIn K mainGlobals "abs" = some none)
    (z_gcd : PySem.W.nsIn K mainGlobals "gcd" = some (some (.builtin "math.gcd")))
    (aB : PySem.W.nsIn K mainGlobals "HandError" = some (some (.ref CB))) (eB : PySem.W.subIn K (.ref CB) (.type "BaseException") = some true) (hB : PySem.W.hasDictIn K CB = true) (tB : PySem.W.typeIn K (.ref CB) = some (.type "type")) (rB : PySem.W.readsIn K CB (.type "type") = true) (gB : PySem.W.specialIn K (.ref CB) "__getattribute__" = some (some (.builtin "type.__getattribute__"))) (iB : PySem.W.findCls K (.ref CB) (.type "type") "__init__" = some (.val (.builtin "ValueError.__init__"))) (oc1 : PySem.W.specialIn K (.builtin "object.__class__") "__get__" = some (some (.builtin "getset_descriptor.__get__"))) (oc2 : PySem.W.takesIn K (.builtin "object.__class__") = some true)
    {nm0 q0 : Str} {N0 : Addr} {bs0 : List Value} {sn0 : List Str} {sub0 : List Value} {ab0 : Bool} {col0 : Option Bool} {dd0 : Option Addr} {m0_0 m1_0 m2_0 m3_0 m5_0 : Option Value} {odI0 anI0 : Option Addr} {slI0 : Array (Option Value)} {ocI0 kVI0 dcI0 pmI0 cdI0 ctI0 : Value}
    (aC0 : PySem.W.nsIn K mainGlobals "BadNumber" = some (some (.ref C0))) (xC0 : K.lookup C0 = some (excClassObj nm0 q0 C0 N0 bs0 [.ref CB, .type "ValueError", .type "Exception", .type "BaseException", .type "object"] true sn0 sub0 ab0 col0 dd0 m0_0 m1_0 m2_0 m3_0 m5_0 "ValueError.__new__"))
    (sa0 : PySem.W.findIn K (.ref C0) "__setattr__" = some (some (.builtin "object.__setattr__"))) (ga0 : PySem.W.findIn K (.ref C0) "__getattribute__" = some (some (.builtin "BaseException.__getattribute__"))) (gg0 : PySem.W.findIn K (.ref C0) "__getattr__" = some none) (nb0 : PySem.W.findIn K (.ref C0) "part" = some none) (cc0 : PySem.W.findIn K (.ref C0) "__class__" = some (some (.builtin "object.__class__"))) (mo0 : PySem.W.mroIn K C0 (.type "object") = some true)
    (iC0 : PySem.W.findIn K (.ref C0) "__init__" = some (some (.ref fI0))) (tI0 : PySem.W.typeIn K (.ref fI0) = some (.type "function")) (lI0 : K.lookup fI0 = some ⟨ocI0, odI0, .func (PySem.W.fnOf "__init__" "BadNumber.__init__" (defArgs s_BadNumber___init__) (defBody s_BadNumber___init__) (defScope s_BadNumber___init__) .none kVI0 dcI0 pmI0 anI0 cdI0 ctI0), slI0⟩) (cI0 : PySem.W.codeIn K cdI0 "BadNumber.__init__" = true) (kI0 : PySem.W.keepIn K (.ref fI0) = true)
    (kC0 : PySem.W.keepIn K (.ref C0) = true) (eC0 : PySem.W.subIn K (.ref C0) (.type "BaseException") = some true) (tC0 : PySem.W.typeIn K (.ref C0) = some (.type "type")) (hC0 : PySem.W.hasDictIn K C0 = true) (isC0 : PySem.W.isClsIn K C0 = true) (sC0 : PySem.W.subIn K (.ref C0) (.ref CB) = some true)
    (tP : h.get? P1 = some { cls := .none, data := .fields #[] }) (nP : K.lookup P1 = none) (cP : PySem.W.codeHdIn K cL P1 = true)
    : ∃ (fd : FuncData) (c P1 : Addr) (sp : Sp), h.get? P1 = some { cls := .none, data := .fields #[] } ∧ K.lookup P1 = none ∧ PySem.W.CodeHd h c P1 ∧ (∀ (s : Shared) (v : Value), BindsTo s fd ⟨[v], []⟩ [("script", v)]) ∧ (∀ (H : Hp) (a : Addr) (ns : List Int), ns.length ≤ 63 → H P1 = some (.tbl #[]) → SqL K H a (ns.map V.int) → sp [.ref a] H (fun v _ => v = .bl true) E0) ∧
      ∀ base : Heap, K.In base → base.Ns mainGlobals mg → TabB base mg c P1 → FnG l.prog w K mg base CX0 10 fa fd ["script"] sp := by
  have e := hfa.symm.trans (PySem.W.mg_of X G a19)
  cases e
  have F0 := fun_mk (st := s__shown) l0 c0 k0
  have b0 := F0.binds (ps := ["field"]) fun _ _ _ _ _ _ us hl => match us, hl with | [_], _ => rfl
  have g0 := PySem.W.mg_of X G a0
  have F1 := fun_mk (st := s_is_integer) l1 c1 k1
  have b1 := F1.binds (ps := ["value"]) fun _ _ _ _ _ _ us hl => match us, hl with | [_], _ => rfl
  have g1 := PySem.W.mg_of X G a1
  have F2 := fun_mk (st := s_is_within) l2 c2 k2
  have b2 := F2.binds (ps := ["value", "least", "most"]) fun _ _ _ _ _ _ us hl => match us, hl with | [_, _, _], _ => rfl
  have g2 := PySem.W.mg_of X G a2
  have F3 := fun_mk (st := s_are_integers) l3 c3 k3
  have b3 := F3.binds (ps := ["value", "many"]) fun _ _ _ _ _ _ us hl => match us, hl with | [_, _], _ => rfl
  have g3 := PySem.W.mg_of X G a3
  have F4 := fun_mk (st := s_is_fraction) l4 c4 k4
  have b4 := F4.binds (ps := ["value"]) fun _ _ _ _ _ _ us hl => match us, hl with | [_], _ => rfl
  have g4 := PySem.W.mg_of X G a4
  have F5 := fun_mk (st := s_need_integer) l5 c5 k5
  have b5 := F5.binds (ps := ["value", "part", "least", "most"]) fun _ _ _ _ _ _ us hl => match us, hl with | [_, _, _, _], _ => rfl
  have g5 := PySem.W.mg_of X G a5
  have F6 := fun_mk (st := s__need_two) l6 c6 k6
  have b6 := F6.binds (ps := ["one", "other"]) fun _ _ _ _ _ _ us hl => match us, hl with | [_, _], _ => rfl
  have g6 := PySem.W.mg_of X G a6
  have F7 := fun_mk (st := s_reduced) l7 c7 k7
  have b7 := F7.binds (ps := ["up", "down"]) fun _ _ _ _ _ _ us hl => match us, hl with | [_, _], _ => rfl
  have g7 := PySem.W.mg_of X G a7
  have F8 := fun_mk (st := s_added) l8 c8 k8
  have b8 := F8.binds (ps := ["one", "other"]) fun _ _ _ _ _ _ us hl => match us, hl with | [_, _], _ => rfl
  have g8 := PySem.W.mg_of X G a8
  have F9 := fun_mk (st := s_less) l9 c9 k9
  have b9 := F9.binds (ps := ["one", "other"]) fun _ _ _ _ _ _ us hl => match us, hl with | [_, _], _ => rfl
  have g9 := PySem.W.mg_of X G a9
  have F10 := fun_mk (st := s_multiplied) l10 c10 k10
  have b10 := F10.binds (ps := ["one", "other"]) fun _ _ _ _ _ _ us hl => match us, hl with | [_, _], _ => rfl
  have g10 := PySem.W.mg_of X G a10
  have F11 := fun_mk (st := s_below) l11 c11 k11
  have b11 := F11.binds (ps := ["one", "other"]) fun _ _ _ _ _ _ us hl => match us, hl with | [_, _], _ => rfl
  have g11 := PySem.W.mg_of X G a11
  have F12 := fun_mk (st := s__law_cruet) l12 c12 k12
  have b12 := F12.binds (ps := ["script"]) fun _ _ _ _ _ _ us hl => match us, hl with | [_], _ => rfl
  have g12 := PySem.W.mg_of X G a12
  have F13 := fun_mk (st := s__law_drop) l13 c13 k13
  have b13 := F13.binds (ps := ["cruet", "many"]) fun _ _ _ _ _ _ us hl => match us, hl with | [_, _], _ => rfl
  have g13 := PySem.W.mg_of X G a13
  have F14 := fun_mk (st := s__law_pick) l14 c14 k14
  have b14 := F14.binds (ps := ["cruet", "some"]) fun _ _ _ _ _ _ us hl => match us, hl with | [_, _], _ => rfl
  have g14 := PySem.W.mg_of X G a14
  have F15 := fun_mk (st := s__law_integer) l15 c15 k15
  have b15 := F15.binds (ps := ["cruet"]) fun _ _ _ _ _ _ us hl => match us, hl with | [_], _ => rfl
  have g15 := PySem.W.mg_of X G a15
  have F16 := fun_mk (st := s__law_least) l16 c16 k16
  have b16 := F16.binds (ps := ["up", "down"]) fun _ _ _ _ _ _ us hl => match us, hl with | [_, _], _ => rfl
  have g16 := PySem.W.mg_of X G a16
  have F17 := fun_mk (st := s__law_both_right) l17 c17 k17
  have b17 := F17.binds (ps := ["cruet", "one", "other"]) fun _ _ _ _ _ _ us hl => match us, hl with | [_, _, _], _ => rfl
  have g17 := PySem.W.mg_of X G a17
  have F18 := fun_mk (st := s__law_refused_right) l18 c18 k18
  have b18 := F18.binds (ps := ["cruet", "one"]) fun _ _ _ _ _ _ us hl => match us, hl with | [_, _], _ => rfl
  have g18 := PySem.W.mg_of X G a18
  have F19 := fun_mk (st := s_law) l19 c19 k19
  have F20 := fun_mk (st := s__law_heard) l20 c20 k20
  have b20 := F20.binds (ps := ["ask"]) fun _ _ _ _ _ _ us hl => match us, hl with | [_], _ => rfl
  have g20 := PySem.W.mg_of X G a20
  have FI0 := fun_mk (x := "__init__") (qual := "BadNumber.__init__") (st := s_BadNumber___init__) lI0 cI0 kI0
  have bI0 := FI0.binds (ps := ["self", "part"]) fun _ _ _ _ _ _ us hl => match us, hl with | [_, _], _ => rfl
  have oe0 : OexC K C0 := ⟨⟨nm0, q0, N0, bs0, _, sn0, sub0, ab0, col0, dd0, m0_0, m1_0, m2_0, m3_0, m5_0, xC0, by rfl⟩, sa0, eC0, tC0, kC0⟩
  have TBadNumber : ErrT K mg "BadNumber" "HandError" C0 CB := { gC := PySem.W.mg_of X G aC0, gB := PySem.W.mg_of X G aB, exm := PySem.W.exm_ref eB hB tB sC0, oex := oe0, exc := ⟨ga0, gg0, eC0, hC0, cc0, oc1, oc2, mo0⟩, cls := isC0, xf := ⟨ga0, gg0, eC0, hC0⟩, he := ⟨rB, gB, iB⟩, noP := nb0 }
  have T : TxtC mg := { m_gcd := PySem.W.mg_of X G z_gcd, m_int := PySem.W.mg_none_of X G z_int, m_bool := PySem.W.mg_none_of X G z_bool, m_str := PySem.W.mg_none_of X G z_str, m_len := PySem.W.mg_none_of X G z_len, m_all := PySem.W.mg_none_of X G z_all, m_list := PySem.W.mg_none_of X G z_list, m_tuple := PySem.W.mg_none_of X G z_tuple, m_isinstance := PySem.W.mg_none_of X G z_isinstance, m_range := PySem.W.mg_none_of X G z_range, m_repr := PySem.W.mg_none_of X G z_repr }
  have T0 : Txt mg := ⟨T.m_int, T.m_len, PySem.W.mg_none_of X G z_abs⟩
  refine ⟨PySem.W.fnOf "law" "law" (defArgs s_law) (defBody s_law) (defScope s_law) .none kV19 dc19 pm19 an19 cd19 ct19, cL, P1, spLaw K P1, tP, nP, PySem.W.codeHd_of_K X cP, fun s v => .of_eq rfl, fun H a ns hl hT hS => ⟨a, ns, rfl, hS, hl, hT, fun _ => rfl⟩, fun base _ _ TB => ?_⟩
  have Te__law_heard : Tells l.prog w K mg base "_law_heard" 7 (TTpart C0) := tells_part F20 g20 k20 b20 TBadNumber T.m_isinstance
  have C__shown : Cal l.prog w K mg base CX0 1 "_shown" spShown := ⟨f0, _, _, ok_shown F0 T, g0, k0, b0⟩
  have M_BadNumber : MkE l.prog w K mg base "BadNumber" C0 2 (spInit C0 ["part"]) := ⟨oe0, TBadNumber.gC, fI0, _, _, iC0, tI0, ok_BadNumber FI0 TBadNumber C__shown, bI0⟩
  have C_is_integer : Cal l.prog w K mg base CX0 1 "is_integer" spIsInt := ⟨f1, _, _, ok_is_integer F1 T, g1, k1, b1⟩
  have C_is_within : Cal l.prog w K mg base CX0 2 "is_within" spWithin := ⟨f2, _, _, ok_is_within F2 C_is_integer, g2, k2, b2⟩
  have C_are_integers : Cal l.prog w K mg base CX0 2 "are_integers" spAreInts := ⟨f3, _, _, ok_are_integers F3 T C_is_integer, g3, k3, b3⟩
  have C_is_fraction : Cal l.prog w K mg base CX0 3 "is_fraction" spFrac := ⟨f4, _, _, ok_is_fraction F4 T C_are_integers, g4, k4, b4⟩
  have CX_need_integer : Cal l.prog w K mg base (L2.CX l.prog w) 4 "need_integer" (spNeedX C0) := ⟨f5, _, _, ok_needX F5 C_is_within M_BadNumber, g5, k5, b5⟩
  have CX__need_two : Cal l.prog w K mg base (L2.CX l.prog w) 4 "_need_two" (spTwoX C0) := ⟨f6, _, _, ok_need_two F6 C_is_fraction M_BadNumber, g6, k6, b6⟩
  have CX_reduced : Cal l.prog w K mg base (L2.CX l.prog w) 5 "reduced" (spRedX C0) := ⟨f7, _, _, ok_reduced F7 T CX_need_integer M_BadNumber, g7, k7, b7⟩
  have C_reduced : Cal l.prog w K mg base CX0 5 "reduced" spRed := CX_reduced.calm.weaken fun _ _ _ _ h => spRed_of (E := E0) h
  have CX_added : Cal l.prog w K mg base (L2.CX l.prog w) 6 "added" (spBinX C0 (· + ·)) := ⟨f8, _, _, ok_added F8 CX__need_two C_reduced, g8, k8, b8⟩
  have CX_less : Cal l.prog w K mg base (L2.CX l.prog w) 6 "less" (spBinX C0 (· - ·)) := ⟨f9, _, _, ok_less F9 CX__need_two C_reduced, g9, k9, b9⟩
  have CX_multiplied : Cal l.prog w K mg base (L2.CX l.prog w) 6 "multiplied" (spBinX C0 (· * ·)) := ⟨f10, _, _, ok_multiplied F10 CX__need_two C_reduced, g10, k10, b10⟩
  have CX_below : Cal l.prog w K mg base (L2.CX l.prog w) 6 "below" (spBelowX C0) := ⟨f11, _, _, ok_below F11 CX__need_two, g11, k11, b11⟩
  have CKX_reduced_down_up : CalK l.prog w K mg base (L2.CX l.prog w) 5 "reduced" ["down", "up"] [1, 0] (spRedX C0) := ⟨f7, _, _, ok_reduced F7 T CX_need_integer M_BadNumber, g7, k7, kwBinds (ks := ["down", "up"]) (ix := [1, 0]) F7 fun _ _ _ _ _ _ ws hl => match ws, hl with | [_, _], _ => rfl⟩
  have CKX_added_other_one : CalK l.prog w K mg base (L2.CX l.prog w) 6 "added" ["other", "one"] [1, 0] (spBinX C0 (· + ·)) := ⟨f8, _, _, ok_added F8 CX__need_two C_reduced, g8, k8, kwBinds (ks := ["other", "one"]) (ix := [1, 0]) F8 fun _ _ _ _ _ _ ws hl => match ws, hl with | [_, _], _ => rfl⟩
  have CKX_less_other_one : CalK l.prog w K mg base (L2.CX l.prog w) 6 "less" ["other", "one"] [1, 0] (spBinX C0 (· - ·)) := ⟨f9, _, _, ok_less F9 CX__need_two C_reduced, g9, k9, kwBinds (ks := ["other", "one"]) (ix := [1, 0]) F9 fun _ _ _ _ _ _ ws hl => match ws, hl with | [_, _], _ => rfl⟩
  have CKX_multiplied_other_one : CalK l.prog w K mg base (L2.CX l.prog w) 6 "multiplied" ["other", "one"] [1, 0] (spBinX C0 (· * ·)) := ⟨f10, _, _, ok_multiplied F10 CX__need_two C_reduced, g10, k10, kwBinds (ks := ["other", "one"]) (ix := [1, 0]) F10 fun _ _ _ _ _ _ ws hl => match ws, hl with | [_, _], _ => rfl⟩
  have CKX_below_other_one : CalK l.prog w K mg base (L2.CX l.prog w) 6 "below" ["other", "one"] [1, 0] (spBelowX C0) := ⟨f11, _, _, ok_below F11 CX__need_two, g11, k11, kwBinds (ks := ["other", "one"]) (ix := [1, 0]) F11 fun _ _ _ _ _ _ ws hl => match ws, hl with | [_, _], _ => rfl⟩
  have CK_reduced_down_up : CalK l.prog w K mg base CX0 5 "reduced" ["down", "up"] [1, 0] spRed := CKX_reduced_down_up.calm.weaken fun _ _ _ _ h => spRed_of (E := E0) h
  have C_added : Cal l.prog w K mg base CX0 6 "added" (spAny (· + ·)) := CX_added.calm.weaken fun _ _ _ _ h => spAny_of (E := E0) h
  have CK_added_other_one : CalK l.prog w K mg base CX0 6 "added" ["other", "one"] [1, 0] (spAny (· + ·)) := CKX_added_other_one.calm.weaken fun _ _ _ _ h => spAny_of (E := E0) h
  have CXr_added : Cal l.prog w K mg base (L2.CX l.prog w) 6 "added" (spRefuse C0) := CX_added.weaken fun _ _ _ _ h => spRefuse_bin h
  have C_less : Cal l.prog w K mg base CX0 6 "less" (spAny (· - ·)) := CX_less.calm.weaken fun _ _ _ _ h => spAny_of (E := E0) h
  have CK_less_other_one : CalK l.prog w K mg base CX0 6 "less" ["other", "one"] [1, 0] (spAny (· - ·)) := CKX_less_other_one.calm.weaken fun _ _ _ _ h => spAny_of (E := E0) h
  have CXr_less : Cal l.prog w K mg base (L2.CX l.prog w) 6 "less" (spRefuse C0) := CX_less.weaken fun _ _ _ _ h => spRefuse_bin h
  have C_multiplied : Cal l.prog w K mg base CX0 6 "multiplied" (spAny (· * ·)) := CX_multiplied.calm.weaken fun _ _ _ _ h => spAny_of (E := E0) h
  have CK_multiplied_other_one : CalK l.prog w K mg base CX0 6 "multiplied" ["other", "one"] [1, 0] (spAny (· * ·)) := CKX_multiplied_other_one.calm.weaken fun _ _ _ _ h => spAny_of (E := E0) h
  have CXr_multiplied : Cal l.prog w K mg base (L2.CX l.prog w) 6 "multiplied" (spRefuse C0) := CX_multiplied.weaken fun _ _ _ _ h => spRefuse_bin h
  have C_below : Cal l.prog w K mg base CX0 6 "below" spBelowA := CX_below.calm.weaken fun _ _ _ _ h => spBelowA_of (E := E0) h
  have CK_below_other_one : CalK l.prog w K mg base CX0 6 "below" ["other", "one"] [1, 0] spBelowA := CKX_below_other_one.calm.weaken fun _ _ _ _ h => spBelowA_of (E := E0) h
  have CXr_below : Cal l.prog w K mg base (L2.CX l.prog w) 6 "below" (spRefuse C0) := CX_below.weaken fun _ _ _ _ h => spRefuse_below h
  have C__law_cruet : Cal l.prog w K mg base CX0 1 "_law_cruet" (spRiddle K) := ⟨f12, _, _, ok_riddle F12 T0, g12, k12, b12⟩
  have C__law_drop : Cal l.prog w K mg base CX0 1 "_law_drop" spDraw := ⟨f13, _, _, ok_shake F13 T0, g13, k13, b13⟩
  have C__law_pick : Cal l.prog w K mg base CX0 2 "_law_pick" spPick := ⟨f14, _, _, ok_pick F14 T0 C__law_drop, g14, k14, b14⟩
  have C__law_integer : Cal l.prog w K mg base CX0 3 "_law_integer" (spNum 3 (10 ^ 60)) := ⟨f15, _, _, ok_integer F15 C__law_drop C__law_pick, g15, k15, b15⟩
  have C__law_least : Cal l.prog w K mg base CX0 1 "_law_least" spLeast := ⟨f16, _, _, ok_least F16 T0, g16, k16, b16⟩
  have C__law_both_right : Cal l.prog w K mg base CX0 7 "_law_both_right" spBoth := ⟨f17, _, _, ok_both F17 T C__law_drop C__law_least C_added C_less C_multiplied C_below CK_added_other_one CK_less_other_one CK_multiplied_other_one CK_below_other_one, g17, k17, b17⟩
  have C__law_refused_right : Cal l.prog w K mg base CX0 9 "_law_refused_right" (spRef P1) := ⟨f18, _, _, ok_refused F18 rfl TB T C__law_pick CXr_added CXr_less CXr_multiplied CXr_below CX_reduced Te__law_heard, g18, k18, b18⟩
  exact ok_law F19 T C__law_cruet C__law_drop C__law_pick C__law_integer C__law_least C_reduced CK_reduced_down_up C_below C__law_both_right C__law_refused_right
end K03
open PySem PySem.W PyProof.Rows
set_option maxHeartbeats 0 in
theorem PySem.Challenge.cw_nodice_k03_fractions_by_own_reckoning_holds : PySem.Challenge.rw_nodice_k03_fractions_by_own_reckoning.Holds := by
  w_on; o_law; k_head; (case hw => w_witness2)
  k_fill
  refine Nd.walkT (l := PySem.Challenge.rw_nodice_k03_fractions_by_own_reckoning) (n := 63) (k := 10) (x := "script") (CX := fun _ => L2.CX0) rfl (by decide) rfl ⟨rfl, by decide, by decide⟩ (fun w h Y => PySem.W.km_in_of Y) ?F (fun _ _ _ _ _ h => h)
  case F =>
    intro w mg fa h Y KX G hmg
    refine' K03.all_mk KX G hmg ?a0 ?l0 ?c0 ?k0 ?a1 ?l1 ?c1 ?k1 ?a2 ?l2 ?c2 ?k2 ?a3 ?l3 ?c3 ?k3 ?a4 ?l4 ?c4 ?k4 ?a5 ?l5 ?c5 ?k5 ?a6 ?l6 ?c6 ?k6 ?a7 ?l7 ?c7 ?k7 ?a8 ?l8 ?c8 ?k8 ?a9 ?l9 ?c9 ?k9 ?a10 ?l10 ?c10 ?k10 ?a11 ?l11 ?c11 ?k11 ?a12 ?l12 ?c12 ?k12 ?a13 ?l13 ?c13 ?k13 ?a14 ?l14 ?c14 ?k14 ?a15 ?l15 ?c15 ?k15 ?a16 ?l16 ?c16 ?k16 ?a17 ?l17 ?c17 ?k17 ?a18 ?l18 ?c18 ?k18 ?a19 ?l19 ?c19 ?k19 ?a20 ?l20 ?c20 ?k20 ?z_int ?z_bool ?z_str ?z_len ?z_all ?z_list ?z_tuple ?z_isinstance ?z_range ?z_repr ?z_abs ?z_gcd ?aB ?eB ?hB ?tB ?rB ?gB ?iB ?oc1 ?oc2 ?aC0 ?xC0 ?sa0 ?ga0 ?gg0 ?nb0 ?cc0 ?mo0 ?iC0 ?tI0 ?lI0 ?cI0 ?kI0 ?kC0 ?eC0 ?tC0 ?hC0 ?isC0 ?sC0 ?tP ?nP ?cP
    (case a0 => k_is); (case l0 => k_is); (case c0 => k_is); (case k0 => k_is); (case a1 => k_is); (case l1 => k_is); (case c1 => k_is); (case k1 => k_is); (case a2 => k_is); (case l2 => k_is); (case c2 => k_is); (case k2 => k_is); (case a3 => k_is); (case l3 => k_is); (case c3 => k_is); (case k3 => k_is); (case a4 => k_is); (case l4 => k_is); (case c4 => k_is); (case k4 => k_is); (case a5 => k_is); (case l5 => k_is); (case c5 => k_is); (case k5 => k_is); (case a6 => k_is); (case l6 => k_is); (case c6 => k_is); (case k6 => k_is); (case a7 => k_is); (case l7 => k_is); (case c7 => k_is); (case k7 => k_is); (case a8 => k_is); (case l8 => k_is); (case c8 => k_is); (case k8 => k_is); (case a9 => k_is); (case l9 => k_is); (case c9 => k_is); (case k9 => k_is); (case a10 => k_is); (case l10 => k_is); (case c10 => k_is); (case k10 => k_is); (case a11 => k_is); (case l11 => k_is); (case c11 => k_is); (case k11 => k_is); (case a12 => k_is); (case l12 => k_is); (case c12 => k_is); (case k12 => k_is); (case a13 => k_is); (case l13 => k_is); (case c13 => k_is); (case k13 => k_is); (case a14 => k_is); (case l14 => k_is); (case c14 => k_is); (case k14 => k_is); (case a15 => k_is); (case l15 => k_is); (case c15 => k_is); (case k15 => k_is); (case a16 => k_is); (case l16 => k_is); (case c16 => k_is); (case k16 => k_is); (case a17 => k_is); (case l17 => k_is); (case c17 => k_is); (case k17 => k_is); (case a18 => k_is); (case l18 => k_is); (case c18 => k_is); (case k18 => k_is); (case a19 => k_is); (case l19 => k_is); (case c19 => k_is); (case k19 => k_is); (case a20 => k_is); (case l20 => k_is); (case c20 => k_is); (case k20 => k_is); (case z_int => k_is); (case z_bool => k_is); (case z_str => k_is); (case z_len => k_is); (case z_all => k_is); (case z_list => k_is); (case z_tuple => k_is); (case z_isinstance => k_is); (case z_range => k_is); (case z_repr => k_is); (case z_abs => k_is); (case z_gcd => k_is); (case aB => k_is); (case eB => k_is); (case hB => k_is); (case tB => k_is); (case rB => k_is); (case gB => k_is); (case iB => k_is); (case oc1 => k_is); (case oc2 => k_is); (case aC0 => k_is); (case xC0 => k_is); (case sa0 => k_is); (case ga0 => k_is); (case gg0 => k_is); (case nb0 => k_is); (case cc0 => k_is); (case mo0 => k_is); (case iC0 => k_is); (case tI0 => k_is); (case lI0 => k_is); (case cI0 => k_is); (case kI0 => k_is); (case kC0 => k_is); (case eC0 => k_is); (case tC0 => k_is); (case hC0 => k_is); (case isC0 => k_is); (case sC0 => k_is)
    (case tP => exact PySem.W.km_tabs_of Y _ (List.Mem.head _)); (case nP => kernel_rfl); (case cP => kernel_rfl)
