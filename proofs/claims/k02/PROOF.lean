import PyProof.Rows.All
import Wide.All
import OpenK.AllK
import Wide.FinOn
import HandS.ForMost
import HandS.Wide
import HandS.IsInst
import HandS.Gcd
import HandS.Style
import HandS.Flow
import HandS.NoneIn
import HandS.Defaults
import PyProof.ReprRoads
import PySem.Challenge.RW_nodice_k02_what_any_value_is
set_option Elab.async false
set_option linter.all false
set_option maxRecDepth 100000
set_option maxHeartbeats 4000000
namespace Nd
open PySem PySem.Spec PyProof.Rows L2

/-! ### defs that may only be called where nothing is being shown -/
structure FnG (P : Program) (w : World) (K : PySem.W.Frag) (mg : Str → Option Value) (base : Heap)
    (CX : CXT) (k : Nat) (f : Addr) (fd : FuncData) (ps : List Str) (sp : Sp) : Prop where
  many : ∀ vs H Q E, sp vs H Q E → vs.length = ps.length
  go : ∀ (A : Around) (fr : List Env) (s : Shared) (H : Hp) (args : Args) (us : List Value)
    (vs : List V) (Q : VK) (E : XK), A.guards = some [] → Room k A →
    Env0 P w K mg base A fr s H → BindsTo s fd args (ps.zip us) → Vals vs us → sp vs H Q E →
    codeAny (model P w) A (.call (.ref f) args) (CR CX fr P w H s Q E) s

section
variable {P : Program} {w : World} {K : PySem.W.Frag} {mg : Str → Option Value} {base : Heap}
theorem FnG.ofOk {CX : CXT} {k : Nat} {f : Addr} {fd : FuncData} {ps : List Str} {sp : Sp}
    (F : FnOk P w K mg base CX k f fd ps sp) : FnG P w K mg base CX k f fd ps sp :=
  ⟨F.len, fun A fr s H args us vs Q E _ hr => F.run A fr s H args us vs Q E hr⟩

theorem okG {CX : CXT} {x qual : Str} {st : Stmt} {f : Addr} {fd : FuncData} {N ps : List Str}
    {k : Nat} {sp : Sp} (F : Fun K x qual st f fd) (S : FnScope N ps (defScope st))
    (many : ∀ vs H Q E, sp vs H Q E → vs.length = ps.length)
    (body : ∀ (cdv : Value) (A : Around) (fr : List Env) (s : Shared) (H : Hp) (vs : List V)
      (Q : VK) (E : XK),
      (cxOf CX P w K mg base N qual (defScope st) f cdv A fr s H E).A.guards = some [] →
      Room k (cxOf CX P w K mg base N qual (defScope st) f cdv A fr s H E).A → sp vs H Q E →
      ∃ t, PSs (cxOf CX P w K mg base N qual (defScope st) f cdv A fr s H E) (defBody st) t ∧
        t { nx := fun _ H' => Q .non H', rt := Q } (start N vs) H) :
    FnG P w K mg base CX (k + 1) f fd ps sp := by
  obtain ⟨oc, od, kV, doc, pm, an, cdv, ct, osl, rfl, lk, hcd⟩ := F.ex
  refine ⟨many, ?_⟩
  intro A fr s H args us vs Q E hG room env bind rel want
  have inK := env.mod.kin.keeps fun b o e => (env.bs b o e).1
  have noL := env.mod.nolimit.keeps fun b o e => (env.bs b o e).1
  have kinds : ∀ y ∈ ps.zip us, (defScope st).names.lookup y.1 = some .local ∨
      ((defScope st).names.lookup y.1 = some .cell ∧
        ((cellsFrom (s.heap.objs.size + 1) (defScope st).names []).lookup y.1).isSome = true) := by
    rintro ⟨n, v⟩ hy
    cases S.par n (List.of_mem_zip hy).1 with
    | inl q => exact .inl q
    | inr q => exact .inr ⟨q, PySem.W.cellsFrom_some _ _ _ (.inl q)⟩
  apply codeAny_call_function room.depth (inK _ _ lk) rfl S.co S.gen rfl
    (PySem.W.codeRec_of inK hcd) (bind _ _ _ _ ?_)
  apply wpAny_newFunctionEnv_cells S.kind kinds
  rintro env' rfl s1 x
  refine ⟨noL.keeps x.toInCall.keep, codeAny_func ?_⟩
  obtain ⟨t, ht, hq⟩ := body cdv A fr s H vs Q E hG (room.deeper _) want
  have I := inv_start (CX := CX) (E := E) S room.hd env (many _ _ _ _ want) rel x
  refine wpAny_mono (ht.run [] s1 (start N vs) H _ I hq) ?_ fun e s' hs => hs
  intro fl s' hs
  cases fl with
  | brk => exact False.elim hs.choose_spec.choose_spec.2
  | cont => exact False.elim hs.choose_spec.choose_spec.2
  | next =>
    obtain ⟨σ', H', J, q⟩ := hs
    exact ⟨V.non, H', J.os, J.bare, J.base, J.hok, rfl, q⟩
  | ret u =>
    obtain ⟨v, σ', H', J, rv, q⟩ := hs
    exact ⟨v, H', J.os, J.bare, J.base, J.hok, rv, q⟩
end

section
variable {X : Cx} {CX : CXT} {k : Nat} {f : Addr} {fd : FuncData} {ps : List Str} {sp : Sp}
  {dvs : List V} {ds : List Value} {E : XK} {x : Str} {p pos : Pos} {e : Expr} {es : List Expr} {t : TA}
theorem goG {pins : List (Addr × Obj)} {σ : L2.St} {H : Hp} {s : Shared} {Q : VK} {us : List Value}
    {vs : List V} (F : FnG X.prog X.w X.K X.mg X.base CX k f fd ps sp) (hG : X.A.guards = some [])
    (hr : Room k X.A) (hb : Binds X.K fd ps ds) (hd : Vals dvs ds) (hx : Passes CX X E)
    (I : Inv X pins σ H s) (r : Vals vs us) (h : sp (vs ++ dvs) H Q E) :
    wpAny (model X.prog X.w) X.A (call (.ref f) us) (EP X pins σ Q) X.xe s := by
  have r2 := r.append hd
  have hl : (us ++ ds).length = ps.length := r2.length.symm.trans (F.many _ _ _ _ h)
  have run := F.go X.A X.stack s H ⟨us, []⟩ (us ++ ds) (vs ++ dvs) Q E hG hr I.env0
    (hb s us I.kIn hl) r2 h
  refine wpAny_call (codeAny_mono run ?_)
  rintro (e' | fl) s' hq
  · exact hx pins σ H s e' s' I hq
  · cases fl with
    | ret u => exact I.after hq
    | next => exact hq.elim
    | brk => exact hq.elim
    | cont => exact hq.elim

theorem pe_callG (F : FnG X.prog X.w X.K X.mg X.base CX k f fd ps sp) (hG : X.A.guards = some [])
    (hr : Room k X.A) (hg : Gl X x) (hm : X.mg x = some (.ref f))
    (hk : PySem.W.keepIn X.K (.ref f) = true) (hb : Binds X.K fd ps ds) (hd : Vals dvs ds)
    (hx : Passes CX X E) (ha : PA X (e :: es) t)
    (hdb : (x == ("__debug__" : Str)) = false := by decide)
    (he : starEach (e :: es) X.env = (false, eval e X.env) :: starEach es X.env := by rfl)
    (hpl : (backTo pos (starEach es X.env)).any (·.1) = false := by rfl) :
    PE X (.Call (.Name x p) (e :: es) [] pos) (tCall sp dvs E t) := by
  constructor
  intro pins s σ H Q I h
  apply wpAny_Call_Name_kw (ld_glob I hg hm ?_ hdb)
  apply PySem.W.callWith_K (h₀ := X.base) I.ok.mod.kin hk ?_ he hpl
  apply thn (ha.run pos pins s σ H _ I h)
  rintro us s1 ⟨vs, H1, I1, r, q⟩
  exact ⟨I1.kIn, goG F hG hr hb hd hx I1 r q⟩
end

/-! ### the law's own call -/
theorem entG {P : Program} {w : World} {K : PySem.W.Frag} {mg mb : Str → Option Value} {CX : CXT}
    {k : Nat} {fa a : Addr} {fd : FuncData} {x : Str} {sp : Sp} {s₁ : Shared} {vs : List Value}
    {ns : List Int} (KX : K.In s₁.heap) (hns : s₁.heap.Ns mainGlobals mg)
    (hb : s₁.heap.Ns builtinsNs mb) (hbb : ∀ y : Str, y ≠ "__name__" → mb y = bootBuiltins y)
    (hlim : s₁.heap.NoLimit) (hg : s₁.gens = #[])
    (ha : s₁.heap.get? a = some { cls := .type "list", data := .seq vs.toArray })
    (hi : IntsAre vs ns) (hl : ns.length ≤ sizeLine) (hr : Room k callerA)
    (F : ∀ base : Heap, K.In base → base.Ns mainGlobals mg → FnG P w K mg base CX k fa fd [x] sp)
    (hbind : ∀ (s : Shared) (u : Value), BindsTo s fd ⟨[u], []⟩ [(x, u)])
    (hsp : ∀ H : Hp, Only H → SqL K H a (ns.map V.int) → sp [.ref a] H (fun v _ => v = .bl true) E0)
    (hCX : ∀ H e s', CX [] H s₁ E0 e s' → False) :
    codeAny (model P w) callerA (.call (.ref fa) ⟨[.ref a], []⟩)
      (fun r s' => r = .ok (.ret (.bool true)) ∧ OldK s₁.heap s'.heap ∧ s'.os = s₁.os ∧
        AllBare s'.gens) s₁ := by
  have main : ∀ H : Hp, Only H → SqL K H a (ns.map V.int) → HOk P w H s₁.heap →
      (∀ b, H b ≠ none → b = a) → (H a ≠ none → K.lookup a = none) →
      codeAny (model P w) callerA (.call (.ref fa) ⟨[.ref a], []⟩)
        (fun r s' => r = .ok (.ret (.bool true)) ∧ OldK s₁.heap s'.heap ∧ s'.os = s₁.os ∧
          AllBare s'.gens) s₁ := by
    intro H only sq ok one off
    have cases' : ∀ b, H b = none ∨ b = a := fun b => by
      by_cases z : H b = none
      · exact .inl z
      · exact .inr (one b z)
    have dictFree : ∀ {b : Addr} {o : Obj} {es : Array DictEntry} {ep : Nat},
        s₁.heap.get? b = some o → o.data = .dict es ep → H b = none := by
      intro b o es ep e d
      rcases cases' b with z | z
      · exact z
      · subst z
        obtain rfl := Option.some.inj (e.symm.trans ha)
        cases (show Data.seq vs.toArray _ = Data.dict es ep from d)
    have keepNs : ∀ {b : Addr} {m : Str → Option Value}, s₁.heap.Ns b m →
        (hidT s₁.heap H).Ns b m := by
      rintro b m ⟨o, es, ep, e, d, r⟩
      exact ⟨o, es, ep, hidT_get e (dictFree e d), d, r⟩
    have inH : K.In (hidT s₁.heap H) := by
      intro b o e
      refine hidT_get (KX b o e) ?_
      rcases cases' b with z | z
      · exact z
      · subst z
        by_cases y : H b = none
        · exact y
        · cases (off y).symm.trans e
    obtain ⟨mc, l1, l2⟩ := hlim
    have md : Mod K mg (hidT s₁.heap H) :=
      ⟨inH, keepNs hns, ⟨mb, keepNs hb, hbb⟩, mc, keepNs l1, l2⟩
    have env : Env0 P w K mg (hidT s₁.heap H) callerA [] s₁ H :=
      { frames := rfl, mod := md, bs := fun b o e => of_hidT e
        bsz := Nat.le_of_eq (hidT_size _ _), funs := trivial
        frf := fun b hb => (List.not_mem_nil (show b ∈ ([] : List Addr) from hb)).elim
        hok := ok, bare := .of_eq hg }
    have run := (F _ inH (keepNs hns)).go callerA [] s₁ H ⟨[.ref a], []⟩ [.ref a] [.ref a] _ _ rfl hr
      env (hbind s₁ (.ref a)) (.cons rfl .nil) (hsp H only sq)
    refine codeAny_mono run ?_
    rintro (e | fl) s' h
    · exact (hCX H e s' h).elim
    cases fl with
    | next => exact h.elim
    | brk => exact h.elim
    | cont => exact h.elim
    | ret u =>
      obtain ⟨v, H', os, bare, un, ok', rv, rfl⟩ := h
      cases (show u = Value.bool true from rv)
      refine ⟨rfl, .of_keep fun b o e => ?_, os, bare⟩
      rcases only b with z | ⟨ob, xs, z⟩
      · exact un.keep b o e z (fun m => (List.not_mem_nil (show b ∈ ([] : List Addr) from m)).elim) (by simp)
      · have old := (ok b _ z).1
        have new := (ok' b _ (un.frzs b ob _ z)).1
        exact new.trans (old.symm.trans e)
  have rv := vals_ints hi
  by_cases hk : K.lookup a = none
  · let S : Obj := { cls := .type "list", data := .seq vs.toArray }
    let H : Hp := fun b => if b = a then some (.frz S (.lst (ns.map V.int))) else none
    have at' : H a = some (.frz S (.lst (ns.map V.int))) := if_pos rfl
    have off : ∀ b, b ≠ a → H b = none := fun b n => if_neg n
    refine main H (fun b => ?_) (.inl (.inr ⟨S, at'⟩)) (fun b u z => ?_) (fun b z => ?_) fun _ => hk
    · by_cases q : b = a
      · exact .inr ⟨_, _, q ▸ at'⟩
      · exact .inl (off b q)
    · by_cases q : b = a
      · subst q
        obtain rfl := Option.some.inj (at'.symm.trans z)
        exact ⟨ha, by rw [List.length_map]; exact hl, vs, _, rv, ha⟩
      · cases (off b q).symm.trans z
    · by_cases q : b = a
      · exact q
      · exact absurd (off b q) z
  · obtain ⟨o, e⟩ := Option.ne_none_iff_exists'.mp hk
    obtain rfl := Option.some.inj ((KX a o e).symm.trans ha)
    refine main (fun _ => none) (fun _ => .inl rfl) (.inr ⟨_, vs.toArray, _, e, rfl, rfl, rfl, ?_, ?_⟩)
      (fun b u z => nomatch (show (none : Option HO) = some u from z)) (fun b z => absurd rfl z) fun z => absurd rfl z
    · rw [List.size_toArray, hi.length]
      exact hl
    · simpa using rv

theorem walkG {l : PySem.W.OpenLaw} {n k : Nat} {q : Program} {loose : List Str}
    {XP : (Str → Option Value) → Heap → Prop} {YP : World → Heap → Prop} {d : DefRec}
    {K : Params → PySem.W.Frag} {CX : World → CXT} {sp : World → Sp} {x : Str}
    (hn : l.most = some n) (hn2 : n ≤ sizeLine) (hdf : d.params.defaults = []) (hr : Room k callerA)
    (hY : ∀ (w : World) (h : Heap), YP w h → (K w.params).In h)
    (F : ∀ (w : World) (mg : Str → Option Value) (fa : Addr) (h : Heap), (K w.params).In h →
      h.Ns mainGlobals mg → mg d.name = some (.ref fa) →
      ∃ fd : FuncData, (∀ (s : Shared) (u : Value), BindsTo s fd ⟨[u], []⟩ [(x, u)]) ∧
        ∀ base : Heap, (K w.params).In base → base.Ns mainGlobals mg →
          FnG l.prog w (K w.params) mg base (CX w) k fa fd [x] (sp w))
    (hsp : ∀ (w : World) (H : Hp) (a : Addr) (ns : List Int), ns.length ≤ n → Only H →
      SqL (K w.params) H a (ns.map V.int) → sp w [.ref a] H (fun v _ => v = .bl true) E0)
    (hCX : ∀ (w : World) (H : Hp) (s : Shared) (e : Value) (s' : Shared), CX w [] H s E0 e s' → False) :
    PySem.W.WalkO q loose XP YP l.row.toRowW d [] (fun f vs => PySem.call f vs) := by
  apply Att.attach_call hn hdf
  intro w s₀ s₁ mg mb fa o pm cd doc a vs ns G Y _ _ _ hmg hobj hints hlen hg
  obtain ⟨fd, hb, hF⟩ := F w mg fa _ (hY w _ Y) G.T.g hmg
  exact entG (hY w _ Y) G.T.g G.T.b G.T.builtins G.T.nolimit hg hobj hints (Nat.le_trans hlen hn2) hr hF hb
    (fun H hO hS => hsp w H a ns hlen hO hS) (fun H e s' => hCX w H s₁ e s')
end Nd
namespace Nd
open PySem PySem.Spec PyProof.Rows L2
/-! ### repr of data -/
mutual
theorem noDict {K : PySem.W.Frag} {H : Hp} : ∀ {d : PyData} {v : V}, Dp K H v d → d.hasDict = false
  | .none, _, _ => rfl
  | .bool _, _, _ => rfl
  | .int _, _, _ => rfl
  | .str _, _, _ => rfl
  | .list ds, _, h => by
    cases h with
    | lst _ ha => simpa [PyData.hasDict] using noDicts ha
  | .tuple ds, _, h => by
    cases h with
    | tup _ ha => simpa [PyData.hasDict] using noDicts ha
  | .dict _, _, h => by cases h
theorem noDicts {K : PySem.W.Frag} {H : Hp} : ∀ {ds : List PyData} {vs : List V}, DpAll K H vs ds → PyData.hasDictAll ds = false
  | [], _, _ => rfl
  | d :: ds, _, h => by
    cases h with
    | cons h1 h2 => simp [PyData.hasDictAll, noDict h1, noDicts h2]
end
def rRepr (K : PySem.W.Frag) : List V → Hp → VK → Prop := fun vs H Q => ∃ (v : V) (d : PyData), vs = [v] ∧
  Dp K H v d ∧ d.showable = true ∧ d.depth ≤ 60 ∧ d.shown.length ≤ sizeLine ∧ Q (.str d.shown) H
theorem repr_leaf_bool {P : Program} {w : World} {A : Around} {E : Value → Shared → Prop} {s : Shared} {b : Bool} {Q : Value → Shared → Prop}
    (h : Q (.str (PyData.bool b).shown s.toks) { s with toks := s.toks + 1 }) : wpAny (model P w) A (call (.builtin "repr") [.bool b]) Q E s := by
  refine PySem.P.repr_of_bool ?_
  rw [PyData.shown_bool] at h
  exact h
theorem cr_repr {X : Cx} (hG : X.A.guards = some []) {k : Nat} (hr : Room k X.A) : CallR X (.builtin "repr") (rRepr X.K) := by
  intro pins s σ H xs us Q I r h
  obtain ⟨v, d, rfl, hd, hs, hdep, hz, q⟩ := h
  obtain ⟨u, rfl, ru⟩ := vals1 r
  have nd := noDict hd
  obtain ⟨as, rd⟩ := Dp.reads I d v u hd ru
  have fin : ∀ t tk, EP X pins σ Q (.str d.shown t) { s with toks := tk } := fun t tk => ⟨.str d.shown, H, I.tok tk, ⟨t, rfl⟩, q⟩
  cases hd with
  | non =>
    cases ru
    refine P.repr_of_none ?_
    have e := fin s.toks (s.toks + 1)
    rw [PyData.shown_none] at e
    exact e
  | bl b =>
    cases ru
    exact repr_leaf_bool (fin _ _)
  | int i =>
    obtain ⟨t, rfl⟩ := ru
    refine P.repr_of_int (by simpa [PyData.showable] using hs) ?_
    have e := fin s.toks (s.toks + 1)
    rw [PyData.shown_int] at e
    exact e
  | str x =>
    obtain ⟨t, rfl⟩ := ru
    rw [PyData.shown_str] at hz
    refine P.repr_of_str ?_ hz
    have e := fin s.toks (s.toks + 1)
    rw [PyData.shown_str] at e
    exact e
  | lst hl ha =>
    cases ru
    exact repr_of_reads' rd hs (fun e => by rw [nd] at e; cases e) hG (by have := hr.un; omega) (fun _ _ e => e)
      (fun h' t tk keep => ⟨.str _, H, I.kept keep, ⟨t, rfl⟩, q⟩) hz
  | tup hl ha =>
    cases ru
    exact repr_of_reads' rd hs (fun e => by rw [nd] at e; cases e) hG (by have := hr.un; omega) (fun _ _ e => e)
      (fun h' t tk keep => ⟨.str _, H, I.kept keep, ⟨t, rfl⟩, q⟩) hz
end Nd

namespace Nd
open PySem PySem.Spec PyProof.Rows L2
section
variable {P : Program} {w : World} {K : PySem.W.Frag} {mg : Str → Option Value} {base : Heap}
/-- a def out of which no exception comes -/
theorem okG0 {x qual : Str} {st : Stmt} {f : Addr} {fd : FuncData} {N ps : List Str}
    {k : Nat} {sp : Sp} (F : Fun K x qual st f fd) (S : FnScope N ps (defScope st))
    (many : ∀ vs H Q E, sp vs H Q E → vs.length = ps.length)
    (body : ∀ (cdv : Value) (A : Around) (fr : List Env) (s : Shared) (H : Hp) (vs : List V) (Q : VK) (E : XK),
      (cxOf CX0 P w K mg base N qual (defScope st) f cdv A fr s H E).nox.A.guards = some [] →
      Room k (cxOf CX0 P w K mg base N qual (defScope st) f cdv A fr s H E).nox.A → sp vs H Q E →
      ∃ t, PSs (cxOf CX0 P w K mg base N qual (defScope st) f cdv A fr s H E).nox (defBody st) t ∧
        t { nx := fun _ H' => Q .non H', rt := Q } (start N vs) H) :
    FnG P w K mg base CX0 (k + 1) f fd ps sp := by
  refine okG F S many fun cdv A fr s H vs Q E hG hr h => ?_
  obtain ⟨t, h1, h2⟩ := body cdv A fr s H vs Q E hG hr h
  exact ⟨t, h1.nox, h2⟩
/-- what a caller knows of a def -/
structure Cal (P : Program) (w : World) (K : PySem.W.Frag) (mg : Str → Option Value) (base : Heap) (CX : CXT) (k : Nat) (x : Str) (sp : Sp) : Prop where
  ex : ∃ (f : Addr) (fd : FuncData) (ps : List Str), FnG P w K mg base CX k f fd ps sp ∧ mg x = some (.ref f) ∧
    PySem.W.keepIn K (.ref f) = true ∧ Binds K fd ps []
end
theorem pe_f {X : Cx} {CX : CXT} {k : Nat} {x : Str} {sp : Sp} {E : XK} {p pos : Pos} {e : Expr} {es : List Expr} {t : TA}
    (c : Cal X.prog X.w X.K X.mg X.base CX k x sp) (hG : X.A.guards = some []) (hr : Room k X.A) (hg : Gl X x) (hx : Passes CX X E)
    (ha : PA X (e :: es) t) (hdb : (x == ("__debug__" : Str)) = false := by decide)
    (he : starEach (e :: es) X.env = (false, eval e X.env) :: starEach es X.env := by rfl)
    (hpl : (backTo pos (starEach es X.env)).any (·.1) = false := by rfl) :
    PE X (.Call (.Name x p) (e :: es) [] pos) (tCall sp [] E t) := by
  obtain ⟨f, fd, ps, F, hm, hk, hb⟩ := c.ex
  exact pe_callG F hG hr hg hm hk hb .nil hx ha hdb he hpl
end Nd
namespace Nd
open PySem PySem.Spec PyProof.Rows L2
/-! ### what a law draws from: a list of its numbers, a place, a rest -/
/-- all that was tracked stays, but the one at r, a list whose first item stays -/
structure Gr (r : Addr) (H H' : Hp) : Prop where
  all : ∀ b o, b ≠ r → H b = some o → H' b = some o
  own : ∀ c t, H r = some (.lst (.ref c :: t)) → ∃ t', H' r = some (.lst (.ref c :: t'))
instance {r : Addr} {H H' : Hp} : CoeFun (Gr r H H') (fun _ => ∀ b o, b ≠ r → H b = some o → H' b = some o) := ⟨fun g => g.all⟩
theorem Gr.rfl' {r : Addr} {H : Hp} : Gr r H H := ⟨fun _ _ _ e => e, fun _ t e => ⟨t, e⟩⟩
theorem Gr.trans {r : Addr} {H H1 H2 : Hp} (a : Gr r H H1) (b : Gr r H1 H2) : Gr r H H2 := ⟨fun c o n e => b.all c o n (a.all c o n e), fun c t e => by
  obtain ⟨t1, e1⟩ := a.own c t e
  exact b.own c t1 e1⟩
theorem Gr.same {r : Addr} {H H' : Hp} (a : Same H H') : Gr r H H' := ⟨fun c o _ e => a c o e, fun c t e => ⟨t, a _ _ e⟩⟩
theorem Gr.new {r p : Addr} {H : Hp} {o : HO} (h : H p = none) : Gr r H (upd H p o) := Gr.same fun b u e => by
  rw [upd_ne (ne_of_none e h)]
  exact e
theorem Gr.put {r c : Addr} {H : Hp} {t t' : List V} (h : H r = some (.lst (.ref c :: t))) : Gr r H (upd H r (.lst (.ref c :: t'))) := ⟨fun b u n e => by
  rw [upd_ne n]
  exact e, fun c' _ e => by
  rw [h] at e
  cases e
  exact ⟨t', upd_same⟩⟩
theorem Same.new {p : Addr} {H : Hp} {o : HO} (h : H p = none) : Same H (upd H p o) := fun b u e => by
  rw [upd_ne (ne_of_none e h)]
  exact e
structure Rid (r : Addr) (n : Nat) (H : Hp) : Prop where
  ex : ∃ (c : Addr) (ns : List Int) (a z : Int), r ≠ c ∧ H r = some (.lst [.ref c, .int a, .int z]) ∧
    H c = some (.lst (ns.map V.int)) ∧ ns.length ≤ 60 ∧ 0 ≤ a ∧ a ≤ n ∧ 0 ≤ z
theorem Rid.mono {r : Addr} {n m : Nat} {H : Hp} (h : Rid r n H) (l : n ≤ m) : Rid r m H := by
  obtain ⟨c, ns, a, z, h1, h2, h3, h4, h5, h6, h7⟩ := h.ex
  exact ⟨c, ns, a, z, h1, h2, h3, h4, h5, by omega, h7⟩
theorem Rid.same {r : Addr} {n : Nat} {H H' : Hp} (h : Rid r n H) (s : Same H H') : Rid r n H' := by
  obtain ⟨c, ns, a, z, h1, h2, h3, h4⟩ := h.ex
  exact ⟨c, ns, a, z, h1, s _ _ h2, s _ _ h3, h4⟩
theorem Rid.new {r p : Addr} {n : Nat} {H : Hp} {o : HO} (h : Rid r n H) (hp : H p = none) : Rid r n (upd H p o) := h.same (Same.new hp)
/-- as Rid, and neither list of it is D -/
structure RidN (D r : Addr) (n : Nat) (H : Hp) : Prop where
  rid : Rid r n H
  ne : D ≠ r
  off : ∀ c t, H r = some (.lst (.ref c :: t)) → c ≠ D
theorem Rid.newN {D r : Addr} {n : Nat} {H : Hp} {o : HO} (h : Rid r n H) (hD : H D = none) : RidN D r n (upd H D o) := by
  obtain ⟨c, ns, a, z, h1, h2, h3, h4⟩ := h.ex
  have n1 : r ≠ D := ne_of_none h2 hD
  refine ⟨h.new hD, n1.symm, fun c' t e => ?_⟩
  rw [upd_ne n1, h2] at e
  cases e
  exact ne_of_none h3 hD
theorem RidN.gr {D r : Addr} {n m : Nat} {H H' : Hp} (h : RidN D r n H) (g : Gr r H H') (k : Rid r m H') : RidN D r m H' := by
  refine ⟨k, h.ne, fun c t e => ?_⟩
  obtain ⟨c0, ns, a, z, h1, h2, h3, h4⟩ := h.rid.ex
  obtain ⟨t', e'⟩ := g.own _ _ h2
  rw [e'] at e
  cases e
  exact h.off _ _ h2
theorem RidN.put {D r : Addr} {n : Nat} {H : Hp} {o : HO} (h : RidN D r n H) : RidN D r n (upd H D o) := by
  obtain ⟨c, ns, a, z, h1, h2, h3, h4⟩ := h.rid.ex
  have n1 : r ≠ D := h.ne.symm
  refine ⟨⟨c, ns, a, z, h1, (upd_ne n1).trans h2, (upd_ne (h.off _ _ h2)).trans h3, h4⟩, h.ne, fun c' t e => ?_⟩
  rw [upd_ne n1] at e
  exact h.off _ _ e
theorem RidN.same {D r : Addr} {n : Nat} {H H' : Hp} (h : RidN D r n H) (s : Same H H') : RidN D r n H' := h.gr (Gr.same s) (h.rid.same s)
def spDraw : Sp := fun vs H Q _ => ∃ (r : Addr) (n : Nat) (many : Int), vs = [.ref r, .int many] ∧ Rid r n H ∧ n < 1000000 ∧
  0 < many ∧ many < 1073741824 ∧ ∀ H' v, Gr r H H' → Rid r (n + 1) H' → 0 ≤ v → v < many → Q (.int v) H'
def spPick : Sp := fun vs H Q _ => ∃ (r l : Addr) (n : Nat) (xs : List V), vs = [.ref r, .ref l] ∧ Rid r n H ∧ n < 1000000 ∧
  l ≠ r ∧ H l = some (.lst xs) ∧ 0 < xs.length ∧ xs.length < 1000 ∧ ∀ H' v, Gr r H H' → Rid r (n + 1) H' → v ∈ xs → Q v H'
end Nd

namespace Nd
open PySem PySem.Spec PyProof.Rows L2
theorem dpInts {K : PySem.W.Frag} {H : Hp} : ∀ ns : List Int, DpAll K H (ns.map V.int) (ns.map PyData.int)
  | [] => .nil
  | n :: ns => .cons (.int n) (dpInts ns)
theorem canInts : ∀ ns : List Int, PyData.canLayAll0 (ns.map PyData.int) = true
  | [] => by simp only [List.map_nil, PyData.canLayAll0]
  | n :: ns => by simp only [List.map_cons, PyData.canLayAll0, PyData.canLay0, canInts ns, Bool.and_self]
theorem depInts : ∀ ns : List Int, PyData.depthAll (ns.map PyData.int) = 0
  | [] => by simp only [List.map_nil, PyData.depthAll]
  | n :: ns => by simp only [List.map_cons, PyData.depthAll, PyData.depth, depInts ns, Nat.max_self]
theorem shInts (ns : List Int) : SeqAt.shaped (.list (ns.map PyData.int)) = true := by
  simp [SeqAt.shaped, PyData.canLay0, PyData.depth, canInts ns, depInts ns]
theorem shNil : SeqAt.shaped (.list []) = true := by
  simp [SeqAt.shaped, PyData.canLay0, PyData.depth, PyData.canLayAll0, PyData.depthAll]
theorem eqvNil (ns : List Int) : PyData.eqv (.list (ns.map PyData.int)) (.list []) = ns.isEmpty := by
  cases ns with
  | nil => simp only [List.map_nil, PyData.eqv, PyData.eqvAll, List.isEmpty_nil]
  | cons n ns => simp only [List.map_cons, PyData.eqv, PyData.eqvAll, List.isEmpty_cons]
theorem atInts {ns : List Int} {i : Int} (h0 : 0 ≤ i) (h1 : i < ns.length) : ∃ v, ns[i.toNat]? = some v ∧ atI (ns.map V.int) i = some (V.int v) := by
  obtain ⟨j, rfl⟩ := Int.eq_ofNat_of_zero_le h0
  have hj : j < ns.length := by omega
  refine ⟨ns[j], by simp [hj], ?_⟩
  exact atI_nat (by simp [hj])
theorem mixBig {u a k l m : Int} (u0 : 0 ≤ u) (u1 : u < 2147483648) (a0 : 0 ≤ a) (a1 : a ≤ 1000000) (k0 : 0 ≤ k) (k1 : k < 1000000)
    (l0 : 0 ≤ l) (l1 : l < 1000000) (m0 : 0 ≤ m) (m1 : m < 1000000) : (u * (2 * a + k) + l * a * a + m).natAbs < 2 ^ 64 := by
  have h1 : u * (2 * a + k) ≤ 2147483648 * 3000000 := Int.mul_le_mul (by omega) (by omega) (by omega) (by omega)
  have h2 : l * a ≤ 1000000 * 1000000 := Int.mul_le_mul (by omega) (by omega) (by omega) (by omega)
  have h3 : 0 ≤ l * a := Int.mul_nonneg l0 a0
  have h4 : l * a * a ≤ 1000000000000 * 1000000 := Int.mul_le_mul (by omega) (by omega) (by omega) (by omega)
  have h5 : 0 ≤ u * (2 * a + k) := Int.mul_nonneg u0 (by omega)
  have h6 : 0 ≤ l * a * a := Int.mul_nonneg h3 a0
  omega
def spRiddle (K : PySem.W.Frag) : Sp := fun vs H Q _ => ∃ (a : Addr) (ns : List Int), vs = [.ref a] ∧ SqL K H a (ns.map V.int) ∧ ns.length ≤ 63 ∧
  ∀ H' r, Same H H' → H r = none → Rid r 0 H' → Q (.ref r) H'
end Nd


namespace Nd
open PySem PySem.Spec PyProof.Rows L2
/-! ### readings, a step each -/
theorem k_seq {t u : TS} {nx bk ct : L2.St → Hp → Prop} {rt : VK} {σ : L2.St} {H : Hp} (h : t (Ends.mk (u (Ends.mk nx rt bk ct)) rt bk ct) σ H) :
    tSeq t u (Ends.mk nx rt bk ct) σ H := h
theorem k_next {nx bk ct : L2.St → Hp → Prop} {rt : VK} {σ : L2.St} {H : Hp} (h : nx σ H) :
    tNext (Ends.mk nx rt bk ct) σ H := h
theorem k_brk {nx bk ct : L2.St → Hp → Prop} {rt : VK} {σ : L2.St} {H : Hp} (h : bk σ H) :
    tBreak (Ends.mk nx rt bk ct) σ H := h
theorem k_cont {nx bk ct : L2.St → Hp → Prop} {rt : VK} {σ : L2.St} {H : Hp} (h : ct σ H) :
    tCont (Ends.mk nx rt bk ct) σ H := h
theorem k_drop {te : TE} {nx bk ct : L2.St → Hp → Prop} {rt : VK} {σ : L2.St} {H : Hp} (h : te σ H fun _ H1 => nx σ H1) :
    tDrop te (Ends.mk nx rt bk ct) σ H := h
theorem k_ret {te : TE} {nx bk ct : L2.St → Hp → Prop} {rt : VK} {σ : L2.St} {H : Hp} (h : te σ H rt) :
    tRet te (Ends.mk nx rt bk ct) σ H := h
theorem k_retN {nx bk ct : L2.St → Hp → Prop} {rt : VK} {σ : L2.St} {H : Hp} (h : rt .non H) :
    tRetN (Ends.mk nx rt bk ct) σ H := h
theorem k_if {c : TT} {t u : TS} {D : Ends} {σ : L2.St} {H : Hp} (h : c σ H fun b H1 => if b = true then t D σ H1 else u D σ H1) :
    tIfS c t u D σ H := h
theorem k_asg {te : TE} {g : TG} {nx bk ct : L2.St → Hp → Prop} {rt : VK} {σ : L2.St} {H : Hp} (h : te σ H fun x H1 => g x σ H1 nx) :
    tAsg te g (Ends.mk nx rt bk ct) σ H := h
theorem k_gname {i : Nat} {v : V} {σ : L2.St} {H : Hp} {Q : L2.St → Hp → Prop} (h : Q (σ.set i (some v)) H) :
    gName i v σ H Q := h
theorem k_gsub {to ti : TE} {t : TSet} {v : V} {σ : L2.St} {H : Hp} {Q : L2.St → Hp → Prop} (h : to σ H fun o H1 => ti σ H1 fun i H2 => t o i v H2 fun H3 => Q σ H3) :
    gSub to ti t v σ H Q := h
theorem k_gtup {K : PySem.W.Frag} {n : Nat} {t : TGs} {a : Addr} {xs : List V} {σ : L2.St} {H : Hp} {Q : L2.St → Hp → Prop} (h1 : SqT K H a xs) (h2 : xs.length = n) (h : t xs σ H Q) :
    gTup K n t (.ref a) σ H Q := ⟨a, xs, rfl, h1, h2, h⟩
theorem k_gunl {K : PySem.W.Frag} {n : Nat} {t : TGs} {a : Addr} {xs : List V} {σ : L2.St} {H : Hp} {Q : L2.St → Hp → Prop} (h1 : SqL K H a xs) (h2 : xs.length = n) (h : t xs σ H Q) :
    gUnl K n t (.ref a) σ H Q := ⟨a, xs, rfl, h1, h2, h⟩
theorem k_gcons {t : TG} {u : TGs} {v : V} {vs : List V} {σ : L2.St} {H : Hp} {Q : L2.St → Hp → Prop} (h : t v σ H fun σ1 H1 => u vs σ1 H1 Q) :
    gCons t u (v :: vs) σ H Q := ⟨v, vs, rfl, h⟩
theorem k_gnil {σ : L2.St} {H : Hp} {Q : L2.St → Hp → Prop} (h : Q σ H) :
    gNil [] σ H Q := ⟨rfl, h⟩
theorem k_par {i j : Nat} {ta : TA} {nx bk ct : L2.St → Hp → Prop} {rt : VK} {σ : L2.St} {H : Hp} (h : ta σ H fun vs H1 => ∃ v w, vs = [v, w] ∧ nx ((σ.set i (some v)).set j (some w)) H1) :
    tPar i j ta (Ends.mk nx rt bk ct) σ H := h
theorem k_par3 {i j l : Nat} {ta : TA} {nx bk ct : L2.St → Hp → Prop} {rt : VK} {σ : L2.St} {H : Hp} (h : ta σ H fun vs H1 => ∃ u v w, vs = [u, v, w] ∧ nx (((σ.set i (some u)).set j (some v)).set l (some w)) H1) :
    tPar3 i j l ta (Ends.mk nx rt bk ct) σ H := h
theorem k_aug {i : Nat} {te : TE} {ti : TIp} {x : V} {nx bk ct : L2.St → Hp → Prop} {rt : VK} {σ : L2.St} {H : Hp} (hx : σ[i]? = some (some x)) (h : te σ H fun y H1 => ti x y H1 fun z H2 => nx (σ.set i (some z)) H2) :
    tAug i te ti (Ends.mk nx rt bk ct) σ H := ⟨x, hx, h⟩
theorem k_var {i : Nat} {v : V} {σ : L2.St} {H : Hp} {Q : VK} (h : σ[i]? = some (some v)) (q : Q v H) :
    tVar i σ H Q := ⟨v, h, q⟩
theorem k_c {v : V} {σ : L2.St} {H : Hp} {Q : VK} (q : Q v H) :
    tC v σ H Q := q
theorem k_op {r : R2} {ta tb : TE} {σ : L2.St} {H : Hp} {Q : VK} (h : ta σ H fun x H1 => tb σ H1 fun y H2 => r x y H2 Q) :
    tOp r ta tb σ H Q := h
theorem k_un {r : V → Hp → VK → Prop} {ta : TE} {σ : L2.St} {H : Hp} {Q : VK} (h : ta σ H fun x H1 => r x H1 Q) :
    tUn r ta σ H Q := h
theorem k_I0 {g : Int → Int → V} {i j : Int} {H : Hp} {Q : VK} (h : Q (g i j) H) :
    rI0 g (.int i) (.int j) H Q := ⟨i, j, rfl, rfl, h⟩
theorem k_I {C : Int → Int → Prop} {g : Int → Int → V} {i j : Int} {H : Hp} {Q : VK} (c : C i j) (h : Q (g i j) H) :
    rI C g (.int i) (.int j) H Q := ⟨i, j, rfl, rfl, c, h⟩
theorem k_U {g : Int → V} {i : Int} {H : Hp} {Q : VK} (h : Q (g i) H) :
    rU g (.int i) H Q := ⟨i, rfl, h⟩
theorem k_eq {x y : V} {H : Hp} {Q : VK} (c : scal x y = true) (h : Q (.bl (decide (x = y))) H) :
    rEq x y H Q := ⟨c, h⟩
theorem k_ne {x y : V} {H : Hp} {Q : VK} (c : scal x y = true) (h : Q (.bl (!decide (x = y))) H) :
    rNe x y H Q := ⟨c, h⟩
theorem k_cb {r : List V → Hp → VK → Prop} {t : TA} {σ : L2.St} {H : Hp} {Q : VK} (h : t σ H fun vs H1 => r vs H1 Q) :
    tCB r t σ H Q := h
theorem k_call {sp : Sp} {dvs : List V} {E : XK} {t : TA} {σ : L2.St} {H : Hp} {Q : VK} (h : t σ H fun vs H1 => sp (vs ++ dvs) H1 Q E) :
    tCall sp dvs E t σ H Q := h
theorem k_nil {σ : L2.St} {H : Hp} {Q : List V → Hp → Prop} (h : Q [] H) :
    tNil σ H Q := h
theorem k_cons {ta : TE} {tr : TA} {σ : L2.St} {H : Hp} {Q : List V → Hp → Prop} (h : ta σ H fun x H1 => tr σ H1 fun xs H2 => Q (x :: xs) H2) :
    tCons ta tr σ H Q := h
theorem k_tup {t : TA} {σ : L2.St} {H : Hp} {Q : VK} (h : t σ H fun xs H1 => xs.length ≤ sizeLine ∧ ∀ p, H1 p = none → Q (.ref p) (upd H1 p (.tup xs))) :
    tTup t σ H Q := h
theorem k_lst {t : TA} {σ : L2.St} {H : Hp} {Q : VK} (h : t σ H fun xs H1 => xs.length ≤ sizeLine ∧ ∀ p, H1 p = none → Q (.ref p) (upd H1 p (.lst xs))) :
    tLst t σ H Q := h
theorem k_ife {t : TT} {ta tb : TE} {σ : L2.St} {H : Hp} {Q : VK} (h : t σ H fun c H1 => if c = true then ta σ H1 Q else tb σ H1 Q) :
    tIf t ta tb σ H Q := h
theorem k_andV {ta tb : TE} {σ : L2.St} {H : Hp} {Q : VK} (h : ta σ H fun x H1 => ∃ c, x = .bl c ∧ if c = true then tb σ H1 Q else Q (.bl false) H1) :
    tAndV ta tb σ H Q := h
theorem k_orV {ta tb : TE} {σ : L2.St} {H : Hp} {Q : VK} (h : ta σ H fun x H1 => ∃ c, x = .bl c ∧ if c = true then Q (.bl true) H1 else tb σ H1 Q) :
    tOrV ta tb σ H Q := h
theorem k_notV {ta : TE} {σ : L2.St} {H : Hp} {Q : VK} (h : ta σ H fun x H1 => ∃ c, x = .bl c ∧ Q (.bl (!c)) H1) :
    tNotV ta σ H Q := h
theorem k_tB {t : TE} {σ : L2.St} {H : Hp} {Q : Bool → Hp → Prop} (h : t σ H fun x H1 => ∃ c, x = .bl c ∧ Q c H1) :
    tB t σ H Q := h
theorem k_test {t : TE} {σ : L2.St} {H : Hp} {Q : Bool → Hp → Prop} (h : t σ H fun x H1 => ∃ c, x = .bl c ∧ Q c H1) :
    tTest t σ H Q := h
theorem k_tAnd {t u : TT} {σ : L2.St} {H : Hp} {Q : Bool → Hp → Prop} (h : t σ H fun c H1 => if c = true then u σ H1 Q else Q false H1) :
    tAnd t u σ H Q := h
theorem k_tOr {t u : TT} {σ : L2.St} {H : Hp} {Q : Bool → Hp → Prop} (h : t σ H fun c H1 => if c = true then Q true H1 else u σ H1 Q) :
    tOr t u σ H Q := h
theorem k_tNot {t : TT} {σ : L2.St} {H : Hp} {Q : Bool → Hp → Prop} (h : t σ H fun c H1 => Q (!c) H1) :
    tNot t σ H Q := h
theorem k_tYes {σ : L2.St} {H : Hp} {Q : Bool → Hp → Prop} (h : Q true H) :
    tYes σ H Q := h
theorem k_ixL {K : PySem.W.Frag} {p : Addr} {xs : List V} {i : Int} {v : V} {H : Hp} {Q : VK} (h : SqL K H p xs) (ha : atI xs i = some v) (q : Q v H) :
    rIxL K (.ref p) (.int i) H Q := ⟨p, xs, i, v, rfl, rfl, h, ha, q⟩
theorem k_ixT {K : PySem.W.Frag} {p : Addr} {xs : List V} {i : Int} {v : V} {H : Hp} {Q : VK} (h : SqT K H p xs) (ha : atI xs i = some v) (q : Q v H) :
    rIxT K (.ref p) (.int i) H Q := ⟨p, xs, i, v, rfl, rfl, h, ha, q⟩
theorem k_setL {p : Addr} {xs : List V} {k : Int} {j : Nat} {v : V} {H : Hp} {Q : Hp → Prop} (h : H p = some (.lst xs)) (hj : ixN xs.length k = some j) (q : Q (upd H p (.lst (xs.set j v)))) :
    rSetL (.ref p) (.int k) v H Q := ⟨p, xs, k, j, rfl, rfl, h, hj, q⟩
theorem k_sl {r : V → Option Int → Option Int → Hp → VK → Prop} {te : TE} {tl th : TO} {σ : L2.St} {H : Hp} {Q : VK} (h : te σ H fun x H1 => tl σ H1 fun l H2 => th σ H2 fun u H3 => r x l u H3 Q) :
    tSl r te tl th σ H Q := h
theorem k_noPart {σ : L2.St} {H : Hp} {Q : Option Int → Hp → Prop} (h : Q none H) :
    tNoPart σ H Q := h
theorem k_part {t : TE} {σ : L2.St} {H : Hp} {Q : Option Int → Hp → Prop} (h : t σ H fun x H1 => ∃ i, x = .int i ∧ Q (some i) H1) :
    tPart t σ H Q := h
theorem k_slL {K : PySem.W.Frag} {a : Addr} {xs : List V} {lo hi : Option Int} {H : Hp} {Q : VK} (h : SqL K H a xs) (q : ∀ p, H p = none → Q (.ref p) (upd H p (.lst (cutV xs lo hi)))) :
    rSlL K (.ref a) lo hi H Q := ⟨a, xs, rfl, h, q⟩
theorem k_cat {l b : Addr} {xs zs : List V} {H : Hp} {Q : VK} (h1 : H l = some (.lst xs)) (h2 : H b = some (.lst zs)) (h3 : xs.length + zs.length ≤ sizeLine) (q : ∀ p, H p = none → Q (.ref p) (upd H p (.lst (xs ++ zs)))) :
    rCat (.ref l) (.ref b) H Q := ⟨l, b, xs, zs, rfl, rfl, h1, h2, h3, q⟩
theorem k_bm {K : PySem.W.Frag} {T : String} {r : V → List V → Hp → VK → Prop} {to : TE} {t : TA} {σ : L2.St} {H : Hp} {Q : VK} (h : to σ H fun x H1 => tyV K T x H1 ∧ t σ H1 fun xs H2 => r x xs H2 Q) :
    tBM K T r to t σ H Q := h
theorem k_app {l : Addr} {xs : List V} {y : V} {H : Hp} {Q : VK} (h : H l = some (.lst xs)) (hz : xs.length < sizeLine) (q : Q .non (upd H l (.lst (xs ++ [y])))) :
    rAppend (.ref l) [y] H Q := ⟨l, xs, y, rfl, rfl, h, hz, q⟩
theorem k_eqD {K : PySem.W.Frag} {x y : V} {d e : PyData} {H : Hp} {Q : VK} (h1 : Dp K H x d) (h2 : Dp K H y e) (s1 : SeqAt.shaped d = true) (s2 : SeqAt.shaped e = true) (q : Q (.bl (PyData.eqv d e)) H) :
    rEqD K x y H Q := ⟨d, e, h1, h2, s1, s2, q⟩
theorem k_neD {K : PySem.W.Frag} {x y : V} {d e : PyData} {H : Hp} {Q : VK} (h1 : Dp K H x d) (h2 : Dp K H y e) (s1 : SeqAt.shaped d = true) (s2 : SeqAt.shaped e = true) (q : Q (.bl (!PyData.eqv d e)) H) :
    rNeD K x y H Q := ⟨d, e, h1, h2, s1, s2, q⟩
theorem k_repr {K : PySem.W.Frag} {v : V} {d : PyData} {H : Hp} {Q : VK} (h : Dp K H v d) (h1 : d.showable = true) (h2 : d.depth ≤ 60) (h3 : d.shown.length ≤ sizeLine) (q : Q (.str d.shown) H) :
    rRepr K [v] H Q := ⟨v, d, rfl, h, h1, h2, h3, q⟩
theorem k_gcd {a b : Int} {H : Hp} {Q : VK} (q : Q (.int ((Nat.gcd a.natAbs b.natAbs : Nat) : Int)) H) :
    rGcd [.int a, .int b] H Q := ⟨a, b, rfl, q⟩
theorem k_rt {nx bk ct : L2.St → Hp → Prop} {rt : VK} {v : V} {H : Hp} (h : rt v H) :
    (Ends.mk nx rt bk ct).rt v H := h
theorem k_nx {nx bk ct : L2.St → Hp → Prop} {rt : VK} {σ : L2.St} {H : Hp} (h : nx σ H) :
    (Ends.mk nx rt bk ct).nx σ H := h
theorem k_bk {nx bk ct : L2.St → Hp → Prop} {rt : VK} {σ : L2.St} {H : Hp} (h : bk σ H) :
    (Ends.mk nx rt bk ct).bk σ H := h
theorem k_ct {nx bk ct : L2.St → Hp → Prop} {rt : VK} {σ : L2.St} {H : Hp} (h : ct σ H) :
    (Ends.mk nx rt bk ct).ct σ H := h
end Nd

namespace Nd
open PySem PySem.Spec PyProof.Rows L2
/-! ### comprehensions whose items are plain values: which turns give (f), and what (v) -/
def given (n : Nat) (f : Nat → Bool) (v : Nat → V) : List V := ((List.range n).filter f).map v
theorem given_so {n : Nat} {f : Nat → Bool} {v : Nat → V} (h : f n = true) : given (n + 1) f v = given n f v ++ [v n] := by
  simp [given, List.range_succ, List.filter_append, h]
theorem given_not {n : Nat} {f : Nat → Bool} {v : Nat → V} (h : f n = false) : given (n + 1) f v = given n f v := by
  simp [given, List.range_succ, List.filter_append, h]
theorem given_len (n : Nat) (f : Nat → Bool) (v : Nat → V) : (given n f v).length ≤ n := by
  unfold given
  rw [List.length_map]
  exact Nat.le_trans (List.length_filter_le _ _) (by rw [List.length_range]; exact Nat.le_refl _)
theorem given_all {n : Nat} {v : Nat → V} {xs : List V} (hn : xs.length = n) (h : ∀ i x, xs[i]? = some x → v i = x) : given n (fun _ => true) v = xs := by
  apply List.ext_getElem?
  intro i
  unfold given
  rw [List.filter_eq_self.mpr (by intros; rfl), List.getElem?_map]
  by_cases hi : i < n
  · rw [List.getElem?_range hi]
    have : xs[i]? = some xs[i] := by simp [hn ▸ hi]
    rw [this]
    exact congrArg some (h i _ this)
  · rw [List.getElem?_eq_none (by simpa using hi), List.getElem?_eq_none (by omega)]
    rfl
/-- D is new: what was before stays, D holds what is given so far -/
def Cw (H1 : Hp) (f : Nat → Bool) (v : Nat → V) (D : Addr) (i : Nat) (H : Hp) : Prop := Same H1 H ∧ H D = some (.lst (given i f v))
theorem cw_start {H1 : Hp} {f : Nat → Bool} {v : Nat → V} {D : Addr} (hD : H1 D = none) : Cw H1 f v D 0 (upd H1 D (.lst [])) := ⟨Same.new hD, upd_same⟩
theorem cw_step {H1 H3 H4 : Hp} {f : Nat → Bool} {v : Nat → V} {D : Addr} {i : Nat} (hD : H1 D = none) (s : Same H1 H3) (e : H3 D = some (.lst (given i f v))) (s4 : Same H3 H4)
    (hi : i ≤ 100000) (hf : f i = true) : ∃ acc, H4 D = some (.lst acc) ∧ acc.length < sizeLine ∧ Cw H1 f v D (i + 1) (upd H4 D (.lst (acc ++ [v i]))) := by
  refine ⟨given i f v, s4 _ _ e, Nat.lt_of_le_of_lt (Nat.le_trans (given_len i f v) hi) (by decide), fun b o z => ?_, ?_⟩
  · rw [upd_ne (ne_of_none z hD)]
    exact s4 _ _ (s _ _ z)
  · rw [given_so hf]
    exact upd_same
/-- the turns of a comprehension, over what J walks -/
def LcIn (J : It) (g : TG) (tt : TT) (te : TE) (vs : List Nat) (σ : L2.St) (H1 : Hp) (Q : VK) : Prop := tLc (fun _ H R => R J H) g tt te vs σ H1 Q
theorem k_lc {wi : TI} {g : TG} {tt : TT} {te : TE} {vs : List Nat} {σ : L2.St} {H : Hp} {Q : VK} (h : wi σ H fun J H1 => LcIn J g tt te vs σ H1 Q) :
    tLc wi g tt te vs σ H Q := h
theorem k_iList {K : PySem.W.Frag} {tl : TE} {σ : L2.St} {H : Hp} {R : It → Hp → Prop} (h : tl σ H fun x H1 => ∃ a, x = .ref a ∧ (∃ xs, SqL K H1 a xs) ∧ R (Itl K a) H1) :
    iList K tl σ H R := h
theorem k_iTup {K : PySem.W.Frag} {tl : TE} {σ : L2.St} {H : Hp} {R : It → Hp → Prop} (h : tl σ H fun x H1 => ∃ a, x = .ref a ∧ (∃ xs, SqT K H1 a xs) ∧ R (Itt K a) H1) :
    iTup K tl σ H R := h
theorem k_iR1 {ta : TA} {σ : L2.St} {H : Hp} {R : It → Hp → Prop} (h : ta σ H fun vs H1 => ∃ j : Int, vs = [.int j] ∧ -(2 ^ 62) ≤ j ∧ j < 2 ^ 62 ∧ R (Itr 0 j.toNat) H1) :
    iRng1 ta σ H R := h
theorem k_iR2 {ta : TA} {σ : L2.St} {H : Hp} {R : It → Hp → Prop}
    (h : ta σ H fun vs H1 => ∃ i j : Int, vs = [.int i, .int j] ∧ (-(2 ^ 62) ≤ i ∧ i < 2 ^ 62 ∧ -(2 ^ 62) ≤ j ∧ j < 2 ^ 62) ∧ R (Itr i (j - i).toNat) H1) : iRng2 ta σ H R := h
/-- one turn: the test, then the item, whatever follows -/
def Turn (tt : TT) (te : TE) (σ : L2.St) (H : Hp) (b : Bool) (y : V) : Prop :=
  (∀ QT : Bool → Hp → Prop, (∀ H3, Same H H3 → QT b H3) → tt σ H QT) ∧ (b = true → ∀ H3, Same H H3 → ∀ QE : VK, (∀ H4, Same H3 H4 → QE y H4) → te σ H3 QE)
theorem cw_turn {tt : TT} {te : TE} {σ2 σ : L2.St} {vs : List Nat} {H1 H : Hp} {f : Nat → Bool} {v : Nat → V} {D : Addr} {i : Nat} (hD : H1 D = none) (p : Cw H1 f v D i H) (hi : i ≤ 100000)
    (hw : wipe σ2 vs = wipe σ vs) (t : Turn tt te σ2 H (f i) (v i)) : wipe σ2 vs = wipe σ vs ∧ tt σ2 H fun b H3 =>
      if b = true then te σ2 H3 fun y H4 => ∃ acc, H4 D = some (.lst acc) ∧ acc.length < sizeLine ∧ Cw H1 f v D (i + 1) (upd H4 D (.lst (acc ++ [y]))) else Cw H1 f v D (i + 1) H3 := by
  refine ⟨hw, t.1 _ fun H3 s3 => ?_⟩
  cases hf : f i with
  | true =>
    rw [if_pos rfl]
    exact t.2 hf H3 s3 _ fun H4 s4 => cw_step hD (p.1.trans s3) (s3 _ _ p.2) s4 hi hf
  | false =>
    rw [if_neg (by decide)]
    refine ⟨p.1.trans s3, ?_⟩
    rw [given_not hf]
    exact s3 _ _ p.2
theorem lcIn_L {K : PySem.W.Frag} {a : Addr} {xs : List V} {j : Nat} {tt : TT} {te : TE} {vs : List Nat} {σ : L2.St} {H1 : Hp} {Q : VK} (f : Nat → Bool) (v : Nat → V)
    (hx : SqL K H1 a xs) (hz : xs.length ≤ 100000) (hw : ∀ x, wipe ((wipe σ vs).set j (some x)) vs = wipe σ vs)
    (step : ∀ i x H2, xs[i]? = some x → Same H1 H2 → Turn tt te ((wipe σ vs).set j (some x)) H2 (f i) (v i))
    (fin : ∀ p H', H1 p = none → Same H1 H' → H' p = some (.lst (given xs.length f v)) → Q (.ref p) H') : LcIn (Itl K a) (gName j) tt te vs σ H1 Q := fun D hD =>
  lc_list (xs := xs) (Cw H1 f v D) (cw_start hD) (fun i H' _ p => p.1.seq hx) (fun i x H' hi p =>
    cw_turn hD p (by have := (List.getElem?_eq_some_iff.mp hi).1; omega) (hw x) (step i x H' hi p.1)) (fun H' p => fin D H' hD p.1 p.2)
theorem Same.seqT {K : PySem.W.Frag} {H H' : Hp} {a : Addr} {xs : List V} (e : Same H H') (h : SqT K H a xs) : SqT K H' a xs := by
  rcases h with (h | ⟨o, h⟩) | h
  · exact .inl (.inl (e _ _ h))
  · exact .inl (.inr ⟨o, e _ _ h⟩)
  · exact .inr h
theorem lcIn_T {K : PySem.W.Frag} {a : Addr} {xs : List V} {j : Nat} {tt : TT} {te : TE} {vs : List Nat} {σ : L2.St} {H1 : Hp} {Q : VK} (f : Nat → Bool) (v : Nat → V)
    (hx : SqT K H1 a xs) (hz : xs.length ≤ 100000) (hw : ∀ x, wipe ((wipe σ vs).set j (some x)) vs = wipe σ vs)
    (step : ∀ i x H2, xs[i]? = some x → Same H1 H2 → Turn tt te ((wipe σ vs).set j (some x)) H2 (f i) (v i))
    (fin : ∀ p H', H1 p = none → Same H1 H' → H' p = some (.lst (given xs.length f v)) → Q (.ref p) H') : LcIn (Itt K a) (gName j) tt te vs σ H1 Q := fun D hD =>
  lc_tup (xs := xs) (Cw H1 f v D) (cw_start hD) (fun i H' _ p => Same.seqT p.1 hx) (fun i x H' hi p =>
    cw_turn hD p (by have := (List.getElem?_eq_some_iff.mp hi).1; omega) (hw x) (step i x H' hi p.1)) (fun H' p => fin D H' hD p.1 p.2)
theorem lcIn_R {lo : Int} {n : Nat} {j : Nat} {tt : TT} {te : TE} {vs : List Nat} {σ : L2.St} {H1 : Hp} {Q : VK} (f : Nat → Bool) (v : Nat → V)
    (hz : n ≤ 100000) (hw : ∀ x, wipe ((wipe σ vs).set j (some x)) vs = wipe σ vs)
    (step : ∀ i H2, i < n → Same H1 H2 → Turn tt te ((wipe σ vs).set j (some (.int (lo + i)))) H2 (f i) (v i))
    (fin : ∀ p H', H1 p = none → Same H1 H' → H' p = some (.lst (given n f v)) → Q (.ref p) H') : LcIn (Itr lo n) (gName j) tt te vs σ H1 Q := fun D hD =>
  lc_range (lo := lo) (n := n) (Cw H1 f v D) (cw_start hD) (fun i H' hi p => cw_turn hD p (by omega) (hw _) (step i H' hi p.1)) (fun H' p => fin D H' hD p.1 p.2)
theorem k_new {H : Hp} {o : HO} {Q : Addr → Hp → Prop} (h : ∀ p H', H p = none → Same H H' → H' p = some o → Q p H') : ∀ p, H p = none → Q p (upd H p o) :=
  fun p hp => h p _ hp (Same.new hp) upd_same
theorem k_while {c : TT} {tb : TS} {nx bk ct : L2.St → Hp → Prop} {rt : VK} {σ : L2.St} {H : Hp} (W : Nat → L2.St → Hp → Prop) (m0 : Nat) (h0 : W m0 σ H)
    (hs : ∀ m σ H, W m σ H → c σ H fun b H1 => if b = true then ∃ N : L2.St → Hp → Prop, (∀ σ' H', N σ' H' → ∃ m', m' < m ∧ W m' σ' H') ∧
      tb (Ends.mk N rt nx N) σ H1 else nx σ H1) : tWhile c tb (Ends.mk nx rt bk ct) σ H := ⟨W, ⟨m0, h0⟩, hs⟩
theorem upd_facts {H H' : Hp} {p : Addr} {o : HO} (e : upd H p o = H') (h : H p = none) : Same H H' ∧ H' p = some o := e ▸ ⟨Same.new h, upd_same⟩
theorem Rid.ne {r p : Addr} {n : Nat} {H : Hp} (R : Rid r n H) (h : H p = none) : p ≠ r := by
  obtain ⟨c, ns, a, z, _, h2, _⟩ := R.ex
  exact fun e => by rw [e, h2] at h; cases h
/-- new for a heap is new for what it came from -/
theorem Gr.ne {r p : Addr} {H H' : Hp} {a : Addr} {o : HO} (g : Gr r H H') (n : a ≠ r) (e : H a = some o) (h : H' p = none) : a ≠ p := fun z => by
  rw [← z, g _ _ n e] at h
  cases h
theorem k_disp1 {i j : Nat} {k : Int} {v : V} {σ : L2.St} {H : Hp} {Q : VK} (h1 : σ[i]? = some (some (.int k))) (h2 : σ[j]? = some (some v))
    (q : ∀ p H', H p = none → Same H H' → H' p = some (.dK [(.inl k, v)]) → Q (.ref p) H') : tDisp [(tVar i, tVar j)] σ H Q := fun p hp => by
  refine ⟨_, h1, _, h2, ?_⟩
  refine ⟨upd_same, [(.inl k, v)], rfl, by simp, ?_⟩
  refine q p _ hp ?_ upd_same
  rw [upd_upd]
  exact Same.new hp
end Nd

namespace Nd
open PySem PySem.Spec PyProof.Rows L2
/-! ### data that stands apart from r -/
def keyD : Key → PyData
  | .inl i => .int i
  | .inr x => .str x
mutual
inductive Dr (r : Addr) (H : Hp) : V → PyData → Prop
  | non : Dr r H .non .none
  | bl (b : Bool) : Dr r H (.bl b) (.bool b)
  | int (i : Int) : Dr r H (.int i) (.int i)
  | str (x : Str) : Dr r H (.str x) (.str x)
  | lst {a : Addr} {xs : List V} {ds : List PyData} : a ≠ r → H a = some (.lst xs) → DrAll r H xs ds → Dr r H (.ref a) (.list ds)
  | tup {a : Addr} {xs : List V} {ds : List PyData} : a ≠ r → H a = some (.tup xs) → DrAll r H xs ds → Dr r H (.ref a) (.tuple ds)
  | dct {a : Addr} {kvs : List (Key × V)} {ds : List PyData} : a ≠ r → H a = some (.dK kvs) → DrAll r H (kvs.map (·.2)) ds →
      Dr r H (.ref a) (.dict ((kvs.map fun kv => keyD kv.1).zip ds))
inductive DrAll (r : Addr) (H : Hp) : List V → List PyData → Prop
  | nil : DrAll r H [] []
  | cons {v : V} {vs : List V} {d : PyData} {ds : List PyData} : Dr r H v d → DrAll r H vs ds → DrAll r H (v :: vs) (d :: ds)
end
mutual
theorem Dr.gr {r : Addr} {H H' : Hp} (g : Gr r H H') : ∀ {v : V} {d : PyData}, Dr r H v d → Dr r H' v d
  | _, _, .non => .non
  | _, _, .bl b => .bl b
  | _, _, .int i => .int i
  | _, _, .str x => .str x
  | _, _, .lst n e h => .lst n (g _ _ n e) (DrAll.gr g h)
  | _, _, .tup n e h => .tup n (g _ _ n e) (DrAll.gr g h)
  | _, _, .dct n e h => .dct n (g _ _ n e) (DrAll.gr g h)
theorem DrAll.gr {r : Addr} {H H' : Hp} (g : Gr r H H') : ∀ {vs : List V} {ds : List PyData}, DrAll r H vs ds → DrAll r H' vs ds
  | _, _, .nil => .nil
  | _, _, .cons h t => .cons (Dr.gr g h) (DrAll.gr g t)
end
theorem Dr.same {r : Addr} {H H' : Hp} (s : Same H H') {v : V} {d : PyData} (h : Dr r H v d) : Dr r H' v d := h.gr (Gr.same s)
theorem DrAll.same {r : Addr} {H H' : Hp} (s : Same H H') {v : List V} {d : List PyData} (h : DrAll r H v d) : DrAll r H' v d := h.gr (Gr.same s)
theorem DrAll.length {r : Addr} {H : Hp} : ∀ {vs : List V} {ds : List PyData}, DrAll r H vs ds → vs.length = ds.length
  | _, _, .nil => rfl
  | _, _, .cons _ t => congrArg (· + 1) (DrAll.length t)
theorem DrAll.get {r : Addr} {H : Hp} : ∀ {vs : List V} {ds : List PyData} {i : Nat} {v : V}, DrAll r H vs ds → vs[i]? = some v → ∃ d, ds[i]? = some d ∧ Dr r H v d
  | _, _, 0, _, .cons h _, e => by cases e; exact ⟨_, rfl, h⟩
  | _, _, i + 1, _, .cons _ t, e => DrAll.get (i := i) t e
  | _, _, 0, _, .nil, e => nomatch e
  | _, _, _ + 1, _, .nil, e => nomatch e
theorem DrAll.mem {r : Addr} {H : Hp} : ∀ {vs : List V} {ds : List PyData} {v : V}, DrAll r H vs ds → v ∈ vs → ∃ d, d ∈ ds ∧ Dr r H v d
  | _, _, _, .nil, e => nomatch e
  | _, _, _, .cons h t, e => by
    rcases List.mem_cons.mp e with rfl | e
    · exact ⟨_, List.mem_cons_self, h⟩
    · obtain ⟨d, m, h2⟩ := DrAll.mem t e
      exact ⟨d, List.mem_cons_of_mem _ m, h2⟩
mutual
theorem Dr.dp {r : Addr} {H : Hp} {K : PySem.W.Frag} : ∀ {v : V} {d : PyData}, Dr r H v d → d.hasDict = false → Dp K H v d
  | _, _, .non, _ => .non
  | _, _, .bl b, _ => .bl b
  | _, _, .int i, _ => .int i
  | _, _, .str x, _ => .str x
  | _, _, .lst _ e h, z => .lst (.inl (.inl e)) (DrAll.dp h (by simpa [PyData.hasDict] using z))
  | _, _, .tup _ e h, z => .tup (.inl (.inl e)) (DrAll.dp h (by simpa [PyData.hasDict] using z))
  | _, _, .dct _ _ _, z => by simp [PyData.hasDict] at z
theorem DrAll.dp {r : Addr} {H : Hp} {K : PySem.W.Frag} : ∀ {vs : List V} {ds : List PyData}, DrAll r H vs ds → PyData.hasDictAll ds = false → DpAll K H vs ds
  | _, _, .nil, _ => .nil
  | _, _, .cons h t, z => by
    simp only [PyData.hasDictAll, Bool.or_eq_false_iff] at z
    exact .cons (Dr.dp h z.1) (DrAll.dp t z.2)
end
/-! ### types -/
def tyD : PyData → String
  | .none => "NoneType"
  | .bool _ => "bool"
  | .int _ => "int"
  | .str _ => "str"
  | .list _ => "list"
  | .tuple _ => "tuple"
  | .dict _ => "dict"
theorem Dr.ty {r : Addr} {H : Hp} {K : PySem.W.Frag} {v : V} {d : PyData} (h : Dr r H v d) : TyX K H v (.type (tyD d)) := by
  cases h with
  | non => exact .base .non
  | bl b => exact .base (.bl b)
  | int i => exact .base (.int i)
  | str x => exact .base (.str x)
  | lst n e _ => exact .base (.lst e)
  | tup n e _ => exact .base (.tup e)
  | dct n e _ => exact .base (.dK e)
def isD (c : String) (d : PyData) : Bool := tyD d == c || (c == "int" && tyD d == "bool")
def cls6 : List String := ["int", "bool", "str", "list", "tuple", "dict"]
def tys7 : List String := ["NoneType", "bool", "int", "str", "list", "tuple", "dict"]
theorem kit42 : (tys7.all fun t => cls6.all fun c => decide (kitB t c = some (t == c || (c == "int" && t == "bool")))) = true := by decide +kernel
theorem kitD {K : PySem.W.Frag} {c : String} (d : PyData) (hc : c ∈ cls6) : PySem.W.kitOne K (.type (tyD d)) (.type c) = some (isD c d) := by
  have h := List.all_eq_true.mp kit42 (tyD d) (by cases d <;> simp [tyD, tys7])
  exact kit_ty (of_decide_eq_true (List.all_eq_true.mp h c hc))
theorem k_isi {r : Addr} {K : PySem.W.Frag} {H : Hp} {v : V} {d : PyData} {c : String} {Q : VK} (h : Dr r H v d) (hc : c ∈ cls6) (q : Q (.bl (isD c d)) H) : rIsi K [v, .ty c] H Q :=
  ⟨v, .ty c, _, _, _, rfl, .ty c, h.ty, kitD d hc, q⟩
theorem k_isi2 {r p : Addr} {K : PySem.W.Frag} {H : Hp} {v : V} {d : PyData} {c e : String} {Q : VK} (h : Dr r H v d) (hp : H p = some (.tup [.ty c, .ty e])) (hc : c ∈ cls6) (he : e ∈ cls6)
    (q : Q (.bl (isD c d || isD e d)) H) : rIsiT K [v, .ref p] H Q := by
  refine ⟨v, p, _, _, _, _, rfl, hp, .cons (.ty c) (.cons (.ty e) .nil), h.ty, ?_, q⟩
  refine kitAny_cons (kitD d hc) (fun z => ?_) (fun z => by rw [z]; rfl)
  rw [z, Bool.false_or]
  exact kitAny_cons (kitD d he) (fun z => by rw [z]; exact kitAny_nil) (fun z => z)
/-! ### == of any list with an empty one; is not True -/
def rEqNil (K : PySem.W.Frag) : R2 := fun x y H Q => ∃ a b xs, x = .ref a ∧ y = .ref b ∧ SqL K H a xs ∧ SqL K H b [] ∧ Q (.bl xs.isEmpty) H
theorem op_eqNil {X : Cx} (hu : X.A.units + 64 < cLine) : OpR X (compareOp .Eq) (rEqNil X.K) := by
  intro pins s σ H x y v u Q I rx ry h
  obtain ⟨a, b, xs, rfl, rfl, ha, hb, q⟩ := h
  cases xs with
  | nil => exact op_eqD hu pins s σ H _ _ v u Q I rx ry ⟨_, _, .lst ha .nil, .lst hb .nil, shNil, shNil, by simpa [PyData.eqv, PyData.eqvAll] using q⟩
  | cons z zs =>
    cases rx
    cases ry
    obtain ⟨i1, r1, l1, _⟩ := I.list ha
    obtain ⟨i2, r2, l2, _⟩ := I.list hb
    cases r2
    cases r1
    exact SeqAt.eq_list_lengthsAt l1.isList l2.isList (by simp) (by omega) ⟨.bl false, H, I, rfl, q⟩
theorem k_eqNil {K : PySem.W.Frag} {a b : Addr} {xs : List V} {H : Hp} {Q : VK} (ha : SqL K H a xs) (hb : SqL K H b []) (q : Q (.bl xs.isEmpty) H) : rEqNil K (.ref a) (.ref b) H Q := ⟨a, b, xs, rfl, rfl, ha, hb, q⟩
def rNotBl : R2 := fun x y H Q => ∃ b : Bool, y = .bl b ∧ ((∃ i, x = .int i ∧ Q (.bl true) H) ∨ ∃ c, x = .bl c ∧ Q (.bl (!decide (c = b))) H)
theorem op_notBl2 {X : Cx} : OpR X (compareOp .IsNot) rNotBl := by
  intro pins s σ H x y v u Q I rx ry h
  obtain ⟨b, rfl, h⟩ := h
  cases ry
  rcases h with ⟨i, rfl, q⟩ | ⟨c, rfl, q⟩
  · obtain ⟨t, rfl⟩ := rx
    exact wpAny_isNot_other (by rfl) (fun e => nomatch e) ⟨.bl true, H, I, rfl, q⟩
  · cases rx
    by_cases e : c = b
    · subst e
      exact wpAny_isNot_self (by cases c <;> rfl) ⟨.bl false, H, I, rfl, by simpa using q⟩
    · exact wpAny_isNot_other (by cases c <;> rfl) (fun z => e (by injection z)) ⟨.bl true, H, I, rfl, by simpa [e] using q⟩
/-! ### what the program's own looks say of data -/
def ndInt : PyData → Bool
  | .int _ => true
  | _ => false
def itemsD : PyData → Option (List PyData)
  | .list xs => some xs
  | .tuple xs => some xs
  | _ => none
def areIntsD (d : PyData) (k : Int) : Bool := match itemsD d with
  | some xs => decide ((xs.length : Int) = k) && xs.all ndInt
  | none => false
def fracD (d : PyData) : Bool := match itemsD d with
  | some [.int u, .int w] => decide (0 < w) && decide (Nat.gcd u.natAbs w.natAbs = 1)
  | _ => false
def lowD (i : Int) : Option Int → Bool
  | none => true
  | some x => decide (x ≤ i)
def highD (i : Int) : Option Int → Bool
  | none => true
  | some x => decide (i ≤ x)
def withinD (d : PyData) (l m : Option Int) : Bool := match d with
  | .int i => lowD i l && highD i m
  | _ => false
def optV : Option Int → V
  | none => .non
  | some i => .int i
theorem isInt_eq (d : PyData) : (isD "int" d && !isD "bool" d) = ndInt d := by cases d <;> rfl
def spIsInt : Sp := fun vs H Q _ => ∃ (r : Addr) (v : V) (d : PyData), vs = [v] ∧ Dr r H v d ∧ ∀ H', Same H H' → Q (.bl (ndInt d)) H'
def spWithin : Sp := fun vs H Q _ => ∃ (r : Addr) (v : V) (d : PyData) (l m : Option Int), vs = [v, optV l, optV m] ∧ Dr r H v d ∧ ∀ H', Same H H' → Q (.bl (withinD d l m)) H'
def spAreInts : Sp := fun vs H Q _ => ∃ (r : Addr) (v : V) (d : PyData) (k : Int), vs = [v, .int k] ∧ Dr r H v d ∧ (∀ xs, itemsD d = some xs → xs.length ≤ 1000) ∧ ∀ H', Same H H' → Q (.bl (areIntsD d k)) H'
def spFrac : Sp := fun vs H Q _ => ∃ (r : Addr) (v : V) (d : PyData), vs = [v] ∧ Dr r H v d ∧ (∀ xs, itemsD d = some xs → xs.length ≤ 1000) ∧ ∀ H', Same H H' → Q (.bl (fracD d)) H'
theorem ndInt_int : ∀ {d : PyData}, ndInt d = true → ∃ i, d = .int i
  | .int i, _ => ⟨i, rfl⟩
theorem two_ints {d : PyData} (h : areIntsD d 2 = true) : ∃ u z, itemsD d = some [.int u, .int z] := by
  unfold areIntsD at h
  cases hi : itemsD d with
  | none => rw [hi] at h; cases h
  | some xs =>
    rw [hi] at h
    simp only [Bool.and_eq_true, decide_eq_true_eq] at h
    obtain ⟨h1, h2⟩ := h
    match xs, h1, h2 with
    | [x, y], _, h2 =>
      simp only [List.all_cons, List.all_nil, Bool.and_true, Bool.and_eq_true] at h2
      obtain ⟨i, rfl⟩ := ndInt_int h2.1
      obtain ⟨j, rfl⟩ := ndInt_int h2.2
      exact ⟨i, j, rfl⟩
    | [], h1, _ => exact absurd h1 (by decide)
    | [_], h1, _ => exact absurd h1 (by simp)
    | _ :: _ :: _ :: _, h1, _ =>
      simp only [List.length_cons] at h1
      omega
theorem frac_of {d : PyData} (h : fracD d = true) : ∃ u z, itemsD d = some [.int u, .int z] := by
  unfold fracD at h
  split at h
  · exact ⟨_, _, by assumption⟩
  · cases h
theorem fracD_no {d : PyData} (h : areIntsD d 2 = false) : fracD d = false := by
  cases hf : fracD d with
  | false => rfl
  | true =>
    obtain ⟨u, z, e⟩ := frac_of hf
    rw [areIntsD, e] at h
    exact absurd h (by simp [ndInt])
theorem gcd_one (a : Nat) : (((a : Nat) : Int) = 1) ↔ a = 1 := by omega
def spDiv : Sp := fun vs H Q _ => ∃ a b : Int, vs = [.int a, .int b] ∧ ∀ H', Same H H' → Q (.int ((Nat.gcd a.natAbs b.natAbs : Nat) : Int)) H'
theorem gcd_turn {x y : Nat} : Nat.gcd y (x % y) = Nat.gcd x y := by
  rw [Nat.gcd_comm x y, Nat.gcd_rec y x, Nat.gcd_comm]
theorem given_none {n : Nat} {f : Nat → Bool} {v : Nat → V} : (given n f v).isEmpty = (List.range n).all fun i => !f i := by
  unfold given
  rw [List.isEmpty_map]
  induction (List.range n) with
  | nil => rfl
  | cons a r ih =>
    rw [List.filter_cons, List.all_cons]
    cases f a with
    | true => rfl
    | false => simpa using ih
theorem all_range_ds {p : PyData → Bool} {ds : List PyData} : (List.range ds.length).all (fun i => p (ds.getD i .none)) = ds.all p := by
  induction ds with
  | nil => rfl
  | cons d ds ih =>
    rw [List.length_cons, List.range_succ_eq_map, List.all_cons, List.all_map, List.all_cons, ← ih]
    rfl
def spNum (k : Nat) (B : Nat) : Sp := fun vs H Q _ => ∃ (r : Addr) (n : Nat), vs = [.ref r] ∧ Rid r n H ∧ n + k < 1000000 ∧
  ∀ H' (i : Int), Gr r H H' → Rid r (n + k) H' → i.natAbs ≤ B → Q (.int i) H'
/-- data of some form -/
def spDat (k : Nat) (G : PyData → Prop) : Sp := fun vs H Q _ => ∃ (r : Addr) (n : Nat), vs = [.ref r] ∧ Rid r n H ∧ n + k < 1000000 ∧
  ∀ H' v d, Gr r H H' → Rid r (n + k) H' → Dr r H' v d → G d → Q v H'
end Nd

namespace Nd
open PySem PySem.Spec PyProof.Rows L2
/-! ### calls by names alone -/
def byIx (ix : List Nat) {α : Type} (l : List α) : List α := ix.filterMap fun i => l[i]?
theorem byIx_vals {zs : List V} {ws : List Value} (r : Vals zs ws) : ∀ ix : List Nat, Vals (byIx ix zs) (byIx ix ws)
  | [] => .nil
  | i :: ix => by
    unfold byIx
    rw [List.filterMap_cons, List.filterMap_cons]
    cases h : zs[i]? with
    | none =>
      rw [r.none_of h]
      exact byIx_vals r ix
    | some x =>
      obtain ⟨u, h1, h2⟩ := r.get h
      rw [h1]
      exact .cons h2 (byIx_vals r ix)
structure CalK (P : Program) (w : World) (K : PySem.W.Frag) (mg : Str → Option Value) (base : Heap) (CX : CXT) (k : Nat) (x : Str) (ks : List Str) (ix : List Nat) (sp : Sp) : Prop where
  ex : ∃ (f : Addr) (fd : FuncData) (ps : List Str), FnG P w K mg base CX k f fd ps sp ∧ mg x = some (.ref f) ∧ PySem.W.keepIn K (.ref f) = true ∧
    ∀ (s : Shared) (ws : List Value), ws.length = ks.length → BindsTo s fd ⟨[], ks.zip ws⟩ (ps.zip (byIx ix ws))
theorem kwBinds {K : PySem.W.Frag} {x qual : Str} {st : Stmt} {f : Addr} {fd : FuncData} {ps ks : List Str} {ix : List Nat} (F : Fun K x qual st f fd)
    (h : ∀ (kV doc pm : Value) (an : Option Addr) (cdv ct : Value) (ws : List Value), ws.length = ks.length →
      bindArgs (PySem.W.fnOf x qual (defArgs st) (defBody st) (defScope st) .none kV doc pm an cdv ct) ⟨[], ks.zip ws⟩ = pure (ps.zip (byIx ix ws))) :
    ∀ (s : Shared) (ws : List Value), ws.length = ks.length → BindsTo s fd ⟨[], ks.zip ws⟩ (ps.zip (byIx ix ws)) := by
  obtain ⟨oc, od, kV, doc, pm, an, cdv, ct, osl, rfl, lk, hcd⟩ := F.ex
  exact fun s ws hl => .of_eq (h kV doc pm an cdv ct ws hl)
def tKw (n : Nat) (ix : List Nat) (sp : Sp) (E : XK) (tk : TA) : TE := fun σ H Q => tk σ H fun zs H2 => zs.length = n ∧ sp (byIx ix zs) H2 Q E
theorem pe_kw {X : Cx} {CX : CXT} {k : Nat} {x : Str} {ks : List Str} {ix : List Nat} {sp : Sp} {E : XK} {p pos : Pos} {kws : List Keyword} {tk : TA}
    (c : CalK X.prog X.w X.K X.mg X.base CX k x ks ix sp) (hG : X.A.guards = some []) (hr : Room k X.A) (hg : Gl X x) (hx : Passes CX X E) (hkw : PK X kws tk)
    (hall : (backToKw pos (keywordEach kws X.env)).all (·.1.isSome) = true := by rfl) (hks : (backToKw pos (keywordEach kws X.env)).filterMap (·.1) = ks := by rfl) (hdb : (x == ("__debug__" : Str)) = false := by decide)
    (hpl : ((backTo pos (starEach [] X.env)).any (·.1) || (backToKw pos (keywordEach kws X.env)).any (·.1.isNone)) = false := by rfl) :
    PE X (.Call (.Name x p) [] kws pos) (tKw ks.length ix sp E tk) := by
  obtain ⟨f, fd, ps, F, hm, hk, hb⟩ := c.ex
  constructor
  intro pins s σ H Q I h
  apply wpAny_Call_Name_kw (ld_glob I hg hm ?_ hdb)
  apply PySem.W.callWith_KW0 (h₀ := X.base) I.ok.mod.kin hk hall ?_ hpl
  apply thn (hkw.run pos pins s σ H _ I h)
  rintro ws s2 ⟨zs, H2, I2, rz, l2, q2⟩
  refine ⟨I2.kIn, ?_⟩
  rw [hks]
  have run := F.go X.A X.stack s2 H2 ⟨[], ks.zip ws⟩ (byIx ix ws) (byIx ix zs) Q E hG hr I2.env0 (hb s2 ws (rz.length.symm.trans l2)) (byIx_vals rz ix) q2
  refine wpAny_call (codeAny_mono run ?_)
  rintro (e' | fl) s' hq
  · exact hx pins σ H2 s2 e' s' I2 hq
  · cases fl with
    | ret u => exact I2.after hq
    | next => exact hq.elim
    | brk => exact hq.elim
    | cont => exact hq.elim
theorem k_kw {n : Nat} {ix : List Nat} {sp : Sp} {E : XK} {tk : TA} {σ : L2.St} {H : Hp} {Q : VK} (h : tk σ H fun zs H2 => zs.length = n ∧ sp (byIx ix zs) H2 Q E) : tKw n ix sp E tk σ H Q := h
/-! ### for loops -/
def ForIn (J : It) (g : TG) (tb : TS) (D : Ends) (σ : L2.St) (H : Hp) : Prop := tFor (fun _ H R => R J H) g tb D σ H
theorem k_for {wi : TI} {g : TG} {tb : TS} {D : Ends} {σ : L2.St} {H : Hp} (h : wi σ H fun J H1 => ForIn J g tb D σ H1) : tFor wi g tb D σ H := h
theorem forIn_R {lo : Int} {n : Nat} {g : TG} {tb : TS} {nx bk ct : L2.St → Hp → Prop} {rt : VK} {σ : L2.St} {H : Hp} (Pv : Nat → L2.St → Hp → Prop) (h0 : Pv 0 σ H)
    (hs : ∀ i σ H, i < n → Pv i σ H → g (.int (lo + i)) σ H fun σ2 H2 => tb (Ends.mk (Pv (i + 1)) rt nx (Pv (i + 1))) σ2 H2)
    (hd : ∀ σ H, Pv n σ H → nx σ H) : ForIn (Itr lo n) g tb (Ends.mk nx rt bk ct) σ H := for_range (lo := lo) (n := n) Pv h0 hs hd
theorem forIn_L {K : PySem.W.Frag} {a : Addr} {xs : List V} {g : TG} {tb : TS} {nx bk ct : L2.St → Hp → Prop} {rt : VK} {σ : L2.St} {H : Hp} (Pv : Nat → L2.St → Hp → Prop) (h0 : Pv 0 σ H)
    (hl : ∀ i σ H, i ≤ xs.length → Pv i σ H → SqL K H a xs)
    (hs : ∀ i x σ H, xs[i]? = some x → Pv i σ H → g x σ H fun σ2 H2 => tb (Ends.mk (Pv (i + 1)) rt nx (Pv (i + 1))) σ2 H2)
    (hd : ∀ σ H, Pv xs.length σ H → nx σ H) : ForIn (Itl K a) g tb (Ends.mk nx rt bk ct) σ H := for_list (K := K) (a := a) (xs := xs) Pv h0 hl hs hd
/-! ### an expression, a test, by what it gives, once for all that follows -/
theorem k_cutE {te : TE} {σ : L2.St} {H : Hp} {Q : VK} (v : V) (h : ∀ Q' : VK, (∀ H', Same H H' → Q' v H') → te σ H Q') (k : ∀ H', Same H H' → Q v H') : te σ H Q := h Q k
theorem k_cutT {tt : TT} {σ : L2.St} {H : Hp} {Q : Bool → Hp → Prop} (b : Bool) (h : ∀ Q' : Bool → Hp → Prop, (∀ H', Same H H' → Q' b H') → tt σ H Q') (k : ∀ H', Same H H' → Q b H') : tt σ H Q := h Q k
theorem k_andV' {ta tb : TE} {σ : L2.St} {H : Hp} {Q : VK} (h : tAndV ta tb σ H Q) : tAndV ta tb σ H Q := h
theorem withinD_no {d : PyData} {l m : Option Int} (h : ndInt d = false) : withinD d l m = false := by cases d <;> first | rfl | cases h
end Nd

local macro_rules | `(tactic| walk_at "nd") => `(tactic| (first
  | with_reducible refine Nd.k_cons ?_
  | with_reducible refine Nd.k_nil ?_
  | with_reducible refine Nd.k_op ?_
  | with_reducible refine Nd.k_c ?_
  | with_reducible refine Nd.k_call ?_
  | with_reducible refine Nd.k_cb ?_
  | with_reducible refine Nd.k_seq ?_
  | with_reducible refine Nd.k_next ?_
  | with_reducible refine Nd.k_ret ?_
  | with_reducible refine Nd.k_if ?_
  | with_reducible refine Nd.k_asg ?_
  | with_reducible refine Nd.k_I0 ?_
  | with_reducible refine Nd.k_U ?_
  | with_reducible refine Nd.k_un ?_
  | with_reducible refine Nd.k_drop ?_
  | with_reducible refine Nd.k_retN ?_
  | with_reducible refine Nd.k_brk ?_
  | with_reducible refine Nd.k_cont ?_
  | with_reducible refine Nd.k_gname ?_
  | with_reducible refine Nd.k_gsub ?_
  | with_reducible refine Nd.k_gcons ?_
  | with_reducible refine Nd.k_gnil ?_
  | with_reducible refine Nd.k_par ?_
  | with_reducible refine Nd.k_par3 ?_
  | with_reducible refine Nd.k_tup ?_
  | with_reducible refine Nd.k_lst ?_
  | with_reducible refine Nd.k_ife ?_
  | with_reducible refine Nd.k_andV ?_
  | with_reducible refine Nd.k_orV ?_
  | with_reducible refine Nd.k_notV ?_
  | with_reducible refine Nd.k_tB ?_
  | with_reducible refine Nd.k_test ?_
  | with_reducible refine Nd.k_tAnd ?_
  | with_reducible refine Nd.k_tOr ?_
  | with_reducible refine Nd.k_tNot ?_
  | with_reducible refine Nd.k_tYes ?_
  | with_reducible refine Nd.k_kw ?_
  | with_reducible refine Nd.k_for ?_
  | with_reducible refine Nd.k_lc ?_
  | with_reducible refine Nd.k_iList ?_
  | with_reducible refine Nd.k_iTup ?_
  | with_reducible refine Nd.k_iR1 ?_
  | with_reducible refine Nd.k_iR2 ?_
  | with_reducible refine Nd.k_sl ?_
  | with_reducible refine Nd.k_noPart ?_
  | with_reducible refine Nd.k_part ?_
  | with_reducible refine Nd.k_bm ?_
  | with_reducible refine Nd.k_gcd ?_
  | with_reducible refine Nd.k_tru ?_
  | with_reducible refine Nd.k_bits ?_
  | with_reducible refine Nd.k_dnewK ?_
  | with_reducible refine Nd.k_dget2 ?_
  | with_reducible refine Nd.k_dput ?_
  | with_reducible refine Nd.k_items ?_
  | with_reducible refine Nd.k_iEnum ?_
  | with_reducible refine Nd.k_iEnumT ?_
  | with_reducible refine Nd.k_iZipA ?_
  | focus ((with_reducible refine Nd.k_var (v := ?vv) ?hv ?hq); (case hv => exact rfl))
  | focus ((with_reducible refine Nd.k_aug (x := ?vv) ?hv ?hq); (case hv => exact rfl))
  | focus ((with_reducible refine Nd.k_eq ?hv ?hq); (case hv => exact rfl))
  | focus ((with_reducible refine Nd.k_ne ?hv ?hq); (case hv => exact rfl))
  | with_reducible refine ⟨rfl, ?_⟩
  | with_reducible refine ⟨_, rfl, ?_⟩
  | with_reducible refine ⟨_, _, rfl, ?_⟩
  | with_reducible refine ⟨_, _, _, rfl, ?_⟩
  | with_reducible refine Or.inl ⟨_, rfl, ?_⟩
  | with_reducible refine Or.inr ⟨_, rfl, ?_⟩
  | with_reducible refine Nd.k_nx ?_
  | with_reducible refine Nd.k_rt ?_
  | with_reducible refine Nd.k_bk ?_
  | with_reducible refine Nd.k_ct ?_))
local macro_rules | `(tactic| walk_at "go") => `(tactic| repeat (walk_at "nd"))
local macro_rules | `(tactic| walk_at "nd2") => `(tactic| (first
  | with_reducible refine Nd.k_cons ?_
  | with_reducible refine Nd.k_nil ?_
  | with_reducible refine Nd.k_op ?_
  | with_reducible refine Nd.k_c ?_
  | with_reducible refine Nd.k_call ?_
  | with_reducible refine Nd.k_cb ?_
  | with_reducible refine Nd.k_seq ?_
  | with_reducible refine Nd.k_next ?_
  | with_reducible refine Nd.k_ret ?_
  | with_reducible refine Nd.k_if ?_
  | with_reducible refine Nd.k_asg ?_
  | with_reducible refine Nd.k_I0 ?_
  | with_reducible refine Nd.k_U ?_
  | with_reducible refine Nd.k_un ?_
  | with_reducible refine Nd.k_drop ?_
  | with_reducible refine Nd.k_retN ?_
  | with_reducible refine Nd.k_brk ?_
  | with_reducible refine Nd.k_cont ?_
  | with_reducible refine Nd.k_gname ?_
  | with_reducible refine Nd.k_gsub ?_
  | with_reducible refine Nd.k_gcons ?_
  | with_reducible refine Nd.k_gnil ?_
  | with_reducible refine Nd.k_par ?_
  | with_reducible refine Nd.k_par3 ?_
  | with_reducible refine Nd.k_tup ?_
  | with_reducible refine Nd.k_lst ?_
  | with_reducible refine Nd.k_notV ?_
  | with_reducible refine Nd.k_tB ?_
  | with_reducible refine Nd.k_test ?_
  | with_reducible refine Nd.k_tNot ?_
  | with_reducible refine Nd.k_tYes ?_
  | with_reducible refine Nd.k_kw ?_
  | with_reducible refine Nd.k_for ?_
  | with_reducible refine Nd.k_lc ?_
  | with_reducible refine Nd.k_iList ?_
  | with_reducible refine Nd.k_iTup ?_
  | with_reducible refine Nd.k_iR1 ?_
  | with_reducible refine Nd.k_iR2 ?_
  | with_reducible refine Nd.k_sl ?_
  | with_reducible refine Nd.k_noPart ?_
  | with_reducible refine Nd.k_part ?_
  | with_reducible refine Nd.k_bm ?_
  | with_reducible refine Nd.k_gcd ?_
  | with_reducible refine Nd.k_tru ?_
  | with_reducible refine Nd.k_bits ?_
  | with_reducible refine Nd.k_dnewK ?_
  | with_reducible refine Nd.k_dget2 ?_
  | with_reducible refine Nd.k_dput ?_
  | with_reducible refine Nd.k_items ?_
  | with_reducible refine Nd.k_iEnum ?_
  | with_reducible refine Nd.k_iEnumT ?_
  | with_reducible refine Nd.k_iZipA ?_
  | focus ((with_reducible refine Nd.k_var (v := ?vv) ?hv ?hq); (case hv => exact rfl))
  | focus ((with_reducible refine Nd.k_aug (x := ?vv) ?hv ?hq); (case hv => exact rfl))
  | focus ((with_reducible refine Nd.k_eq ?hv ?hq); (case hv => exact rfl))
  | focus ((with_reducible refine Nd.k_ne ?hv ?hq); (case hv => exact rfl))
  | with_reducible refine ⟨rfl, ?_⟩
  | with_reducible refine ⟨_, rfl, ?_⟩
  | with_reducible refine ⟨_, _, rfl, ?_⟩
  | with_reducible refine ⟨_, _, _, rfl, ?_⟩
  | with_reducible refine Or.inl ⟨_, rfl, ?_⟩
  | with_reducible refine Or.inr ⟨_, rfl, ?_⟩
  | with_reducible refine Nd.k_nx ?_
  | with_reducible refine Nd.k_rt ?_
  | with_reducible refine Nd.k_bk ?_
  | with_reducible refine Nd.k_ct ?_))
local macro_rules | `(tactic| walk_at "ga") => `(tactic| repeat (walk_at "nd2"))


namespace K02
open PySem PySem.Spec PyProof.Rows L2 Nd
def top (i : Nat) : Stmt := PySem.Challenge.pw_nodice_k02_what_any_value_is.main.body.getD i (.Pass ⟨0, 0, 0, 0⟩)
structure Txt (mg : Str → Option Value) : Prop where
  m_int : mg "int" = none
  m_len : mg "len" = none
  m_abs : mg "abs" = none
abbrev s__law_shake : Stmt := top 8
theorem sc__law_shake : FnScope ["riddle", "many", "rest", "at", "cell", "mixed"] ["riddle", "many"] (defScope s__law_shake) := ⟨rfl, rfl, rfl, by decide +kernel, rfl, by decide +kernel, by decide +kernel⟩
section
variable {P : Program} {w : World} {K : PySem.W.Frag} {mg : Str → Option Value} {base : Heap}
theorem ok_shake {f : Addr} {fd : FuncData} (F : Fun K "_law_shake" "_law_shake" s__law_shake f fd) (T : Txt mg) : FnG P w K mg base CX0 1 f fd ["riddle", "many"] spDraw := by
  refine okG0 F sc__law_shake (fun vs H Q E h => ?_) (fun cdv A outer s H vs Q E hG hr h => ?_)
  · obtain ⟨r, n, m, rfl, _⟩ := h
    rfl
  · obtain ⟨r, n, m, rfl, R, hn, m0, m1, q⟩ := h
    refine ⟨_, (pss_cons (ps_if (pt_cmpR op_gt (pe_ix ix_list (pv 0) pe_int (fun _ _ => rfl)) pe_int (nomark _)) (pss_cons (ps_set (i := 2) sc__law_shake.nd rfl (.inl rfl) (pe_callTy call_int1 (by rfl) T.m_int (by decide +kernel) (pa_cons (pe_ix ix_list (pv 0) pe_int (fun _ _ => rfl)) pa_nil)))
      (pss_cons (ps_asg (pe_op op_fdiv (pv 2) (pv 1)) (pg_sub (pv 0) pe_int set_list))
      (pss_one (ps_ret (pe_op op_mod (pe_callTy call_int1 (by rfl) T.m_int (by decide +kernel) (pa_cons (pv 2) pa_nil)) (pv 1)))))) pss_nil)
      (pss_cons (ps_set (i := 3) sc__law_shake.nd rfl (.inl rfl) (pe_ix ix_list (pv 0) pe_int (fun _ _ => rfl)))
      (pss_cons (ps_asg (pe_op op_add (pv 3) pe_int) (pg_sub (pv 0) pe_int set_list))
      (pss_cons (ps_if (pt_cmpR (op_eqD hr.units) (pe_ix ix_list (pv 0) pe_int (fun _ _ => rfl)) (pe_lst pa_nil) (nomark _)) (pss_one (ps_ret pe_int)) pss_nil)
      (pss_cons (ps_set (i := 4) sc__law_shake.nd rfl (.inl rfl) (pe_ix ix_list (pe_ix ix_list (pv 0) pe_int (fun _ _ => rfl)) (pe_op op_mod (pe_callTy call_int1 (by rfl) T.m_int (by decide +kernel) (pa_cons (pv 3) pa_nil)) (pe_callB (id := "len") call_len_seq (by rfl) T.m_len PySem.boot_len (pa_cons (pe_ix ix_list (pv 0) pe_int (fun _ _ => rfl)) pa_nil))) (fun _ _ => rfl)))
      (pss_cons (ps_if (PW.pt (pw_and (pt_cmpR op_lt (pv 3) (pe_callB (id := "len") call_len_seq (by rfl) T.m_len PySem.boot_len (pa_cons (pe_ix ix_list (pv 0) pe_int (fun _ _ => rfl)) pa_nil)) (nomark _)) (pw_and1 (pt_cmpR op_ge (pe_callB (id := "abs") call_abs (by rfl) T.m_abs (by decide +kernel) (pa_cons (pv 4) pa_nil)) (pe_op op_pow pe_int pe_int) (nomark _))))) (pss_cons (ps_set (i := 2) sc__law_shake.nd rfl (.inl rfl) (pe_op op_add (pe_op op_mul pe_int (pe_op op_sub (pe_callB (id := "abs") call_abs (by rfl) T.m_abs (by decide +kernel) (pa_cons (pv 4) pa_nil)) (pe_op op_pow pe_int pe_int))) (pe_callTy call_int1 (by rfl) T.m_int (by decide +kernel) (pa_cons (pe_cmpR op_lt (pv 4) pe_int (nomark _)) pa_nil))))
      (pss_cons (ps_asg (pe_op op_fdiv (pe_callTy call_int1 (by rfl) T.m_int (by decide +kernel) (pa_cons (pv 2) pa_nil)) (pv 1)) (pg_sub (pv 0) pe_int set_list))
      (pss_one (ps_ret (pe_op op_mod (pe_callTy call_int1 (by rfl) T.m_int (by decide +kernel) (pa_cons (pv 2) pa_nil)) (pv 1)))))) pss_nil)
      (pss_cons (ps_set (i := 5) sc__law_shake.nd rfl (.inl rfl) (pe_op op_mod (pe_callTy call_int1 (by rfl) T.m_int (by decide +kernel) (pa_cons (pe_op op_pow (pe_op op_add (pe_op op_add (pe_op op_mod (pe_callTy call_int1 (by rfl) T.m_int (by decide +kernel) (pa_cons (pv 4) pa_nil)) pe_int) (pe_op op_mul pe_int (pv 3))) pe_int) pe_int) pa_nil)) pe_int))
      (pss_cons (ps_set (i := 5) sc__law_shake.nd rfl (.inl rfl) (pe_op op_mod (pe_callTy call_int1 (by rfl) T.m_int (by decide +kernel) (pa_cons (pe_op op_pow (pe_op op_add (pe_op op_add (pe_op op_mul (pv 5) (pe_op op_add (pe_op op_mul pe_int (pv 3)) pe_int)) (pe_op op_mul (pe_op op_mul pe_int (pv 3)) (pv 3))) pe_int) pe_int) pa_nil)) pe_int))
      (pss_one (ps_ret (pe_op op_mod (pe_callTy call_int1 (by rfl) T.m_int (by decide +kernel) (pa_cons (pe_op op_fdiv (pv 5) pe_int) pa_nil)) (pv 1)))))))))))), ?_⟩
    dsimp only [cxOf, Cx.nox, Cx.wish]
    obtain ⟨c, ns, a, z, rc, hR, hC, hl, a0, a1, z0⟩ := R.ex
    have at2 : atI [V.ref c, V.int a, V.int z] 2 = some (V.int z) := rfl
    have at1 : atI [V.ref c, V.int a, V.int z] 1 = some (V.int a) := rfl
    walk_at "go"
    refine k_ixL (.inl (.inl hR)) at2 ?_
    walk_at "go"
    refine ite2 (fun h => ?_) (fun h => ?_)
    · walk_at "go"
      refine k_ixL (.inl (.inl hR)) at2 ?_
      walk_at "go"
      refine k_I ⟨m0, m1⟩ ?_
      walk_at "go"
      refine k_setL hR rfl ?_
      walk_at "go"
      refine k_I m0 ?_
      walk_at "go"
      refine q _ _ (Gr.put hR) ⟨c, ns, a, z / m, rc, upd_same, (upd_ne rc.symm).trans hC, hl, a0, by omega, Int.ediv_nonneg z0 (by omega)⟩ (Int.emod_nonneg _ (by omega)) (Int.emod_lt_of_pos _ m0)
    · walk_at "go"
      refine k_ixL (.inl (.inl hR)) at1 ?_
      walk_at "go"
      refine k_setL (j := 1) hR rfl ?_
      walk_at "go"
      refine k_ixL (.inl (.inl upd_same)) rfl ?_
      walk_at "go"
      refine ⟨by decide, fun p hp => ?_⟩
      have np : p ≠ r := fun e => by rw [e, upd_same] at hp; cases hp
      have hc' : c ≠ p := fun e => by rw [← e, upd_ne rc.symm, hC] at hp; cases hp
      have e1 : (upd (upd H r (.lst ([V.ref c, V.int a, V.int z].set 1 (V.int (a + 1))))) p (.lst [])) c = some (.lst (ns.map V.int)) := by
        rw [upd_ne hc', upd_ne rc.symm, hC]
      refine k_eqD (Dp.lst (.inl (.inl e1)) (dpInts ns)) (Dp.lst (.inl (.inl upd_same)) .nil) (shInts ns) shNil ?_
      rw [eqvNil]
      walk_at "go"
      refine ite2 (fun he => ?_) (fun he => ?_)
      · walk_at "go"
        refine q _ _ ((Gr.put hR).trans (Gr.new hp)) (Rid.new ⟨c, ns, a + 1, z, rc, upd_same, (upd_ne rc.symm).trans hC, hl, by omega, by omega, z0⟩ hp) (by omega) m0
      · have hne : 0 < ns.length := by
          cases ns with
          | nil => exact absurd rfl he
          | cons _ _ => exact Nat.succ_pos _
        have hR2 : (upd (upd H r (.lst ([V.ref c, V.int a, V.int z].set 1 (V.int (a + 1))))) p (.lst [])) r = some (.lst [V.ref c, V.int (a + 1), V.int z]) := by
          rw [upd_ne np.symm, upd_same]
          rfl
        have g2 : Gr r H (upd (upd H r (.lst ([V.ref c, V.int a, V.int z].set 1 (V.int (a + 1))))) p (.lst [])) := (Gr.put hR).trans (Gr.new hp)
        clear he hp hc' np
        revert hR2 e1 g2
        generalize (upd (upd H r (.lst ([V.ref c, V.int a, V.int z].set 1 (V.int (a + 1))))) p (.lst [])) = H2
        intro e1 hR2 g2
        have L2 : SqL K H2 r [V.ref c, V.int (a + 1), V.int z] := .inl (.inl hR2)
        have LC : SqL K H2 c (ns.map V.int) := .inl (.inl e1)
        have hlen : (0 : Int) < ((ns.map V.int).length : Int) := by
          rw [List.length_map]
          omega
        walk_at "go"
        refine k_ixL L2 rfl ?_
        walk_at "go"
        refine k_ixL L2 rfl ?_
        walk_at "go"
        refine ⟨c, ns.map V.int, rfl, .inl LC, ?_⟩
        refine k_I hlen ?_
        obtain ⟨v, _, hv⟩ := atInts (ns := ns) (i := a % ((ns.map V.int).length : Int)) (Int.emod_nonneg _ (by omega)) (by
          have := Int.emod_lt_of_pos a hlen
          rw [List.length_map] at this ⊢
          exact this)
        refine k_ixL LC hv ?_
        walk_at "go"
        refine k_ixL L2 rfl ?_
        walk_at "go"
        refine ⟨c, ns.map V.int, rfl, .inl LC, ?_⟩
        walk_at "go"
        refine ite2 (fun h2 => ?_) (fun h2 => iteF ?_)
        · walk_at "go"
          refine k_I ⟨by decide, by decide, by decide⟩ ?_
          walk_at "go"
          refine ite2 (fun h3 => ?_) (fun h3 => ?_)
          · have h3' := of_decide_eq_true h3
            clear h3
            walk_at "go"
            refine k_I ⟨by decide, by decide, by decide⟩ ?_
            walk_at "go"
            refine k_I (.inl ⟨by decide, by decide⟩) ?_
            walk_at "go"
            refine k_I ⟨m0, m1⟩ ?_
            walk_at "go"
            refine k_setL (j := 2) hR2 rfl ?_
            walk_at "go"
            refine k_I m0 ?_
            walk_at "go"
            refine q _ _ (g2.trans (Gr.put hR2)) ⟨c, ns, a + 1, _, rc, upd_same, (upd_ne rc.symm).trans e1, hl, by omega, by omega, ?_⟩ (Int.emod_nonneg _ (by omega)) (Int.emod_lt_of_pos _ m0)
            refine Int.ediv_nonneg (Int.add_nonneg (Int.mul_nonneg (by decide) (Int.sub_nonneg_of_le h3')) ?_) (by omega)
            split <;> decide
          · walk_at "go"
            refine k_I (by decide) ?_
            walk_at "go"
            refine k_I (.inl ⟨by decide, by decide⟩) ?_
            walk_at "go"
            refine k_I ⟨by decide, by decide, by omega⟩ ?_
            walk_at "go"
            refine k_I (by decide) ?_
            generalize hu : (_ : Int) % 2147483549 = u
            have u0 : 0 ≤ u := by rw [← hu]; exact Int.emod_nonneg _ (by decide)
            have u1 : u < 2147483549 := by rw [← hu]; exact Int.emod_lt_of_pos _ (by decide)
            clear hu
            walk_at "go"
            refine k_I (.inl ⟨by decide, by decide⟩) ?_
            walk_at "go"
            refine k_I (.inl ⟨by omega, by omega⟩) ?_
            walk_at "go"
            refine k_I (.inl ⟨by decide, by decide⟩) ?_
            walk_at "go"
            refine k_I (.inl ⟨by omega, by omega⟩) ?_
            walk_at "go"
            refine k_I ⟨by decide, by decide, mixBig u0 (by omega) a0 (by omega) (by decide) (by decide) (by decide) (by decide) (by decide) (by decide)⟩ ?_
            walk_at "go"
            refine k_I (by decide) ?_
            walk_at "go"
            refine k_I ⟨by decide, by decide⟩ ?_
            walk_at "go"
            refine k_I m0 ?_
            walk_at "go"
            refine q _ _ g2 ⟨c, ns, a + 1, z, rc, hR2, e1, hl, by omega, by omega, z0⟩ (Int.emod_nonneg _ (by omega)) (Int.emod_lt_of_pos _ m0)
        · walk_at "go"
          refine k_I (by decide) ?_
          walk_at "go"
          refine k_I (.inl ⟨by decide, by decide⟩) ?_
          walk_at "go"
          refine k_I ⟨by decide, by decide, by omega⟩ ?_
          walk_at "go"
          refine k_I (by decide) ?_
          generalize hu : (_ : Int) % 2147483549 = u
          have u0 : 0 ≤ u := by rw [← hu]; exact Int.emod_nonneg _ (by decide)
          have u1 : u < 2147483549 := by rw [← hu]; exact Int.emod_lt_of_pos _ (by decide)
          clear hu
          walk_at "go"
          refine k_I (.inl ⟨by decide, by decide⟩) ?_
          walk_at "go"
          refine k_I (.inl ⟨by omega, by omega⟩) ?_
          walk_at "go"
          refine k_I (.inl ⟨by decide, by decide⟩) ?_
          walk_at "go"
          refine k_I (.inl ⟨by omega, by omega⟩) ?_
          walk_at "go"
          refine k_I ⟨by decide, by decide, mixBig u0 (by omega) a0 (by omega) (by decide) (by decide) (by decide) (by decide) (by decide) (by decide)⟩ ?_
          walk_at "go"
          refine k_I (by decide) ?_
          walk_at "go"
          refine k_I ⟨by decide, by decide⟩ ?_
          walk_at "go"
          refine k_I m0 ?_
          walk_at "go"
          refine q _ _ g2 ⟨c, ns, a + 1, z, rc, hR2, e1, hl, by omega, by omega, z0⟩ (Int.emod_nonneg _ (by omega)) (Int.emod_lt_of_pos _ m0)
end
end K02

namespace K02
open PySem PySem.Spec PyProof.Rows L2 Nd
abbrev s__law_riddle : Stmt := top 7
theorem sc__law_riddle : FnScope ["script", "cell"] ["script"] (defScope s__law_riddle) := ⟨rfl, rfl, rfl, by decide +kernel, rfl, by decide +kernel, by decide +kernel⟩
abbrev s__law_pick : Stmt := top 9
theorem sc__law_pick : FnScope ["riddle", "some"] ["riddle", "some"] (defScope s__law_pick) := ⟨rfl, rfl, rfl, by decide +kernel, rfl, by decide +kernel, by decide +kernel⟩
section
variable {P : Program} {w : World} {K : PySem.W.Frag} {mg : Str → Option Value} {base : Heap}
theorem ok_riddle {f : Addr} {fd : FuncData} (F : Fun K "_law_riddle" "_law_riddle" s__law_riddle f fd) (T : Txt mg) : FnG P w K mg base CX0 1 f fd ["script"] (spRiddle K) := by
  refine okG0 F sc__law_riddle (fun vs H Q E h => ?_) (fun cdv A outer s H vs Q E hG hr h => ?_)
  · obtain ⟨a, ns, rfl, _⟩ := h
    rfl
  · obtain ⟨a, ns, rfl, hS, hlen, q⟩ := h
    refine ⟨_, (pss_one (ps_ret (pe_lst (pa_cons (pe_lc (own := [("cell", 1)]) (g := gName 1) (tt := tYes) rfl sc__law_riddle.nd (pi_list (pe_slice sl_list (pv 0) po_none (po_some pe_int))) (blkOk_by (own := [("cell", 1)]) (N := ["script", "cell"]) (sc := defScope s__law_riddle) (by decide +kernel)) (fun _ _ _ _ _ => pg_name (i := 1) sc__law_riddle.nd rfl (Or.inl rfl)) (fun _ _ _ _ _ => pts_nil) (fun _ _ _ _ _ => (pe_callTy call_int1 (by rfl) T.m_int (by decide +kernel) (pa_cons (pv 1) pa_nil)))) (pa_cons pe_int (pa_cons pe_int pa_nil)))))), ?_⟩
    dsimp only [cxOf, Cx.nox, Cx.wish]
    walk_at "go"
    refine k_slL hS fun p hp => ?_
    have e1 : cutV (ns.map V.int) none (some 60) = (ns.take 60).map V.int := by
      unfold cutV
      rw [HT.sIx_none, show HT.sIx (ns.map V.int).length (ns.map V.int).length (some 60) = min 60 (ns.map V.int).length from HT.sIx_nat _ _ 60]
      simp [List.map_take]
    rw [e1]
    refine ⟨p, rfl, ⟨_, .inl (.inl upd_same)⟩, ?_⟩
    have hl : (ns.take 60).length ≤ 60 := by rw [List.length_take]; omega
    refine lcIn_L (fun _ => true) (fun i => ((ns.take 60).map V.int).getD i .non) (.inl (.inl upd_same)) (by rw [List.length_map]; omega) (fun x => rfl) (fun i x H2 hi s2 => ⟨fun QT k => k _ (Same.refl _), fun _ H3 s3 QE k => ?_⟩) (fun p' H' np s1 hp' => ?_)
    · obtain ⟨z, hz, rfl⟩ : ∃ z, (ns.take 60)[i]? = some z ∧ x = V.int z := by
        rw [List.getElem?_map] at hi
        cases h : (ns.take 60)[i]? with
        | none => rw [h] at hi; cases hi
        | some z => rw [h] at hi; exact ⟨z, rfl, (Option.some.inj hi).symm⟩
      walk_at "go"
      have := k H3 (Same.refl _)
      rw [List.getD_eq_getElem?_getD, hi] at this
      exact this
    · rw [given_all rfl fun i x hi => by rw [List.getD_eq_getElem?_getD, hi]; rfl] at hp'
      walk_at "go"
      refine ⟨by show 3 ≤ sizeLine; decide, fun r hr' => ?_⟩
      have ss : Same H (upd H' r (.lst [V.ref p', V.int 0, V.int 0])) := (Same.new hp).trans (s1.trans (Same.new hr'))
      have np' : p' ≠ r := fun e => by rw [e, hr'] at hp'; cases hp'
      walk_at "go"
      exact q _ _ ss ((Same.new hp).trans s1 |>.free hr') ⟨p', ns.take 60, 0, 0, np'.symm, upd_same, (upd_ne np').trans hp', hl, by omega, by omega, by omega⟩
theorem ok_pick {f : Addr} {fd : FuncData} (F : Fun K "_law_pick" "_law_pick" s__law_pick f fd) (T : Txt mg) (C__law_shake : Cal P w K mg base CX0 1 "_law_shake" spDraw) : FnG P w K mg base CX0 2 f fd ["riddle", "some"] spPick := by
  refine okG0 F sc__law_pick (fun vs H Q E h => ?_) (fun cdv A outer s H vs Q E hG hr h => ?_)
  · obtain ⟨r, l, n, xs, rfl, _⟩ := h
    rfl
  · obtain ⟨r, l, n, xs, rfl, R, hn, lr, hL, x0, x1, q⟩ := h
    refine ⟨_, (pss_one (ps_ret (pe_ix ix_list (pv 1) (pe_f C__law_shake hG (hr.mono (by decide)) (by rfl) pass0 (pa_cons (pv 0) (pa_cons (pe_callB (id := "len") call_len_seq (by rfl) T.m_len PySem.boot_len (pa_cons (pv 1) pa_nil)) pa_nil))) (fun _ _ => rfl)))), ?_⟩
    dsimp only [cxOf, Cx.nox, Cx.wish]
    walk_at "go"
    refine ⟨l, xs, rfl, .inl (.inl (.inl hL)), ?_⟩
    walk_at "go"
    refine ⟨r, n, _, rfl, R, hn, by omega, by omega, fun H' v g R' v0 v1 => ?_⟩
    obtain ⟨j, rfl⟩ := Int.eq_ofNat_of_zero_le v0
    have hj : j < xs.length := by omega
    have hx : xs[j]? = some xs[j] := by simp [hj]
    refine k_ixL (.inl (.inl (g _ _ lr hL))) (atI_nat hx) ?_
    walk_at "go"
    exact q _ _ g R' (List.getElem_mem hj)
end
end K02

namespace K02
open PySem PySem.Spec PyProof.Rows L2 Nd
abbrev s_is_integer : Stmt := top 2
theorem sc_is_integer : FnScope ["value"] ["value"] (defScope s_is_integer) := ⟨rfl, rfl, rfl, by decide +kernel, rfl, by decide +kernel, by decide +kernel⟩
abbrev s_is_within : Stmt := top 3
theorem sc_is_within : FnScope ["value", "least", "most"] ["value", "least", "most"] (defScope s_is_within) := ⟨rfl, rfl, rfl, by decide +kernel, rfl, by decide +kernel, by decide +kernel⟩
abbrev s_are_integers : Stmt := top 4
theorem sc_are_integers : FnScope ["value", "many", "item"] ["value", "many"] (defScope s_are_integers) := ⟨rfl, rfl, rfl, by decide +kernel, rfl, by decide +kernel, by decide +kernel⟩
abbrev s_is_fraction : Stmt := top 5
theorem sc_is_fraction : FnScope ["value", "up", "down"] ["value"] (defScope s_is_fraction) := ⟨rfl, rfl, rfl, by decide +kernel, rfl, by decide +kernel, by decide +kernel⟩
structure TxtC (mg : Str → Option Value) : Prop where
  m_int : mg "int" = none
  m_bool : mg "bool" = none
  m_len : mg "len" = none
  m_all : mg "all" = none
  m_list : mg "list" = none
  m_tuple : mg "tuple" = none
  m_isinstance : mg "isinstance" = none
  m_gcd : mg "gcd" = some (.builtin "math.gcd")
section
variable {P : Program} {w : World} {K : PySem.W.Frag} {mg : Str → Option Value} {base : Heap}
theorem ok_is_integer {f : Addr} {fd : FuncData} (F : Fun K "is_integer" "is_integer" s_is_integer f fd) (T : TxtC mg) : FnG P w K mg base CX0 1 f fd ["value"] spIsInt := by
  refine okG0 F sc_is_integer (fun vs H Q E h => ?_) (fun cdv A outer s H vs Q E hG hr h => ?_)
  · obtain ⟨r, v, d, rfl, _⟩ := h
    rfl
  · obtain ⟨r, v, d, rfl, hd, q⟩ := h
    refine ⟨_, (pss_one (ps_ret (pe_and (pe_callB (id := "isinstance") call_isi (by rfl) T.m_isinstance (by decide +kernel) (pa_cons (pv 0) (pa_cons (pe_bltn (v := .ty "int") (u := .type "int") (by rfl) T.m_int (by decide +kernel) rfl) pa_nil))) (pe_one (pe_not (pe_callB (id := "isinstance") call_isi (by rfl) T.m_isinstance (by decide +kernel) (pa_cons (pv 0) (pa_cons (pe_bltn (v := .ty "bool") (u := .type "bool") (by rfl) T.m_bool (by decide +kernel) rfl) pa_nil)))))))), ?_⟩
    try dsimp only [cxOf, Cx.nox, Cx.wish]
    walk_at "go"
    refine k_isi hd (by decide) ?_
    walk_at "go"
    have q' := q H (Same.refl _)
    rw [← isInt_eq d] at q'
    cases h1 : isD "int" d with
    | true =>
      rw [h1] at q'
      rw [if_pos rfl]
      walk_at "go"
      refine k_isi hd (by decide) ?_
      walk_at "go"
      simpa using q'
    | false =>
      rw [h1] at q'
      rw [if_neg (by decide)]
      walk_at "go"
      simpa using q'
theorem ok_is_within {f : Addr} {fd : FuncData} (F : Fun K "is_within" "is_within" s_is_within f fd) (C_is_integer : Cal P w K mg base CX0 1 "is_integer" spIsInt) : FnG P w K mg base CX0 2 f fd ["value", "least", "most"] spWithin := by
  refine okG0 F sc_is_within (fun vs H Q E h => ?_) (fun cdv A outer s H vs Q E hG hr h => ?_)
  · obtain ⟨r, v, d, l, m, rfl, _⟩ := h
    rfl
  · obtain ⟨r, v, d, l, m, rfl, hd, q⟩ := h
    refine ⟨_, (pss_cons (ps_if (pt_not (pt_val (pe_f C_is_integer hG (hr.mono (by decide)) (by rfl) pass0 (pa_cons (pv 0) pa_nil)))) (pss_one (ps_ret pe_bl)) pss_nil)
      (pss_cons (ps_if (PW.pt (pw_and (pt_cmpR op_notN (pv 1) pe_non (nomark _)) (pw_and1 (pt_cmpR op_lt (pv 0) (pv 1) (nomark _))))) (pss_one (ps_ret pe_bl)) pss_nil)
      (pss_one (ps_ret (pe_or (pe_cmpR op_isN (pv 2) pe_non (nomark _)) (pe_one (pe_cmpR op_le (pv 0) (pv 2) (nomark _)))))))), ?_⟩
    try dsimp only [cxOf, Cx.nox, Cx.wish]
    walk_at "go"
    refine ⟨r, v, d, rfl, hd, fun H' s1 => ?_⟩
    walk_at "go"
    have q' := q H' s1
    by_cases hi : ∃ i, d = .int i
    · obtain ⟨i, rfl⟩ := hi
      cases hd
      refine iteF ?_
      have last : (b : Bool) → (lowD i l && highD i m) = b → Q (.bl b) H' := fun b e => e ▸ q'
      cases l with
      | none =>
        dsimp only [optV]
        walk_at "go"
        refine iteF (iteF ?_)
        walk_at "go"
        cases m with
        | none =>
          refine iteT ?_
          walk_at "go"
          exact last _ rfl
        | some x =>
          refine iteF ?_
          dsimp only [optV]
          walk_at "go"
          exact last _ rfl
      | some y =>
        dsimp only [optV]
        walk_at "go"
        refine iteT ?_
        walk_at "go"
        refine ite2 (fun h => ?_) (fun h => ?_)
        · walk_at "go"
          exact last _ (by have := of_decide_eq_true h; simp [lowD]; omega)
        · have hy : lowD i (some y) = true := by
            simp only [lowD, decide_eq_true_eq] at h ⊢
            omega
          walk_at "go"
          cases m with
          | none =>
            refine iteT ?_
            walk_at "go"
            exact last _ (by rw [hy]; rfl)
          | some x =>
            refine iteF ?_
            dsimp only [optV]
            walk_at "go"
            exact last _ (by rw [hy]; rfl)
    · have e : ndInt d = false := by cases d <;> first | rfl | exact absurd ⟨_, rfl⟩ hi
      have e2 : withinD d l m = false := by cases d <;> first | rfl | exact absurd ⟨_, rfl⟩ hi
      rw [e]
      rw [e2] at q'
      refine iteT ?_
      walk_at "go"
      exact q'
theorem ok_are_integers {f : Addr} {fd : FuncData} (F : Fun K "are_integers" "are_integers" s_are_integers f fd) (T : TxtC mg) (C_is_integer : Cal P w K mg base CX0 1 "is_integer" spIsInt) : FnG P w K mg base CX0 2 f fd ["value", "many"] spAreInts := by
  refine okG0 F sc_are_integers (fun vs H Q E h => ?_) (fun cdv A outer s H vs Q E hG hr h => ?_)
  · obtain ⟨r, v, d, k, rfl, _⟩ := h
    rfl
  · obtain ⟨r, v, d, k, rfl, hd, hz, q⟩ := h
    by_cases hT : isD "tuple" d = true
    · obtain ⟨ds, rfl⟩ : ∃ ds, d = .tuple ds := by cases d <;> first | exact ⟨_, rfl⟩ | cases hT
      refine ⟨_, (pss_cons (ps_if (PW.pt (pw_or (pt_not (pt_val (pe_callB (id := "isinstance") call_isiT (by rfl) T.m_isinstance (by decide +kernel) (pa_cons (pv 0) (pa_cons (pe_tup (pa_cons (pe_bltn (v := .ty "list") (u := .type "list") (by rfl) T.m_list (by decide +kernel) rfl) (pa_cons (pe_bltn (v := .ty "tuple") (u := .type "tuple") (by rfl) T.m_tuple (by decide +kernel) rfl) pa_nil))) pa_nil))))) (pw_or1 (pt_cmpR op_ne (pe_callB (id := "len") call_len_seq (by rfl) T.m_len PySem.boot_len (pa_cons (pv 0) pa_nil)) (pv 1) (nomark _))))) (pss_one (ps_ret pe_bl)) pss_nil)
      (pss_one (ps_ret (pe_callB (id := "all") (cr_all rfl) (by rfl) T.m_all (by decide +kernel) (pa_cons (pe_lc (own := [("item", 2)]) (g := gName 2) (tt := tYes) rfl sc_are_integers.nd (pi_tup (pv 0)) (blkOk_by (own := [("item", 2)]) (N := ["value", "many", "item"]) (sc := defScope s_are_integers) (by decide +kernel)) (fun _ _ _ _ _ => pg_name (i := 2) sc_are_integers.nd rfl (Or.inl rfl)) (fun _ _ _ _ _ => pts_nil) (fun _ _ _ _ _ => (pe_f C_is_integer hG (hr.mono (by decide)) (by rfl) pass0 (pa_cons (pv 2) pa_nil)))) pa_nil))))), ?_⟩
      try dsimp only [cxOf, Cx.nox, Cx.wish]
      have hd0 := hd
      cases hd with
      | @tup a xs _ na ea ha =>
      have hlen := ha.length
      have hz' := hz ds rfl
      walk_at "go"
      refine ⟨by show 2 ≤ sizeLine; decide, fun p hp => ?_⟩
      have s1 : Same H (upd H p (.tup [.ty "list", .ty "tuple"])) := Same.new hp
      have e1 := s1 _ _ ea
      walk_at "go"
      refine k_isi2 (hd0.same s1) upd_same (by decide) (by decide) ?_
      walk_at "go"
      refine iteF ?_
      walk_at "go"
      refine ⟨a, xs, rfl, .inr (.inl (.inl e1)), ?_⟩
      walk_at "go"
      by_cases hk : (xs.length : Int) = k
      · subst hk
        rw [show (!decide (V.int (xs.length : Int) = V.int (xs.length : Int))) = false by simp]
        refine iteF ?_
        walk_at "go"
        refine ⟨⟨_, .inl (.inl e1)⟩, ?_⟩
        refine lcIn_T (fun _ => true) (fun i => .bl (ndInt (ds.getD i .none))) (.inl (.inl e1)) (by omega) (fun x => rfl) (fun i x H2 hi s2 => ⟨fun QT k => k _ (Same.refl _), fun _ H3 s3 QE k => ?_⟩) (fun p' H' np s3 hp' => ?_)
        · obtain ⟨d, hd, hx⟩ := ha.get hi
          walk_at "go"
          refine ⟨r, x, d, rfl, hx.same (s1.trans (s2.trans s3)), fun H4 s4 => ?_⟩
          walk_at "go"
          have := k H4 s4
          rw [List.getD_eq_getElem?_getD, hd] at this
          exact this
        · have e2 : given xs.length (fun _ => true) (fun i => V.bl (ndInt (ds.getD i .none))) = (ds.map ndInt).map V.bl := by
            refine given_all (by simp [hlen]) fun i x hi => ?_
            simp only [List.getElem?_map, Option.map_map] at hi
            obtain ⟨d, h1, h2⟩ := Option.map_eq_some_iff.mp hi
            rw [List.getD_eq_getElem?_getD, h1]
            exact h2
          rw [e2] at hp'
          walk_at "go"
          refine ⟨p', ds.map ndInt, rfl, .inl (.inl hp'), ?_⟩
          walk_at "go"
          have q' := q H' (s1.trans s3)
          simpa [areIntsD, itemsD, hlen, List.all_map] using q'
      · rw [show (!decide (V.int (xs.length : Int) = V.int k)) = true by simp [hk]]
        refine iteT ?_
        walk_at "go"
        have q' := q _ s1
        simpa [areIntsD, itemsD, ← hlen, hk] using q'
    by_cases hL : isD "list" d = true
    · obtain ⟨ds, rfl⟩ : ∃ ds, d = .list ds := by cases d <;> first | exact ⟨_, rfl⟩ | cases hL
      refine ⟨_, (pss_cons (ps_if (PW.pt (pw_or (pt_not (pt_val (pe_callB (id := "isinstance") call_isiT (by rfl) T.m_isinstance (by decide +kernel) (pa_cons (pv 0) (pa_cons (pe_tup (pa_cons (pe_bltn (v := .ty "list") (u := .type "list") (by rfl) T.m_list (by decide +kernel) rfl) (pa_cons (pe_bltn (v := .ty "tuple") (u := .type "tuple") (by rfl) T.m_tuple (by decide +kernel) rfl) pa_nil))) pa_nil))))) (pw_or1 (pt_cmpR op_ne (pe_callB (id := "len") call_len_seq (by rfl) T.m_len PySem.boot_len (pa_cons (pv 0) pa_nil)) (pv 1) (nomark _))))) (pss_one (ps_ret pe_bl)) pss_nil)
      (pss_one (ps_ret (pe_callB (id := "all") (cr_all rfl) (by rfl) T.m_all (by decide +kernel) (pa_cons (pe_lc (own := [("item", 2)]) (g := gName 2) (tt := tYes) rfl sc_are_integers.nd (pi_list (pv 0)) (blkOk_by (own := [("item", 2)]) (N := ["value", "many", "item"]) (sc := defScope s_are_integers) (by decide +kernel)) (fun _ _ _ _ _ => pg_name (i := 2) sc_are_integers.nd rfl (Or.inl rfl)) (fun _ _ _ _ _ => pts_nil) (fun _ _ _ _ _ => (pe_f C_is_integer hG (hr.mono (by decide)) (by rfl) pass0 (pa_cons (pv 2) pa_nil)))) pa_nil))))), ?_⟩
      try dsimp only [cxOf, Cx.nox, Cx.wish]
      have hd0 := hd
      cases hd with
      | @lst a xs _ na ea ha =>
      have hlen := ha.length
      have hz' := hz ds rfl
      walk_at "go"
      refine ⟨by show 2 ≤ sizeLine; decide, fun p hp => ?_⟩
      have s1 : Same H (upd H p (.tup [.ty "list", .ty "tuple"])) := Same.new hp
      have e1 := s1 _ _ ea
      walk_at "go"
      refine k_isi2 (hd0.same s1) upd_same (by decide) (by decide) ?_
      walk_at "go"
      refine iteF ?_
      walk_at "go"
      refine ⟨a, xs, rfl, .inl (.inl (.inl e1)), ?_⟩
      walk_at "go"
      by_cases hk : (xs.length : Int) = k
      · subst hk
        rw [show (!decide (V.int (xs.length : Int) = V.int (xs.length : Int))) = false by simp]
        refine iteF ?_
        walk_at "go"
        refine ⟨⟨_, .inl (.inl e1)⟩, ?_⟩
        refine lcIn_L (fun _ => true) (fun i => .bl (ndInt (ds.getD i .none))) (.inl (.inl e1)) (by omega) (fun x => rfl) (fun i x H2 hi s2 => ⟨fun QT k => k _ (Same.refl _), fun _ H3 s3 QE k => ?_⟩) (fun p' H' np s3 hp' => ?_)
        · obtain ⟨d, hd, hx⟩ := ha.get hi
          walk_at "go"
          refine ⟨r, x, d, rfl, hx.same (s1.trans (s2.trans s3)), fun H4 s4 => ?_⟩
          walk_at "go"
          have := k H4 s4
          rw [List.getD_eq_getElem?_getD, hd] at this
          exact this
        · have e2 : given xs.length (fun _ => true) (fun i => V.bl (ndInt (ds.getD i .none))) = (ds.map ndInt).map V.bl := by
            refine given_all (by simp [hlen]) fun i x hi => ?_
            simp only [List.getElem?_map, Option.map_map] at hi
            obtain ⟨d, h1, h2⟩ := Option.map_eq_some_iff.mp hi
            rw [List.getD_eq_getElem?_getD, h1]
            exact h2
          rw [e2] at hp'
          walk_at "go"
          refine ⟨p', ds.map ndInt, rfl, .inl (.inl hp'), ?_⟩
          walk_at "go"
          have q' := q H' (s1.trans s3)
          simpa [areIntsD, itemsD, hlen, List.all_map] using q'
      · rw [show (!decide (V.int (xs.length : Int) = V.int k)) = true by simp [hk]]
        refine iteT ?_
        walk_at "go"
        have q' := q _ s1
        simpa [areIntsD, itemsD, ← hlen, hk] using q'
    · refine ⟨_, (pss_cons (ps_if (PW.pt (pw_or (pt_not (pt_val (pe_callB (id := "isinstance") call_isiT (by rfl) T.m_isinstance (by decide +kernel) (pa_cons (pv 0) (pa_cons (pe_tup (pa_cons (pe_bltn (v := .ty "list") (u := .type "list") (by rfl) T.m_list (by decide +kernel) rfl) (pa_cons (pe_bltn (v := .ty "tuple") (u := .type "tuple") (by rfl) T.m_tuple (by decide +kernel) rfl) pa_nil))) pa_nil))))) (pw_or1 (pt_cmpR op_ne (pe_callB (id := "len") call_len_seq (by rfl) T.m_len PySem.boot_len (pa_cons (pv 0) pa_nil)) (pv 1) (nomark _))))) (pss_one (ps_ret pe_bl)) pss_nil)
      (pss_one (ps_ret (pe_callB (id := "all") (cr_all rfl) (by rfl) T.m_all (by decide +kernel) (pa_cons (pe_lc (own := [("item", 2)]) (g := gName 2) (tt := tYes) rfl sc_are_integers.nd (pi_list (pv 0)) (blkOk_by (own := [("item", 2)]) (N := ["value", "many", "item"]) (sc := defScope s_are_integers) (by decide +kernel)) (fun _ _ _ _ _ => pg_name (i := 2) sc_are_integers.nd rfl (Or.inl rfl)) (fun _ _ _ _ _ => pts_nil) (fun _ _ _ _ _ => (pe_f C_is_integer hG (hr.mono (by decide)) (by rfl) pass0 (pa_cons (pv 2) pa_nil)))) pa_nil))))), ?_⟩
      try dsimp only [cxOf, Cx.nox, Cx.wish]
      walk_at "go"
      refine ⟨by show 2 ≤ sizeLine; decide, fun p hp => ?_⟩
      have s1 : Same H (upd H p (.tup [.ty "list", .ty "tuple"])) := Same.new hp
      walk_at "go"
      refine k_isi2 (hd.same s1) upd_same (by decide) (by decide) ?_
      walk_at "go"
      rw [show (isD "list" d || isD "tuple" d) = false by simp [hL, hT]]
      refine iteT ?_
      refine iteT ?_
      walk_at "go"
      have q' := q _ s1
      have e : areIntsD d k = false := by cases d <;> first | rfl | exact absurd rfl hL | exact absurd rfl hT
      rw [e] at q'
      exact q'
theorem ok_is_fraction {f : Addr} {fd : FuncData} (F : Fun K "is_fraction" "is_fraction" s_is_fraction f fd) (T : TxtC mg) (C_are_integers : Cal P w K mg base CX0 2 "are_integers" spAreInts) : FnG P w K mg base CX0 3 f fd ["value"] spFrac := by
  refine okG0 F sc_is_fraction (fun vs H Q E h => ?_) (fun cdv A outer s H vs Q E hG hr h => ?_)
  · obtain ⟨r, v, d, rfl, _⟩ := h
    rfl
  · obtain ⟨r, v, d, rfl, hd, hz, q⟩ := h
    by_cases hT : isD "tuple" d = true
    · obtain ⟨ds, rfl⟩ : ∃ ds, d = .tuple ds := by cases d <;> first | exact ⟨_, rfl⟩ | cases hT
      refine ⟨_, (pss_cons (ps_if (pt_not (pt_val (pe_f C_are_integers hG (hr.mono (by decide)) (by rfl) pass0 (pa_cons (pv 0) (pa_cons pe_int pa_nil))))) (pss_one (ps_ret pe_bl)) pss_nil)
      (pss_cons (ps_asg (pv 0) (pg_tup (by rfl) (pgs_cons (pg_name (i := 1) sc_is_fraction.nd rfl (.inl rfl)) (pgs_cons (pg_name (i := 2) sc_is_fraction.nd rfl (.inl rfl)) pgs_nil))))
      (pss_one (ps_ret (pe_and (pe_cmpR op_gt (pv 2) pe_int (nomark _)) (pe_one (pe_cmpR op_eq (pe_callBfun cr_gcd (by rfl) T.m_gcd (pa_cons (pv 1) (pa_cons (pv 2) pa_nil))) pe_int (nomark _)))))))), ?_⟩
      try dsimp only [cxOf, Cx.nox, Cx.wish]
      walk_at "go"
      refine ⟨r, v, _, 2, rfl, hd, hz, fun H1 s1 => ?_⟩
      have q' := q H1 s1
      cases hk : areIntsD (.tuple ds) 2 with
      | false =>
        walk_at "go"
        rw [fracD_no hk] at q'
        refine iteT ?_
        walk_at "go"
        exact q'
      | true =>
        obtain ⟨u, z, hds⟩ := two_ints hk
        cases (show ds = [.int u, .int z] from Option.some.inj hds)
        walk_at "go"
        refine iteF ?_
        cases hd with
        | @tup a xs _ na ea ha =>
        cases ha with
        | cons h1 h2 =>
        cases h2 with
        | cons h2 h3 =>
        cases h1
        cases h2
        cases h3
        walk_at "go"
        refine k_gtup (.inl (.inl (s1 _ _ ea))) rfl ?_
        walk_at "go"
        have e : fracD (.tuple [.int u, .int z]) = (decide (0 < z) && decide (Nat.gcd u.natAbs z.natAbs = 1)) := rfl
        rw [e] at q'
        by_cases hz0 : (0 : Int) < z
        · rw [decide_eq_true hz0] at q' ⊢
          refine iteT ?_
          walk_at "go"
          simpa [V.int.injEq, gcd_one] using q'
        · rw [decide_eq_false hz0] at q' ⊢
          refine iteF ?_
          walk_at "go"
          exact q'
    by_cases hL : isD "list" d = true
    · obtain ⟨ds, rfl⟩ : ∃ ds, d = .list ds := by cases d <;> first | exact ⟨_, rfl⟩ | cases hL
      refine ⟨_, (pss_cons (ps_if (pt_not (pt_val (pe_f C_are_integers hG (hr.mono (by decide)) (by rfl) pass0 (pa_cons (pv 0) (pa_cons pe_int pa_nil))))) (pss_one (ps_ret pe_bl)) pss_nil)
      (pss_cons (ps_asg (pv 0) (pg_unl (by rfl) (pgs_cons (pg_name (i := 1) sc_is_fraction.nd rfl (.inl rfl)) (pgs_cons (pg_name (i := 2) sc_is_fraction.nd rfl (.inl rfl)) pgs_nil))))
      (pss_one (ps_ret (pe_and (pe_cmpR op_gt (pv 2) pe_int (nomark _)) (pe_one (pe_cmpR op_eq (pe_callBfun cr_gcd (by rfl) T.m_gcd (pa_cons (pv 1) (pa_cons (pv 2) pa_nil))) pe_int (nomark _)))))))), ?_⟩
      try dsimp only [cxOf, Cx.nox, Cx.wish]
      walk_at "go"
      refine ⟨r, v, _, 2, rfl, hd, hz, fun H1 s1 => ?_⟩
      have q' := q H1 s1
      cases hk : areIntsD (.list ds) 2 with
      | false =>
        walk_at "go"
        rw [fracD_no hk] at q'
        refine iteT ?_
        walk_at "go"
        exact q'
      | true =>
        obtain ⟨u, z, hds⟩ := two_ints hk
        cases (show ds = [.int u, .int z] from Option.some.inj hds)
        walk_at "go"
        refine iteF ?_
        cases hd with
        | @lst a xs _ na ea ha =>
        cases ha with
        | cons h1 h2 =>
        cases h2 with
        | cons h2 h3 =>
        cases h1
        cases h2
        cases h3
        walk_at "go"
        refine k_gunl (.inl (.inl (s1 _ _ ea))) rfl ?_
        walk_at "go"
        have e : fracD (.list [.int u, .int z]) = (decide (0 < z) && decide (Nat.gcd u.natAbs z.natAbs = 1)) := rfl
        rw [e] at q'
        by_cases hz0 : (0 : Int) < z
        · rw [decide_eq_true hz0] at q' ⊢
          refine iteT ?_
          walk_at "go"
          simpa [V.int.injEq, gcd_one] using q'
        · rw [decide_eq_false hz0] at q' ⊢
          refine iteF ?_
          walk_at "go"
          exact q'
    · refine ⟨_, (pss_cons (ps_if (pt_not (pt_val (pe_f C_are_integers hG (hr.mono (by decide)) (by rfl) pass0 (pa_cons (pv 0) (pa_cons pe_int pa_nil))))) (pss_one (ps_ret pe_bl)) pss_nil)
      (pss_cons (ps_asg (pv 0) (pg_tup (by rfl) (pgs_cons (pg_name (i := 1) sc_is_fraction.nd rfl (.inl rfl)) (pgs_cons (pg_name (i := 2) sc_is_fraction.nd rfl (.inl rfl)) pgs_nil))))
      (pss_one (ps_ret (pe_and (pe_cmpR op_gt (pv 2) pe_int (nomark _)) (pe_one (pe_cmpR op_eq (pe_callBfun cr_gcd (by rfl) T.m_gcd (pa_cons (pv 1) (pa_cons (pv 2) pa_nil))) pe_int (nomark _)))))))), ?_⟩
      try dsimp only [cxOf, Cx.nox, Cx.wish]
      walk_at "go"
      refine ⟨r, v, d, 2, rfl, hd, hz, fun H1 s1 => ?_⟩
      have q' := q H1 s1
      have e : itemsD d = none := by cases d <;> first | rfl | exact absurd rfl hL | exact absurd rfl hT
      rw [show areIntsD d 2 = false by simp [areIntsD, e]]
      rw [show fracD d = false by simp [fracD, e]] at q'
      walk_at "go"
      exact q'
end
end K02

namespace K02
open PySem PySem.Spec PyProof.Rows L2 Nd
abbrev s__law_whole : Stmt := top 12
theorem sc__law_whole : FnScope ["value"] ["value"] (defScope s__law_whole) := ⟨rfl, rfl, rfl, by decide +kernel, rfl, by decide +kernel, by decide +kernel⟩
abbrev s__law_divisor : Stmt := top 13
theorem sc__law_divisor : FnScope ["one", "other"] ["one", "other"] (defScope s__law_divisor) := ⟨rfl, rfl, rfl, by decide +kernel, rfl, by decide +kernel, by decide +kernel⟩
abbrev s__law_row : Stmt := top 14
theorem sc__law_row : FnScope ["value", "many", "each"] ["value", "many"] (defScope s__law_row) := ⟨rfl, rfl, rfl, by decide +kernel, rfl, by decide +kernel, by decide +kernel⟩
structure TxtD (mg : Str → Option Value) : Prop extends TxtC mg where
  m_abs : mg "abs" = none
section
variable {P : Program} {w : World} {K : PySem.W.Frag} {mg : Str → Option Value} {base : Heap}
theorem ok_whole {f : Addr} {fd : FuncData} (F : Fun K "_law_whole" "_law_whole" s__law_whole f fd) (T : TxtD mg) : FnG P w K mg base CX0 1 f fd ["value"] spIsInt := by
  refine okG0 F sc__law_whole (fun vs H Q E h => ?_) (fun cdv A outer s H vs Q E hG hr h => ?_)
  · obtain ⟨r, v, d, rfl, _⟩ := h
    rfl
  · obtain ⟨r, v, d, rfl, hd, q⟩ := h
    refine ⟨_, (pss_one (ps_ret (pe_and (pe_callB (id := "isinstance") call_isi (by rfl) T.m_isinstance (by decide +kernel) (pa_cons (pv 0) (pa_cons (pe_bltn (v := .ty "int") (u := .type "int") (by rfl) T.m_int (by decide +kernel) rfl) pa_nil))) (pe_and (pe_cmpR op_notBl2 (pv 0) pe_bl (nomark _)) (pe_one (pe_cmpR op_notBl2 (pv 0) pe_bl (nomark _))))))), ?_⟩
    try dsimp only [cxOf, Cx.nox, Cx.wish]
    walk_at "go"
    refine k_isi hd (by decide) ?_
    walk_at "go"
    have q' := q H (Same.refl _)
    cases hd with
    | int i =>
      refine iteT ?_
      walk_at "go"
      refine ⟨_, rfl, .inl ⟨_, rfl, ?_⟩⟩
      walk_at "go"
      refine iteT ?_
      walk_at "go"
      refine ⟨_, rfl, .inl ⟨_, rfl, ?_⟩⟩
      walk_at "go"
      exact q'
    | bl b =>
      refine iteT ?_
      walk_at "go"
      refine ⟨_, rfl, .inr ⟨_, rfl, ?_⟩⟩
      walk_at "go"
      cases b with
      | true =>
        refine iteF ?_
        walk_at "go"
        exact q'
      | false =>
        refine iteT ?_
        walk_at "go"
        refine ⟨_, rfl, .inr ⟨_, rfl, ?_⟩⟩
        walk_at "go"
        exact q'
    | non => exact iteF q'
    | str _ => exact iteF q'
    | lst _ _ _ => exact iteF q'
    | tup _ _ _ => exact iteF q'
    | dct _ _ _ => exact iteF q'
theorem ok_divisor {f : Addr} {fd : FuncData} (F : Fun K "_law_divisor" "_law_divisor" s__law_divisor f fd) (T : TxtD mg) : FnG P w K mg base CX0 1 f fd ["one", "other"] spDiv := by
  refine okG0 F sc__law_divisor (fun vs H Q E h => ?_) (fun cdv A outer s H vs Q E hG hr h => ?_)
  · obtain ⟨a, b, rfl, _⟩ := h
    rfl
  · obtain ⟨a, b, rfl, q⟩ := h
    refine ⟨_, (pss_cons (ps_par (i := 0) (j := 1) (by rfl) sc__law_divisor.nd rfl rfl (by decide) rfl rfl (pa_cons (pe_callB (id := "abs") call_abs (by rfl) T.m_abs (by decide +kernel) (pa_cons (pv 0) pa_nil)) (pa_cons (pe_callB (id := "abs") call_abs (by rfl) T.m_abs (by decide +kernel) (pa_cons (pv 1) pa_nil)) pa_nil)) (by rfl))
      (pss_cons (ps_while PassesOwn.never (pt_cmpR op_gt (pv 1) pe_int (nomark _)) (pss_one (ps_par (i := 0) (j := 1) (by rfl) sc__law_divisor.nd rfl rfl (by decide) rfl rfl (pa_cons (pv 1) (pa_cons (pe_op op_mod (pe_callTy call_int1 (by rfl) T.m_int (by decide +kernel) (pa_cons (pv 0) pa_nil)) (pv 1)) pa_nil)) (by rfl))))
      (pss_one (ps_ret (pv 0))))), ?_⟩
    try dsimp only [cxOf, Cx.nox, Cx.wish]
    walk_at "go"
    have ab : ∀ x : Int, (if x < 0 then -x else x) = (x.natAbs : Int) := fun x => by omega
    rw [ab, ab]
    refine k_while (fun m σ H' => ∃ x y : Nat, σ = [some (.int x), some (.int y)] ∧ y = m ∧ Same H H' ∧ Nat.gcd x y = Nat.gcd a.natAbs b.natAbs) b.natAbs
      ⟨a.natAbs, b.natAbs, rfl, rfl, Same.refl _, rfl⟩ (fun m σ H' hW => ?_)
    obtain ⟨x, y, rfl, rfl, s1, e⟩ := hW
    walk_at "go"
    refine ite2 (fun h => ?_) (fun h => ?_)
    · have h' : (0 : Int) < (y : Int) := of_decide_eq_true h
      refine ⟨fun σ' H' => ∃ m', m' < y ∧ ∃ x y : Nat, σ' = [some (.int x), some (.int y)] ∧ y = m' ∧ Same H H' ∧ Nat.gcd x y = Nat.gcd a.natAbs b.natAbs, fun _ _ z => z, ?_⟩
      walk_at "go"
      refine k_I h' ?_
      walk_at "go"
      refine ⟨x % y, Nat.mod_lt _ (by omega), y, x % y, ?_, rfl, s1, by rw [gcd_turn]; exact e⟩
      rw [← Int.natCast_emod]
      rfl
    · have h' : y = 0 := by
        have : ¬ (0 : Int) < (y : Int) := fun z => h (decide_eq_true z)
        omega
      subst h'
      walk_at "go"
      rw [Nat.gcd_zero_right] at e
      rw [e]
      exact q _ s1
theorem ok_row {f : Addr} {fd : FuncData} (F : Fun K "_law_row" "_law_row" s__law_row f fd) (T : TxtD mg) (C__law_whole : Cal P w K mg base CX0 1 "_law_whole" spIsInt) : FnG P w K mg base CX0 2 f fd ["value", "many"] spAreInts := by
  refine okG0 F sc__law_row (fun vs H Q E h => ?_) (fun cdv A outer s H vs Q E hG hr h => ?_)
  · obtain ⟨r, v, d, k, rfl, _⟩ := h
    rfl
  · obtain ⟨r, v, d, k, rfl, hd, hz, q⟩ := h
    by_cases hT : isD "tuple" d = true
    · obtain ⟨ds, rfl⟩ : ∃ ds, d = .tuple ds := by cases d <;> first | exact ⟨_, rfl⟩ | cases hT
      refine ⟨_, (pss_cons (ps_if (PW.pt (pw_or (pt_not (pt_val (pe_callB (id := "isinstance") call_isiT (by rfl) T.m_isinstance (by decide +kernel) (pa_cons (pv 0) (pa_cons (pe_tup (pa_cons (pe_bltn (v := .ty "list") (u := .type "list") (by rfl) T.m_list (by decide +kernel) rfl) (pa_cons (pe_bltn (v := .ty "tuple") (u := .type "tuple") (by rfl) T.m_tuple (by decide +kernel) rfl) pa_nil))) pa_nil))))) (pw_or1 (pt_cmpR op_ne (pe_callB (id := "len") call_len_seq (by rfl) T.m_len PySem.boot_len (pa_cons (pv 0) pa_nil)) (pv 1) (nomark _))))) (pss_one (ps_ret pe_bl)) pss_nil)
      (pss_one (ps_ret (pe_cmpR (op_eqNil hr.units) (pe_lc (own := [("each", 2)]) (g := gName 2) rfl sc__law_row.nd (pi_tup (pv 0)) (blkOk_by (own := [("each", 2)]) (N := ["value", "many", "each"]) (sc := defScope s__law_row) (by decide +kernel)) (fun _ _ _ _ _ => pg_name (i := 2) sc__law_row.nd rfl (Or.inl rfl)) (fun _ _ _ _ _ => pts_one (pt_not (pt_val (pe_f C__law_whole hG (hr.mono (by decide)) (by rfl) pass0 (pa_cons (pv 2) pa_nil))))) (fun _ _ _ _ _ => (pv 2))) (pe_lst pa_nil) (nomark _))))), ?_⟩
      try dsimp only [cxOf, Cx.nox, Cx.wish]
      have hd0 := hd
      cases hd with
      | @tup a xs _ na ea ha =>
      have hlen := ha.length
      have hz' := hz ds rfl
      walk_at "go"
      refine ⟨by show 2 ≤ sizeLine; decide, fun p hp => ?_⟩
      have s1 : Same H (upd H p (.tup [.ty "list", .ty "tuple"])) := Same.new hp
      have e1 := s1 _ _ ea
      walk_at "go"
      refine k_isi2 (hd0.same s1) upd_same (by decide) (by decide) ?_
      walk_at "go"
      refine iteF ?_
      walk_at "go"
      refine ⟨a, xs, rfl, .inr (.inl (.inl e1)), ?_⟩
      walk_at "go"
      by_cases hk : (xs.length : Int) = k
      · subst hk
        rw [show (!decide (V.int (xs.length : Int) = V.int (xs.length : Int))) = false by simp]
        refine iteF ?_
        walk_at "go"
        refine ⟨⟨_, .inl (.inl e1)⟩, ?_⟩
        refine lcIn_T (fun i => !ndInt (ds.getD i .none)) (fun i => xs.getD i .non) (.inl (.inl e1)) (by omega) (fun x => rfl) (fun i x H2 hi s2 => ⟨fun QT k => ?_, fun _ H3 s3 QE k => ?_⟩) (fun p' H' np s3 hp' => ?_)
        · obtain ⟨d, hd, hx⟩ := ha.get hi
          walk_at "go"
          refine ⟨r, x, d, rfl, hx.same (s1.trans s2), fun H4 s4 => ?_⟩
          walk_at "go"
          have := k H4 s4
          rw [List.getD_eq_getElem?_getD, hd] at this
          exact this
        · walk_at "go"
          have := k H3 (Same.refl _)
          rw [List.getD_eq_getElem?_getD, hi] at this
          exact this
        · walk_at "go"
          refine ⟨small64 (by simp), fun p2 hp2 => ?_⟩
          generalize hU : upd _ p2 _ = H2
          obtain ⟨s4, e2⟩ := upd_facts hU hp2
          clear hU
          refine k_eqNil (.inl (.inl (s4 _ _ hp'))) (.inl (.inl e2)) ?_
          walk_at "go"
          rw [given_none, hlen]
          have q' := q H2 (s1.trans (s3.trans s4))
          simp only [Bool.not_not]
          rw [all_range_ds]
          simpa [areIntsD, itemsD, hlen] using q'
      · rw [show (!decide (V.int (xs.length : Int) = V.int k)) = true by simp [hk]]
        refine iteT ?_
        walk_at "go"
        have q' := q _ s1
        simpa [areIntsD, itemsD, ← hlen, hk] using q'
    by_cases hL : isD "list" d = true
    · obtain ⟨ds, rfl⟩ : ∃ ds, d = .list ds := by cases d <;> first | exact ⟨_, rfl⟩ | cases hL
      refine ⟨_, (pss_cons (ps_if (PW.pt (pw_or (pt_not (pt_val (pe_callB (id := "isinstance") call_isiT (by rfl) T.m_isinstance (by decide +kernel) (pa_cons (pv 0) (pa_cons (pe_tup (pa_cons (pe_bltn (v := .ty "list") (u := .type "list") (by rfl) T.m_list (by decide +kernel) rfl) (pa_cons (pe_bltn (v := .ty "tuple") (u := .type "tuple") (by rfl) T.m_tuple (by decide +kernel) rfl) pa_nil))) pa_nil))))) (pw_or1 (pt_cmpR op_ne (pe_callB (id := "len") call_len_seq (by rfl) T.m_len PySem.boot_len (pa_cons (pv 0) pa_nil)) (pv 1) (nomark _))))) (pss_one (ps_ret pe_bl)) pss_nil)
      (pss_one (ps_ret (pe_cmpR (op_eqNil hr.units) (pe_lc (own := [("each", 2)]) (g := gName 2) rfl sc__law_row.nd (pi_list (pv 0)) (blkOk_by (own := [("each", 2)]) (N := ["value", "many", "each"]) (sc := defScope s__law_row) (by decide +kernel)) (fun _ _ _ _ _ => pg_name (i := 2) sc__law_row.nd rfl (Or.inl rfl)) (fun _ _ _ _ _ => pts_one (pt_not (pt_val (pe_f C__law_whole hG (hr.mono (by decide)) (by rfl) pass0 (pa_cons (pv 2) pa_nil))))) (fun _ _ _ _ _ => (pv 2))) (pe_lst pa_nil) (nomark _))))), ?_⟩
      try dsimp only [cxOf, Cx.nox, Cx.wish]
      have hd0 := hd
      cases hd with
      | @lst a xs _ na ea ha =>
      have hlen := ha.length
      have hz' := hz ds rfl
      walk_at "go"
      refine ⟨by show 2 ≤ sizeLine; decide, fun p hp => ?_⟩
      have s1 : Same H (upd H p (.tup [.ty "list", .ty "tuple"])) := Same.new hp
      have e1 := s1 _ _ ea
      walk_at "go"
      refine k_isi2 (hd0.same s1) upd_same (by decide) (by decide) ?_
      walk_at "go"
      refine iteF ?_
      walk_at "go"
      refine ⟨a, xs, rfl, .inl (.inl (.inl e1)), ?_⟩
      walk_at "go"
      by_cases hk : (xs.length : Int) = k
      · subst hk
        rw [show (!decide (V.int (xs.length : Int) = V.int (xs.length : Int))) = false by simp]
        refine iteF ?_
        walk_at "go"
        refine ⟨⟨_, .inl (.inl e1)⟩, ?_⟩
        refine lcIn_L (fun i => !ndInt (ds.getD i .none)) (fun i => xs.getD i .non) (.inl (.inl e1)) (by omega) (fun x => rfl) (fun i x H2 hi s2 => ⟨fun QT k => ?_, fun _ H3 s3 QE k => ?_⟩) (fun p' H' np s3 hp' => ?_)
        · obtain ⟨d, hd, hx⟩ := ha.get hi
          walk_at "go"
          refine ⟨r, x, d, rfl, hx.same (s1.trans s2), fun H4 s4 => ?_⟩
          walk_at "go"
          have := k H4 s4
          rw [List.getD_eq_getElem?_getD, hd] at this
          exact this
        · walk_at "go"
          have := k H3 (Same.refl _)
          rw [List.getD_eq_getElem?_getD, hi] at this
          exact this
        · walk_at "go"
          refine ⟨small64 (by simp), fun p2 hp2 => ?_⟩
          generalize hU : upd _ p2 _ = H2
          obtain ⟨s4, e2⟩ := upd_facts hU hp2
          clear hU
          refine k_eqNil (.inl (.inl (s4 _ _ hp'))) (.inl (.inl e2)) ?_
          walk_at "go"
          rw [given_none, hlen]
          have q' := q H2 (s1.trans (s3.trans s4))
          simp only [Bool.not_not]
          rw [all_range_ds]
          simpa [areIntsD, itemsD, hlen] using q'
      · rw [show (!decide (V.int (xs.length : Int) = V.int k)) = true by simp [hk]]
        refine iteT ?_
        walk_at "go"
        have q' := q _ s1
        simpa [areIntsD, itemsD, ← hlen, hk] using q'
    · refine ⟨_, (pss_cons (ps_if (PW.pt (pw_or (pt_not (pt_val (pe_callB (id := "isinstance") call_isiT (by rfl) T.m_isinstance (by decide +kernel) (pa_cons (pv 0) (pa_cons (pe_tup (pa_cons (pe_bltn (v := .ty "list") (u := .type "list") (by rfl) T.m_list (by decide +kernel) rfl) (pa_cons (pe_bltn (v := .ty "tuple") (u := .type "tuple") (by rfl) T.m_tuple (by decide +kernel) rfl) pa_nil))) pa_nil))))) (pw_or1 (pt_cmpR op_ne (pe_callB (id := "len") call_len_seq (by rfl) T.m_len PySem.boot_len (pa_cons (pv 0) pa_nil)) (pv 1) (nomark _))))) (pss_one (ps_ret pe_bl)) pss_nil)
      (pss_one (ps_ret (pe_cmpR (op_eqNil hr.units) (pe_lc (own := [("each", 2)]) (g := gName 2) rfl sc__law_row.nd (pi_list (pv 0)) (blkOk_by (own := [("each", 2)]) (N := ["value", "many", "each"]) (sc := defScope s__law_row) (by decide +kernel)) (fun _ _ _ _ _ => pg_name (i := 2) sc__law_row.nd rfl (Or.inl rfl)) (fun _ _ _ _ _ => pts_one (pt_not (pt_val (pe_f C__law_whole hG (hr.mono (by decide)) (by rfl) pass0 (pa_cons (pv 2) pa_nil))))) (fun _ _ _ _ _ => (pv 2))) (pe_lst pa_nil) (nomark _))))), ?_⟩
      try dsimp only [cxOf, Cx.nox, Cx.wish]
      walk_at "go"
      refine ⟨by show 2 ≤ sizeLine; decide, fun p hp => ?_⟩
      have s1 : Same H (upd H p (.tup [.ty "list", .ty "tuple"])) := Same.new hp
      walk_at "go"
      refine k_isi2 (hd.same s1) upd_same (by decide) (by decide) ?_
      walk_at "go"
      rw [show (isD "list" d || isD "tuple" d) = false by simp [hL, hT]]
      refine iteT ?_
      refine iteT ?_
      walk_at "go"
      have q' := q _ s1
      have e : areIntsD d k = false := by cases d <;> first | rfl | exact absurd rfl hL | exact absurd rfl hT
      rw [e] at q'
      exact q'
end
end K02

namespace K02
open PySem PySem.Spec PyProof.Rows L2 Nd
abbrev s__law_small : Stmt := top 10
theorem sc__law_small : FnScope ["riddle"] ["riddle"] (defScope s__law_small) := ⟨rfl, rfl, rfl, by decide +kernel, rfl, by decide +kernel, by decide +kernel⟩
abbrev s__law_any : Stmt := top 11
theorem sc__law_any : FnScope ["riddle", "one", "other", "by", "some"] ["riddle"] (defScope s__law_any) := ⟨rfl, rfl, rfl, by decide +kernel, rfl, by decide +kernel, by decide +kernel⟩
structure TxtE (mg : Str → Option Value) : Prop extends TxtD mg where
  m_str : mg "str" = none
def Good (d : PyData) : Prop := (∀ xs, itemsD d = some xs → xs.length ≤ 10) 
section
variable {P : Program} {w : World} {K : PySem.W.Frag} {mg : Str → Option Value} {base : Heap}
theorem ok_small {f : Addr} {fd : FuncData} (F : Fun K "_law_small" "_law_small" s__law_small f fd) (T : TxtD mg) (C__law_shake : Cal P w K mg base CX0 1 "_law_shake" spDraw) (C__law_pick : Cal P w K mg base CX0 2 "_law_pick" spPick) :
    FnG P w K mg base CX0 3 f fd ["riddle"] (spNum 3 (2 * 10 ^ 30)) := by
  refine okG0 F sc__law_small (fun vs H Q E h => ?_) (fun cdv A outer s H vs Q E hG hr h => ?_)
  · obtain ⟨r, n, rfl, _⟩ := h
    rfl
  · obtain ⟨r, n, rfl, R, hn, q⟩ := h
    refine ⟨_, (pss_one (ps_ret (pe_f C__law_pick hG (hr.mono (by decide)) (by rfl) pass0 (pa_cons (pv 0) (pa_cons (pe_lst (pa_cons pe_int (pa_cons pe_int (pa_cons pe_int (pa_cons (pe_un un_neg pe_int) (pa_cons (pe_un un_neg pe_int) (pa_cons pe_int (pa_cons (pe_op op_sub (pe_f C__law_shake hG (hr.mono (by decide)) (by rfl) pass0 (pa_cons (pv 0) (pa_cons pe_int pa_nil))) pe_int) (pa_cons (pe_op op_add (pe_op op_pow pe_int pe_int) (pe_f C__law_shake hG (hr.mono (by decide)) (by rfl) pass0 (pa_cons (pv 0) (pa_cons pe_int pa_nil)))) (pa_cons (pe_un un_neg (pe_op op_pow pe_int pe_int)) pa_nil)))))))))) pa_nil))))), ?_⟩
    try dsimp only [cxOf, Cx.nox, Cx.wish]
    walk_at "go"
    refine ⟨r, n, 40, rfl, R, by omega, by decide, by decide, fun H1 v1 g1 R1 v1a v1b => ?_⟩
    walk_at "go"
    refine k_I ⟨by decide, by decide, by decide⟩ ?_
    walk_at "go"
    refine ⟨r, n + 1, 9, rfl, R1, by omega, by decide, by decide, fun H2 v2 g2 R2 v2a v2b => ?_⟩
    walk_at "go"
    refine k_I ⟨by decide, by decide, by decide⟩ ?_
    walk_at "go"
    refine ⟨small64 (by simp), fun p hp => ?_⟩
    generalize hU : upd _ p _ = H3
    obtain ⟨s3, e3⟩ := upd_facts hU hp
    clear hU
    have np := R2.ne hp
    walk_at "go"
    refine ⟨r, p, n + 2, _, rfl, R2.same s3, by omega, np, e3, by simp, by simp, fun H4 v g4 R4 hv => ?_⟩
    have g : Gr r H H4 := g1.trans (g2.trans ((Gr.same s3).trans g4))
    have fin : ∀ i : Int, v = .int i → i.natAbs ≤ 2 * 10 ^ 30 → Q v H4 := fun i e hi => e ▸ q H4 i g R4 hi
    have p30 : (10 : Int) ^ Int.toNat 30 = 1000000000000000000000000000000 := by decide
    have p12 : (10 : Int) ^ Int.toNat 12 = 1000000000000 := by decide
    rw [p30, p12] at hv
    walk_at "go"
    simp only [List.mem_cons, List.not_mem_nil, or_false] at hv
    rcases hv with e | e | e | e | e | e | e | e | e <;> exact fin _ e (by omega)
theorem ok_any {f : Addr} {fd : FuncData} (F : Fun K "_law_any" "_law_any" s__law_any f fd) (T : TxtE mg) (C__law_pick : Cal P w K mg base CX0 2 "_law_pick" spPick) (C__law_small : Cal P w K mg base CX0 3 "_law_small" (spNum 3 (2 * 10 ^ 30))) :
    FnG P w K mg base CX0 4 f fd ["riddle"] (spDat 8 Good) := by
  refine okG0 F sc__law_any (fun vs H Q E h => ?_) (fun cdv A outer s H vs Q E hG hr h => ?_)
  · obtain ⟨r, n, rfl, _⟩ := h
    rfl
  · obtain ⟨r, n, rfl, R, hn, q⟩ := h
    refine ⟨_, (pss_cons (ps_par (i := 1) (j := 2) (by rfl) sc__law_any.nd rfl rfl (by decide) rfl rfl (pa_cons (pe_f C__law_small hG (hr.mono (by decide)) (by rfl) pass0 (pa_cons (pv 0) pa_nil)) (pa_cons (pe_f C__law_small hG (hr.mono (by decide)) (by rfl) pass0 (pa_cons (pv 0) pa_nil)) pa_nil)) (by rfl))
      (pss_cons (ps_set (i := 3) sc__law_any.nd rfl (.inl rfl) (pe_f C__law_pick hG (hr.mono (by decide)) (by rfl) pass0 (pa_cons (pv 0) (pa_cons (pe_lst (pa_cons pe_int (pa_cons pe_int (pa_cons pe_int (pa_cons (pe_un un_neg pe_int) (pa_cons pe_int pa_nil)))))) pa_nil))))
      (pss_cons (ps_set (i := 4) sc__law_any.nd rfl (.inl rfl) (pe_lst (pa_cons (pv 1) (pa_cons (pe_tup (pa_cons (pv 1) (pa_cons (pv 2) pa_nil))) (pa_cons (pe_lst (pa_cons (pe_op op_mul (pv 1) (pv 3)) (pa_cons (pe_op op_mul (pv 2) (pv 3)) pa_nil))) (pa_cons (pe_tup (pa_cons (pv 1) (pa_cons (pv 2) (pa_cons pe_int pa_nil)))) (pa_cons (pe_tup (pa_cons (pv 1) pa_nil)) (pa_cons (pe_lst pa_nil) (pa_cons (pe_tup (pa_cons (pv 1) (pa_cons pe_bl pa_nil))) (pa_cons (pe_lst (pa_cons pe_bl (pa_cons pe_int pa_nil))) (pa_cons (pe_tup (pa_cons (pv 1) (pa_cons (pe_callTy call_str_int (by rfl) T.m_str (by decide +kernel) (pa_cons (pv 2) pa_nil)) pa_nil))) (pa_cons (pe_tup (pa_cons pe_bl (pa_cons pe_int pa_nil))) pa_nil))))))))))))
      (pss_cons (ps_set (i := 4) sc__law_any.nd rfl (.inl rfl) (pe_op op_cat (pv 4) (pe_lst (pa_cons pe_non (pa_cons pe_bl (pa_cons (pe_callTy call_str_int (by rfl) T.m_str (by decide +kernel) (pa_cons (pv 1) pa_nil)) (pa_cons (pe_disp (pps_cons (pv 1) (pv 2) pps_nil) (by rfl) (by rfl) (fun z => by cases z) (by decide)) (pa_cons (pe_lst (pa_cons (pe_lst (pa_cons (pv 1) pa_nil)) (pa_cons (pv 2) pa_nil))) (pa_cons (pe_tup (pa_cons (pv 1) (pa_cons pe_non pa_nil))) (pa_cons pe_str (pa_cons (pe_tup (pa_cons (pv 1) (pa_cons pe_int pa_nil))) (pa_cons (pe_tup (pa_cons pe_int (pa_cons (pv 2) pa_nil))) (pa_cons (pe_lst (pa_cons (pv 1) (pa_cons (pe_op op_add (pe_callB (id := "abs") call_abs (by rfl) T.m_abs (by decide +kernel) (pa_cons (pv 2) pa_nil)) pe_int) pa_nil))) pa_nil)))))))))))))
      (pss_one (ps_ret (pe_f C__law_pick hG (hr.mono (by decide)) (by rfl) pass0 (pa_cons (pv 0) (pa_cons (pv 4) pa_nil))))))))), ?_⟩
    try dsimp only [cxOf, Cx.nox, Cx.wish]
    walk_at "go"
    refine ⟨r, n, rfl, R, by omega, fun H1 x g1 R1 hx => ?_⟩
    walk_at "go"
    refine ⟨r, n + 3, rfl, R1, by omega, fun H2 y g2 R2 hy => ?_⟩
    walk_at "go"
    refine ⟨small64 (by simp), fun p0 hp0 => ?_⟩
    generalize hU : upd _ p0 _ = H3
    obtain ⟨s3, e3⟩ := upd_facts hU hp0
    clear hU
    have np0 := R2.ne hp0
    walk_at "go"
    refine ⟨r, p0, n + 6, _, rfl, R2.same s3, by omega, np0, e3, by simp, by simp, fun H4 v g4 R4 hv => ?_⟩
    obtain ⟨b, rfl, hb⟩ : ∃ b : Int, v = .int b ∧ b.natAbs ≤ 3 := by
      simp only [List.mem_cons, List.not_mem_nil, or_false] at hv
      rcases hv with e | e | e | e | e <;> exact ⟨_, e, by decide⟩
    clear hv
    have g04 : Gr r H H4 := g1.trans (g2.trans ((Gr.same s3).trans g4))
    have cb : ∀ x : Int, CMul x b := fun x => .inr ⟨by omega, by omega⟩
    have R_H4 : Rid r (n + 7) H4 := R4
    have lx : x.natAbs.log2 < 1920 := Nat.lt_of_lt_of_le (PySem.Flt.log2_lt_of (k := 110) (by decide) (by omega)) (by decide)
    have ly : y.natAbs.log2 < 1920 := Nat.lt_of_lt_of_le (PySem.Flt.log2_lt_of (k := 110) (by decide) (by omega)) (by decide)
    walk_at "go"
    refine ⟨small64 (by simp), fun p1 hp1 => ?_⟩
    generalize hU : upd _ p1 _ = A1
    obtain ⟨s_A1, e_p1⟩ := upd_facts hU hp1
    clear hU
    have n_p1 : p1 ≠ r := R_H4.ne hp1
    have R_A1 : Rid r (n + 7) A1 := R_H4.same s_A1
    walk_at "go"
    refine k_I (cb _) ?_
    walk_at "go"
    refine k_I (cb _) ?_
    walk_at "go"
    refine ⟨small64 (by simp), fun p2 hp2 => ?_⟩
    generalize hU : upd _ p2 _ = A2
    obtain ⟨s_A2, e_p2⟩ := upd_facts hU hp2
    clear hU
    have n_p2 : p2 ≠ r := R_A1.ne hp2
    have R_A2 : Rid r (n + 7) A2 := R_A1.same s_A2
    walk_at "go"
    refine ⟨small64 (by simp), fun p3 hp3 => ?_⟩
    generalize hU : upd _ p3 _ = A3
    obtain ⟨s_A3, e_p3⟩ := upd_facts hU hp3
    clear hU
    have n_p3 : p3 ≠ r := R_A2.ne hp3
    have R_A3 : Rid r (n + 7) A3 := R_A2.same s_A3
    walk_at "go"
    refine ⟨small64 (by simp), fun p4 hp4 => ?_⟩
    generalize hU : upd _ p4 _ = A4
    obtain ⟨s_A4, e_p4⟩ := upd_facts hU hp4
    clear hU
    have n_p4 : p4 ≠ r := R_A3.ne hp4
    have R_A4 : Rid r (n + 7) A4 := R_A3.same s_A4
    walk_at "go"
    refine ⟨small64 (by simp), fun p5 hp5 => ?_⟩
    generalize hU : upd _ p5 _ = A5
    obtain ⟨s_A5, e_p5⟩ := upd_facts hU hp5
    clear hU
    have n_p5 : p5 ≠ r := R_A4.ne hp5
    have R_A5 : Rid r (n + 7) A5 := R_A4.same s_A5
    walk_at "go"
    refine ⟨small64 (by simp), fun p6 hp6 => ?_⟩
    generalize hU : upd _ p6 _ = A6
    obtain ⟨s_A6, e_p6⟩ := upd_facts hU hp6
    clear hU
    have n_p6 : p6 ≠ r := R_A5.ne hp6
    have R_A6 : Rid r (n + 7) A6 := R_A5.same s_A6
    walk_at "go"
    refine ⟨small64 (by simp), fun p7 hp7 => ?_⟩
    generalize hU : upd _ p7 _ = A7
    obtain ⟨s_A7, e_p7⟩ := upd_facts hU hp7
    clear hU
    have n_p7 : p7 ≠ r := R_A6.ne hp7
    have R_A7 : Rid r (n + 7) A7 := R_A6.same s_A7
    walk_at "go"
    refine ⟨ly, ?_⟩
    walk_at "go"
    refine ⟨small64 (by simp), fun p8 hp8 => ?_⟩
    generalize hU : upd _ p8 _ = A8
    obtain ⟨s_A8, e_p8⟩ := upd_facts hU hp8
    clear hU
    have n_p8 : p8 ≠ r := R_A7.ne hp8
    have R_A8 : Rid r (n + 7) A8 := R_A7.same s_A8
    walk_at "go"
    refine ⟨small64 (by simp), fun p9 hp9 => ?_⟩
    generalize hU : upd _ p9 _ = A9
    obtain ⟨s_A9, e_p9⟩ := upd_facts hU hp9
    clear hU
    have n_p9 : p9 ≠ r := R_A8.ne hp9
    have R_A9 : Rid r (n + 7) A9 := R_A8.same s_A9
    walk_at "go"
    refine ⟨small64 (by simp), fun p10 hp10 => ?_⟩
    generalize hU : upd _ p10 _ = A10
    obtain ⟨s_A10, e_p10⟩ := upd_facts hU hp10
    clear hU
    have n_p10 : p10 ≠ r := R_A9.ne hp10
    have R_A10 : Rid r (n + 7) A10 := R_A9.same s_A10
    walk_at "go"
    refine ⟨lx, ?_⟩
    walk_at "go"
    refine k_disp1 rfl rfl fun q1 B hq1 s_B e_q1 => ?_
    have n_q1 : q1 ≠ r := R_A10.ne hq1
    have R_B : Rid r (n + 7) B := R_A10.same s_B
    walk_at "go"
    refine ⟨small64 (by simp), fun q2 hq2 => ?_⟩
    generalize hU : upd _ q2 _ = A12
    obtain ⟨s_A12, e_q2⟩ := upd_facts hU hq2
    clear hU
    have n_q2 : q2 ≠ r := R_B.ne hq2
    have R_A12 : Rid r (n + 7) A12 := R_B.same s_A12
    walk_at "go"
    refine ⟨small64 (by simp), fun q3 hq3 => ?_⟩
    generalize hU : upd _ q3 _ = A13
    obtain ⟨s_A13, e_q3⟩ := upd_facts hU hq3
    clear hU
    have n_q3 : q3 ≠ r := R_A12.ne hq3
    have R_A13 : Rid r (n + 7) A13 := R_A12.same s_A13
    walk_at "go"
    refine ⟨small64 (by simp), fun q4 hq4 => ?_⟩
    generalize hU : upd _ q4 _ = A14
    obtain ⟨s_A14, e_q4⟩ := upd_facts hU hq4
    clear hU
    have n_q4 : q4 ≠ r := R_A13.ne hq4
    have R_A14 : Rid r (n + 7) A14 := R_A13.same s_A14
    walk_at "go"
    refine ⟨small64 (by simp), fun q5 hq5 => ?_⟩
    generalize hU : upd _ q5 _ = A15
    obtain ⟨s_A15, e_q5⟩ := upd_facts hU hq5
    clear hU
    have n_q5 : q5 ≠ r := R_A14.ne hq5
    have R_A15 : Rid r (n + 7) A15 := R_A14.same s_A15
    walk_at "go"
    refine ⟨small64 (by simp), fun q6 hq6 => ?_⟩
    generalize hU : upd _ q6 _ = A16
    obtain ⟨s_A16, e_q6⟩ := upd_facts hU hq6
    clear hU
    have n_q6 : q6 ≠ r := R_A15.ne hq6
    have R_A16 : Rid r (n + 7) A16 := R_A15.same s_A16
    walk_at "go"
    refine ⟨small64 (by simp), fun q7 hq7 => ?_⟩
    generalize hU : upd _ q7 _ = A17
    obtain ⟨s_A17, e_q7⟩ := upd_facts hU hq7
    clear hU
    have n_q7 : q7 ≠ r := R_A16.ne hq7
    have R_A17 : Rid r (n + 7) A17 := R_A16.same s_A17
    walk_at "go"
    refine ⟨small64 (by simp), fun q8 hq8 => ?_⟩
    generalize hU : upd _ q8 _ = A18
    obtain ⟨s_A18, e_q8⟩ := upd_facts hU hq8
    clear hU
    have n_q8 : q8 ≠ r := R_A17.ne hq8
    have R_A18 : Rid r (n + 7) A18 := R_A17.same s_A18
    walk_at "go"
    have e_p10L := (s_B.trans (s_A12.trans (s_A13.trans (s_A14.trans (s_A15.trans (s_A16.trans (s_A17.trans s_A18))))))) _ _ e_p10
    refine k_cat e_p10L e_q8 (small64 (by simp)) fun z hz => ?_
    generalize hU : upd A18 z _ = HF
    obtain ⟨s_F, e_z⟩ := upd_facts hU hz
    clear hU
    have n_z : z ≠ r := R_A18.ne hz
    have R_F : Rid r (n + 7) HF := R_A18.same s_F
    walk_at "go"
    refine ⟨r, z, n + 7, _, rfl, R_F, by omega, n_z, e_z, by simp, by simp, fun HG v g R hv => ?_⟩
    have gG : Gr r H HG := g04.trans ((Gr.same (s_A1.trans (s_A2.trans (s_A3.trans (s_A4.trans (s_A5.trans (s_A6.trans (s_A7.trans (s_A8.trans (s_A9.trans (s_A10.trans (s_B.trans (s_A12.trans (s_A13.trans (s_A14.trans (s_A15.trans (s_A16.trans (s_A17.trans (s_A18.trans s_F))))))))))))))))))).trans g)
    walk_at "go"
    have f_p1 := g _ _ n_p1 ((s_A2.trans (s_A3.trans (s_A4.trans (s_A5.trans (s_A6.trans (s_A7.trans (s_A8.trans (s_A9.trans (s_A10.trans (s_B.trans (s_A12.trans (s_A13.trans (s_A14.trans (s_A15.trans (s_A16.trans (s_A17.trans (s_A18.trans s_F))))))))))))))))) _ _ e_p1)
    have f_p2 := g _ _ n_p2 ((s_A3.trans (s_A4.trans (s_A5.trans (s_A6.trans (s_A7.trans (s_A8.trans (s_A9.trans (s_A10.trans (s_B.trans (s_A12.trans (s_A13.trans (s_A14.trans (s_A15.trans (s_A16.trans (s_A17.trans (s_A18.trans s_F)))))))))))))))) _ _ e_p2)
    have f_p3 := g _ _ n_p3 ((s_A4.trans (s_A5.trans (s_A6.trans (s_A7.trans (s_A8.trans (s_A9.trans (s_A10.trans (s_B.trans (s_A12.trans (s_A13.trans (s_A14.trans (s_A15.trans (s_A16.trans (s_A17.trans (s_A18.trans s_F))))))))))))))) _ _ e_p3)
    have f_p4 := g _ _ n_p4 ((s_A5.trans (s_A6.trans (s_A7.trans (s_A8.trans (s_A9.trans (s_A10.trans (s_B.trans (s_A12.trans (s_A13.trans (s_A14.trans (s_A15.trans (s_A16.trans (s_A17.trans (s_A18.trans s_F)))))))))))))) _ _ e_p4)
    have f_p5 := g _ _ n_p5 ((s_A6.trans (s_A7.trans (s_A8.trans (s_A9.trans (s_A10.trans (s_B.trans (s_A12.trans (s_A13.trans (s_A14.trans (s_A15.trans (s_A16.trans (s_A17.trans (s_A18.trans s_F))))))))))))) _ _ e_p5)
    have f_p6 := g _ _ n_p6 ((s_A7.trans (s_A8.trans (s_A9.trans (s_A10.trans (s_B.trans (s_A12.trans (s_A13.trans (s_A14.trans (s_A15.trans (s_A16.trans (s_A17.trans (s_A18.trans s_F)))))))))))) _ _ e_p6)
    have f_p7 := g _ _ n_p7 ((s_A8.trans (s_A9.trans (s_A10.trans (s_B.trans (s_A12.trans (s_A13.trans (s_A14.trans (s_A15.trans (s_A16.trans (s_A17.trans (s_A18.trans s_F))))))))))) _ _ e_p7)
    have f_p8 := g _ _ n_p8 ((s_A9.trans (s_A10.trans (s_B.trans (s_A12.trans (s_A13.trans (s_A14.trans (s_A15.trans (s_A16.trans (s_A17.trans (s_A18.trans s_F)))))))))) _ _ e_p8)
    have f_p9 := g _ _ n_p9 ((s_A10.trans (s_B.trans (s_A12.trans (s_A13.trans (s_A14.trans (s_A15.trans (s_A16.trans (s_A17.trans (s_A18.trans s_F))))))))) _ _ e_p9)
    have f_p10 := g _ _ n_p10 ((s_B.trans (s_A12.trans (s_A13.trans (s_A14.trans (s_A15.trans (s_A16.trans (s_A17.trans (s_A18.trans s_F)))))))) _ _ e_p10)
    have f_q1 := g _ _ n_q1 ((s_A12.trans (s_A13.trans (s_A14.trans (s_A15.trans (s_A16.trans (s_A17.trans (s_A18.trans s_F))))))) _ _ e_q1)
    have f_q2 := g _ _ n_q2 ((s_A13.trans (s_A14.trans (s_A15.trans (s_A16.trans (s_A17.trans (s_A18.trans s_F)))))) _ _ e_q2)
    have f_q3 := g _ _ n_q3 ((s_A14.trans (s_A15.trans (s_A16.trans (s_A17.trans (s_A18.trans s_F))))) _ _ e_q3)
    have f_q4 := g _ _ n_q4 ((s_A15.trans (s_A16.trans (s_A17.trans (s_A18.trans s_F)))) _ _ e_q4)
    have f_q5 := g _ _ n_q5 ((s_A16.trans (s_A17.trans (s_A18.trans s_F))) _ _ e_q5)
    have f_q6 := g _ _ n_q6 ((s_A17.trans (s_A18.trans s_F)) _ _ e_q6)
    have f_q7 := g _ _ n_q7 ((s_A18.trans s_F) _ _ e_q7)
    have f_q8 := g _ _ n_q8 (s_F _ _ e_q8)
    have fin : ∀ d, Dr r HG v d → Good d → Q v HG := fun d hd hg => q HG v d gG R hd hg
    clear q
    simp only [List.cons_append, List.nil_append, List.mem_cons, List.not_mem_nil, or_false] at hv
    rcases hv with rfl | rfl | rfl | rfl | rfl | rfl | rfl | rfl | rfl | rfl | rfl | rfl | rfl | rfl | rfl | rfl | rfl | rfl | rfl | rfl
    · exact fin _ (.int _) (by intro xs e; cases e <;> simp)
    · exact fin _ (.tup n_p1 f_p1 (.cons (.int _) (.cons (.int _) .nil))) (by intro xs e; cases e <;> simp)
    · exact fin _ (.lst n_p2 f_p2 (.cons (.int _) (.cons (.int _) .nil))) (by intro xs e; cases e <;> simp)
    · exact fin _ (.tup n_p3 f_p3 (.cons (.int _) (.cons (.int _) (.cons (.int _) .nil)))) (by intro xs e; cases e <;> simp)
    · exact fin _ (.tup n_p4 f_p4 (.cons (.int _) .nil)) (by intro xs e; cases e <;> simp)
    · exact fin _ (.lst n_p5 f_p5 .nil) (by intro xs e; cases e <;> simp)
    · exact fin _ (.tup n_p6 f_p6 (.cons (.int _) (.cons (.bl _) .nil))) (by intro xs e; cases e <;> simp)
    · exact fin _ (.lst n_p7 f_p7 (.cons (.bl _) (.cons (.int _) .nil))) (by intro xs e; cases e <;> simp)
    · exact fin _ (.tup n_p8 f_p8 (.cons (.int _) (.cons (.str _) .nil))) (by intro xs e; cases e <;> simp)
    · exact fin _ (.tup n_p9 f_p9 (.cons (.bl _) (.cons (.int _) .nil))) (by intro xs e; cases e <;> simp)
    · exact fin _ .non (by intro xs e; cases e <;> simp)
    · exact fin _ (.bl _) (by intro xs e; cases e <;> simp)
    · exact fin _ (.str _) (by intro xs e; cases e <;> simp)
    · exact fin _ (.dct n_q1 f_q1 (.cons (.int _) .nil)) (by intro xs e; cases e <;> simp)
    · exact fin _ (.lst n_q3 f_q3 (.cons (.lst n_q2 f_q2 (.cons (.int _) .nil)) (.cons (.int _) .nil))) (by intro xs e; cases e <;> simp)
    · exact fin _ (.tup n_q4 f_q4 (.cons (.int _) (.cons .non .nil))) (by intro xs e; cases e <;> simp)
    · exact fin _ (.str _) (by intro xs e; cases e <;> simp)
    · exact fin _ (.tup n_q5 f_q5 (.cons (.int _) (.cons (.int _) .nil))) (by intro xs e; cases e <;> simp)
    · exact fin _ (.tup n_q6 f_q6 (.cons (.int _) (.cons (.int _) .nil))) (by intro xs e; cases e <;> simp)
    · exact fin _ (.lst n_q7 f_q7 (.cons (.int _) (.cons (.int _) .nil))) (by intro xs e; cases e <;> simp)
end
end K02

namespace K02
open PySem PySem.Spec PyProof.Rows L2 Nd
abbrev s_law : Stmt := top 15
theorem sc_law : FnScope ["script", "riddle", "turn", "value", "many", "least", "most", "whole", "within", "fraction", "told"] ["script"] (defScope s_law) := ⟨rfl, rfl, rfl, by decide +kernel, rfl, by decide +kernel, by decide +kernel⟩
structure TxtF (mg : Str → Option Value) : Prop extends TxtE mg where
  m_repr : mg "repr" = none
  m_range : mg "range" = none
def spLaw (K : PySem.W.Frag) : Sp := fun vs H Q _ => ∃ (a : Addr) (ns : List Int), vs = [.ref a] ∧ SqL K H a (ns.map V.int) ∧ ns.length ≤ 63 ∧ ∀ H', Q (.bl true) H'
section
variable {P : Program} {w : World} {K : PySem.W.Frag} {mg : Str → Option Value} {base : Heap}
theorem ok_law {f : Addr} {fd : FuncData} (F : Fun K "law" "law" s_law f fd) (T : TxtF mg)
    (C__law_riddle : Cal P w K mg base CX0 1 "_law_riddle" (spRiddle K))
    (C__law_shake : Cal P w K mg base CX0 1 "_law_shake" spDraw) (C__law_pick : Cal P w K mg base CX0 2 "_law_pick" spPick)
    (C__law_any : Cal P w K mg base CX0 4 "_law_any" (spDat 8 Good)) (C__law_whole : Cal P w K mg base CX0 1 "_law_whole" spIsInt)
    (C__law_divisor : Cal P w K mg base CX0 1 "_law_divisor" spDiv) (C__law_row : Cal P w K mg base CX0 2 "_law_row" spAreInts)
    (C_is_integer : Cal P w K mg base CX0 1 "is_integer" spIsInt) (C_is_within : Cal P w K mg base CX0 2 "is_within" spWithin)
    (C_is_fraction : Cal P w K mg base CX0 3 "is_fraction" spFrac) (C_are_integers : Cal P w K mg base CX0 2 "are_integers" spAreInts)
    (CK_is_integer_value : CalK P w K mg base CX0 1 "is_integer" ["value"] [0] spIsInt)
    (CK_is_within_most_value_least : CalK P w K mg base CX0 2 "is_within" ["most", "value", "least"] [1, 2, 0] spWithin)
    (CK_is_fraction_value : CalK P w K mg base CX0 3 "is_fraction" ["value"] [0] spFrac)
    (CK_are_integers_many_value : CalK P w K mg base CX0 2 "are_integers" ["many", "value"] [1, 0] spAreInts) :
    FnG P w K mg base CX0 5 f fd ["script"] (spLaw K) := by
  refine okG0 F sc_law (fun vs H Q E h => ?_) (fun cdv A outer s H vs Q E hG hr h => ?_)
  · obtain ⟨a, ns, rfl, _⟩ := h
    rfl
  · obtain ⟨a, ns, rfl, hS, hlen, q⟩ := h
    refine ⟨_, (pss_cons (ps_set (i := 1) sc_law.nd rfl (.inl rfl) (pe_f C__law_riddle hG (hr.mono (by decide)) (by rfl) pass0 (pa_cons (pv 0) pa_nil)))
      (pss_cons (ps_for PassesOwn.never rfl (pi_range1 rfl T.m_range (pa_cons pe_int pa_nil)) (pg_name (i := 2) sc_law.nd rfl (.inl rfl)) (pss_cons (ps_par (i := 3) (j := 4) (by rfl) sc_law.nd rfl rfl (by decide) rfl rfl (pa_cons (pe_f C__law_any hG (hr.mono (by decide)) (by rfl) pass0 (pa_cons (pv 1) pa_nil)) (pa_cons (pe_f C__law_shake hG (hr.mono (by decide)) (by rfl) pass0 (pa_cons (pv 1) (pa_cons pe_int pa_nil))) pa_nil)) (by rfl))
      (pss_cons (ps_par (i := 5) (j := 6) (by rfl) sc_law.nd rfl rfl (by decide) rfl rfl (pa_cons (pe_f C__law_pick hG (hr.mono (by decide)) (by rfl) pass0 (pa_cons (pv 1) (pa_cons (pe_lst (pa_cons pe_non (pa_cons pe_int (pa_cons (pe_un un_neg pe_int) (pa_cons pe_int (pa_cons (pe_un un_neg (pe_op op_pow pe_int pe_int)) pa_nil)))))) pa_nil))) (pa_cons (pe_f C__law_pick hG (hr.mono (by decide)) (by rfl) pass0 (pa_cons (pv 1) (pa_cons (pe_lst (pa_cons pe_non (pa_cons pe_int (pa_cons pe_int (pa_cons pe_int (pa_cons (pe_op op_pow pe_int pe_int) pa_nil)))))) pa_nil))) pa_nil)) (by rfl))
      (pss_cons (ps_set (i := 7) sc_law.nd rfl (.inl rfl) (pe_f C__law_whole hG (hr.mono (by decide)) (by rfl) pass0 (pa_cons (pv 3) pa_nil)))
      (pss_cons (ps_set (i := 8) sc_law.nd rfl (.inl rfl) (pe_and (pv 7) (pe_and (pe_or (pe_cmpR op_isN (pv 5) pe_non (nomark _)) (pe_one (pe_not (pe_cmpR op_lt (pv 3) (pv 5) (nomark _))))) (pe_one (pe_or (pe_cmpR op_isN (pv 6) pe_non (nomark _)) (pe_one (pe_not (pe_cmpR op_gt (pv 3) (pv 6) (nomark _)))))))))
      (pss_cons (ps_set (i := 9) sc_law.nd rfl (.inl rfl) (pe_and (pe_f C__law_row hG (hr.mono (by decide)) (by rfl) pass0 (pa_cons (pv 3) (pa_cons pe_int pa_nil))) (pe_and (pe_cmpR op_gt (pe_ix ix_seq (pv 3) pe_int (fun _ _ => rfl)) pe_int (nomark _)) (pe_one (pe_cmpR op_eq (pe_f C__law_divisor hG (hr.mono (by decide)) (by rfl) pass0 (pa_cons (pe_ix ix_seq (pv 3) pe_int (fun _ _ => rfl)) (pa_cons (pe_ix ix_seq (pv 3) pe_int (fun _ _ => rfl)) pa_nil))) pe_int (nomark _))))))
      (pss_cons (ps_set (i := 10) sc_law.nd rfl (.inl rfl) (pe_lst (pa_cons (pe_f C_is_integer hG (hr.mono (by decide)) (by rfl) pass0 (pa_cons (pv 3) pa_nil)) (pa_cons (pe_f C_is_within hG (hr.mono (by decide)) (by rfl) pass0 (pa_cons (pv 3) (pa_cons (pv 5) (pa_cons (pv 6) pa_nil)))) (pa_cons (pe_f C_is_fraction hG (hr.mono (by decide)) (by rfl) pass0 (pa_cons (pv 3) pa_nil)) (pa_cons (pe_f C_are_integers hG (hr.mono (by decide)) (by rfl) pass0 (pa_cons (pv 3) (pa_cons (pv 4) pa_nil))) pa_nil))))))
      (pss_cons (ps_if (pt_cmpR op_ne (pe_callB (id := "repr") (cr_repr hG hr) (by rfl) T.m_repr (by decide +kernel) (pa_cons (pv 10) pa_nil)) (pe_callB (id := "repr") (cr_repr hG hr) (by rfl) T.m_repr (by decide +kernel) (pa_cons (pe_lst (pa_cons (pv 7) (pa_cons (pv 8) (pa_cons (pv 9) (pa_cons (pe_f C__law_row hG (hr.mono (by decide)) (by rfl) pass0 (pa_cons (pv 3) (pa_cons (pv 4) pa_nil))) pa_nil))))) pa_nil)) (nomark _)) (pss_one (ps_ret pe_bl)) pss_nil)
      (pss_one (ps_if (pt_cmpR (op_neD hr.units) (pe_lst (pa_cons (pe_kw CK_is_integer_value hG (hr.mono (by decide)) (by rfl) pass0 (pk_cons (pv 3) pk_nil)) (pa_cons (pe_kw CK_is_within_most_value_least hG (hr.mono (by decide)) (by rfl) pass0 (pk_cons (pv 6) (pk_cons (pv 3) (pk_cons (pv 5) pk_nil)))) (pa_cons (pe_kw CK_is_fraction_value hG (hr.mono (by decide)) (by rfl) pass0 (pk_cons (pv 3) pk_nil)) (pa_cons (pe_kw CK_are_integers_many_value hG (hr.mono (by decide)) (by rfl) pass0 (pk_cons (pv 4) (pk_cons (pv 3) pk_nil))) pa_nil))))) (pv 10) (nomark _)) (pss_one (ps_ret pe_bl)) pss_nil))))))))))
      (pss_one (ps_ret (pe_and (pe_f C_is_fraction hG (hr.mono (by decide)) (by rfl) pass0 (pa_cons (pe_tup (pa_cons pe_int (pa_cons pe_int pa_nil))) pa_nil)) (pe_and (pe_f C_is_fraction hG (hr.mono (by decide)) (by rfl) pass0 (pa_cons (pe_lst (pa_cons pe_int (pa_cons pe_int pa_nil))) pa_nil)) (pe_one (pe_f C_are_integers hG (hr.mono (by decide)) (by rfl) pass0 (pa_cons (pe_lst pa_nil) (pa_cons pe_int pa_nil)))))))))), ?_⟩
    try dsimp only [cxOf, Cx.nox, Cx.wish]
    walk_at "ga"
    refine ⟨a, ns, rfl, hS, hlen, fun H1 r s1 nr R0 => ?_⟩
    walk_at "ga"
    refine ⟨by decide, by decide, ?_⟩
    refine forIn_R (fun i σ H' => Rid r (11 * i) H' ∧ ∃ x2 x3 x4 x5 x6 x7 x8 x9 x10, σ = [some (.ref a), some (.ref r), x2, x3, x4, x5, x6, x7, x8, x9, x10]) ⟨R0, _, _, _, _, _, _, _, _, _, rfl⟩ (fun i σ H2 hi hP => ?_) (fun σ H2 hP => ?_)
    · obtain ⟨R2, x2, x3, x4, x5, x6, x7, x8, x9, x10, rfl⟩ := hP
      have hi' : i < 9 := hi
      walk_at "ga"
      refine ⟨r, 11 * i, rfl, R2, by omega, fun H3 v d g3 R3 hd3 good => ?_⟩
      walk_at "ga"
      refine ⟨r, 11 * i + 8, 4, rfl, R3, by omega, by decide, by decide, fun H4 many g4 R4 m0 m4 => ?_⟩
      have hd4 := hd3.gr g4
      walk_at "ga"
      refine k_I ⟨by decide, by decide, by decide⟩ ?_
      walk_at "ga"
      refine ⟨small64 (by simp), fun p1 hp1 => ?_⟩
      generalize hU : upd _ p1 _ = H5
      obtain ⟨s5, e5⟩ := upd_facts hU hp1
      clear hU
      have n1 := R4.ne hp1
      have R5 := R4.same s5
      have hd5 := hd4.same s5
      walk_at "ga"
      refine ⟨r, p1, _, _, rfl, R5, by omega, n1, e5, by simp, by simp, fun H6 v6 g6 R6 hv6 => ?_⟩
      obtain ⟨l, rfl⟩ : ∃ l, v6 = optV l := by
        simp only [List.mem_cons, List.not_mem_nil, or_false] at hv6
        rcases hv6 with e | e | e | e | e <;> first | exact ⟨none, e⟩ | exact ⟨some _, e⟩
      have hd6 := hd5.gr g6
      clear hv6
      walk_at "ga"
      refine k_I ⟨by decide, by decide, by decide⟩ ?_
      walk_at "ga"
      refine ⟨small64 (by simp), fun p2 hp2 => ?_⟩
      generalize hU : upd _ p2 _ = H7
      obtain ⟨s7, e7⟩ := upd_facts hU hp2
      clear hU
      have n2 := R6.ne hp2
      have R7 := R6.same s7
      have hd7 := hd6.same s7
      walk_at "ga"
      refine ⟨r, p2, _, _, rfl, R7, by omega, n2, e7, by simp, by simp, fun H8 v8 g8 R8 hv8 => ?_⟩
      obtain ⟨m, rfl⟩ : ∃ m, v8 = optV m := by
        simp only [List.mem_cons, List.not_mem_nil, or_false] at hv8
        rcases hv8 with e | e | e | e | e <;> first | exact ⟨none, e⟩ | exact ⟨some _, e⟩
      have hd8 := hd7.gr g8
      clear hv8
      walk_at "ga"
      refine ⟨r, v, d, rfl, hd8, fun H9 s9 => ?_⟩
      have R9 := R8.same s9
      have hd9 := hd8.same s9
      walk_at "ga"
      -- within
      refine k_cutE (.bl (withinD d l m)) (fun Q' k => ?_) (fun H10 s10 => ?_)
      · have k' := k H9 (Same.refl _)
        walk_at "go"
        cases hI : ndInt d with
        | false =>
          rw [withinD_no hI] at k'
          exact iteF k'
        | true =>
          obtain ⟨z, rfl⟩ := ndInt_int hI
          cases hd9
          refine iteT ?_
          rw [show withinD (.int z) l m = (lowD z l && highD z m) from rfl] at k'
          have last : lowD z l = true → ∀ H', H' = H9 → tOrV (tOp (fun x y H Q => y = .non ∧ Q (.bl (decide (x = .non))) H) (tVar 6) (tC .non)) (tNotV (tOp (rI0 fun i j => .bl (decide (j < i))) (tVar 3) (tVar 6)))
              [some (.ref a), some (.ref r), some (.int (0 + (i : Int))), some (.int z), some (.int many), some (optV l), some (optV m), some (.bl true), x8, x9, x10] H' Q' := by
            rintro hl _ rfl
            rw [hl, Bool.true_and] at k'
            walk_at "go"
            cases m with
            | none => exact iteT k'
            | some x =>
              refine iteF ?_
              dsimp only [optV]
              walk_at "go"
              rw [show (!decide (x < z)) = highD z (some x) by rw [highD, ← decide_not]; exact decide_eq_decide.mpr Int.not_lt]
              exact k'
          cases l with
          | none =>
            walk_at "go"
            refine iteT ?_
            walk_at "go"
            refine iteT ?_
            exact last rfl _ rfl
          | some y =>
            walk_at "go"
            refine iteF ?_
            dsimp only [optV]
            walk_at "go"
            by_cases hl : z < y
            · rw [decide_eq_true hl]
              refine iteF ?_
              rw [show lowD z (some y) = false by simp [lowD]; omega] at k'
              exact k'
            · rw [decide_eq_false hl]
              refine iteT ?_
              exact last (by simp [lowD]; omega) _ rfl
      have R10 := R9.same s10
      have hd10 := hd9.same s10
      walk_at "ga"
      refine k_cutE (.bl (fracD d)) (fun Q' k => ?_) (fun H11 s11 => ?_)
      · walk_at "go"
        refine ⟨r, v, d, 2, rfl, hd10, fun xs e => by have := good xs e; omega, fun H11 s11 => ?_⟩
        have hd10' := hd10.same s11
        walk_at "go"
        cases hk : areIntsD d 2 with
        | false =>
          refine iteF ?_
          rw [fracD_no hk] at k
          exact k H11 s11
        | true =>
          refine iteT ?_
          obtain ⟨u, z, hds⟩ := two_ints hk
          cases d with
          | none => cases hds
          | bool _ => cases hds
          | int _ => cases hds
          | str _ => cases hds
          | dict _ => cases hds
          | list ds =>
            cases (show ds = [.int u, .int z] from Option.some.inj hds)
            cases hd10' with
            | @lst a' xs _ na ea ha =>
            cases ha with
            | cons h1 h2 =>
            cases h2 with
            | cons h2 h3 =>
            cases h1
            cases h2
            cases h3
            walk_at "go"
            refine .inl (k_ixL (.inl (.inl ea)) rfl ?_)
            walk_at "go"
            by_cases hz0 : (0 : Int) < z
            · rw [decide_eq_true hz0]
              refine iteT ?_
              walk_at "go"
              refine .inl (k_ixL (.inl (.inl ea)) rfl ?_)
              walk_at "go"
              refine .inl (k_ixL (.inl (.inl ea)) rfl ?_)
              walk_at "go"
              refine ⟨u, z, rfl, fun H12 s12 => ?_⟩
              walk_at "go"
              have k' := k H12 (s11.trans s12)
              rw [show fracD (.list [.int u, .int z]) = (decide (0 < z) && decide (Nat.gcd u.natAbs z.natAbs = 1)) from rfl, decide_eq_true hz0, Bool.true_and] at k'
              simpa [V.int.injEq, gcd_one] using k'
            · rw [decide_eq_false hz0]
              refine iteF ?_
              have k' := k H11 s11
              rw [show fracD (.list [.int u, .int z]) = (decide (0 < z) && decide (Nat.gcd u.natAbs z.natAbs = 1)) from rfl, decide_eq_false hz0, Bool.false_and] at k'
              exact k'
          | tuple ds =>
            cases (show ds = [.int u, .int z] from Option.some.inj hds)
            cases hd10' with
            | @tup a' xs _ na ea ha =>
            cases ha with
            | cons h1 h2 =>
            cases h2 with
            | cons h2 h3 =>
            cases h1
            cases h2
            cases h3
            walk_at "go"
            refine .inr (.inl (k_ixT (.inl (.inl ea)) rfl ?_))
            walk_at "go"
            by_cases hz0 : (0 : Int) < z
            · rw [decide_eq_true hz0]
              refine iteT ?_
              walk_at "go"
              refine .inr (.inl (k_ixT (.inl (.inl ea)) rfl ?_))
              walk_at "go"
              refine .inr (.inl (k_ixT (.inl (.inl ea)) rfl ?_))
              walk_at "go"
              refine ⟨u, z, rfl, fun H12 s12 => ?_⟩
              walk_at "go"
              have k' := k H12 (s11.trans s12)
              rw [show fracD (.tuple [.int u, .int z]) = (decide (0 < z) && decide (Nat.gcd u.natAbs z.natAbs = 1)) from rfl, decide_eq_true hz0, Bool.true_and] at k'
              simpa [V.int.injEq, gcd_one] using k'
            · rw [decide_eq_false hz0]
              refine iteF ?_
              have k' := k H11 s11
              rw [show fracD (.tuple [.int u, .int z]) = (decide (0 < z) && decide (Nat.gcd u.natAbs z.natAbs = 1)) from rfl, decide_eq_false hz0, Bool.false_and] at k'
              exact k'
      have R11 := R10.same s11
      have hd11 := hd10.same s11
      walk_at "ga"
      refine ⟨r, v, d, rfl, hd11, fun H12 s12 => ?_⟩
      walk_at "ga"
      refine ⟨r, v, d, l, m, rfl, hd11.same s12, fun H13 s13 => ?_⟩
      walk_at "ga"
      have big : ∀ xs, itemsD d = some xs → xs.length ≤ 1000 := fun xs e => by have := good xs e; omega
      refine ⟨r, v, d, rfl, (hd11.same s12).same s13, big, fun H14 s14 => ?_⟩
      walk_at "ga"
      have s1114 := s12.trans (s13.trans s14)
      refine ⟨r, v, d, many, rfl, hd11.same s1114, big, fun H15 s15 => ?_⟩
      have R15 := R11.same (s1114.trans s15)
      have hd15 := hd11.same (s1114.trans s15)
      walk_at "ga"
      refine ⟨small64 (by simp), fun p16 hp16 => ?_⟩
      generalize hU : upd _ p16 _ = H16
      obtain ⟨s16, e16⟩ := upd_facts hU hp16
      clear hU
      have n16 := R15.ne hp16
      have R16 := R15.same s16
      have hd16 := hd15.same s16
      have D4 : ∀ b1 b2 b3 b4 : Bool, PyData.showable (.list [.bool b1, .bool b2, .bool b3, .bool b4]) = true ∧ PyData.depth (.list [.bool b1, .bool b2, .bool b3, .bool b4]) ≤ 60 ∧
          (PyData.shown (.list [.bool b1, .bool b2, .bool b3, .bool b4])).length ≤ sizeLine ∧ SeqAt.shaped (.list [.bool b1, .bool b2, .bool b3, .bool b4]) = true ∧
          PyData.eqv (.list [.bool b1, .bool b2, .bool b3, .bool b4]) (.list [.bool b1, .bool b2, .bool b3, .bool b4]) = true := by
        intro b1 b2 b3 b4
        cases b1 <;> cases b2 <;> cases b3 <;> cases b4 <;> decide +kernel
      obtain ⟨d1, d2, d3, d4, d5⟩ := D4 (ndInt d) (withinD d l m) (fracD d) (areIntsD d many)
      walk_at "ga"
      refine k_repr (.lst (.inl (.inl e16)) (.cons (.bl _) (.cons (.bl _) (.cons (.bl _) (.cons (.bl _) .nil))))) d1 d2 d3 ?_
      walk_at "ga"
      refine ⟨r, v, d, many, rfl, hd16, big, fun H17 s17 => ?_⟩
      walk_at "ga"
      refine ⟨small64 (by simp), fun p18 hp18 => ?_⟩
      generalize hU : upd _ p18 _ = H18
      obtain ⟨s18, e18⟩ := upd_facts hU hp18
      clear hU
      walk_at "ga"
      refine k_repr (.lst (.inl (.inl e18)) (.cons (.bl _) (.cons (.bl _) (.cons (.bl _) (.cons (.bl _) .nil))))) d1 d2 d3 ?_
      walk_at "ga"
      rw [decide_eq_true rfl]
      refine iteF ?_
      walk_at "ga"
      have s1618 := s17.trans s18
      have hd18 := hd16.same s1618
      have R18 := R16.same s1618
      have e16' := s1618 _ _ e16
      refine ⟨r, v, d, rfl, hd18, fun H19 s19 => ?_⟩
      walk_at "ga"
      refine ⟨r, v, d, l, m, rfl, hd18.same s19, fun H20 s20 => ?_⟩
      walk_at "ga"
      refine ⟨r, v, d, rfl, hd18.same (s19.trans s20), big, fun H21 s21 => ?_⟩
      walk_at "ga"
      refine ⟨r, v, d, many, rfl, hd18.same (s19.trans (s20.trans s21)), big, fun H22 s22 => ?_⟩
      have s1822 := s19.trans (s20.trans (s21.trans s22))
      walk_at "ga"
      refine ⟨small64 (by simp), fun p23 hp23 => ?_⟩
      generalize hU : upd _ p23 _ = H23
      obtain ⟨s23, e23⟩ := upd_facts hU hp23
      clear hU
      walk_at "ga"
      refine k_neD (.lst (.inl (.inl e23)) (.cons (.bl _) (.cons (.bl _) (.cons (.bl _) (.cons (.bl _) .nil))))) (.lst (.inl (.inl (s23 _ _ (s1822 _ _ e16')))) (.cons (.bl _) (.cons (.bl _) (.cons (.bl _) (.cons (.bl _) .nil))))) d4 d4 ?_
      rw [d5]
      walk_at "ga"
      refine iteF ?_
      walk_at "ga"
      exact ⟨((R18.same s1822).same s23).mono (by omega), _, _, _, _, _, _, _, _, _, rfl⟩
    · obtain ⟨R2, x2, x3, x4, x5, x6, x7, x8, x9, x10, rfl⟩ := hP
      walk_at "ga"
      refine ⟨small64 (by simp), fun p1 hp1 => ?_⟩
      generalize hU : upd _ p1 _ = H3
      obtain ⟨s3, e3⟩ := upd_facts hU hp1
      clear hU
      walk_at "ga"
      have n1 := R2.ne hp1
      refine ⟨r, _, _, rfl, .tup n1 e3 (.cons (.int _) (.cons (.int _) .nil)), by intro xs e; cases e; simp, fun H4 s4 => ?_⟩
      walk_at "ga"
      rw [show fracD (.tuple [.int 0, .int 1]) = true by decide]
      refine iteT ?_
      walk_at "ga"
      refine ⟨small64 (by simp), fun p2 hp2 => ?_⟩
      generalize hU : upd _ p2 _ = H5
      obtain ⟨s5, e5⟩ := upd_facts hU hp2
      clear hU
      walk_at "ga"
      have n2 := ((R2.same s3).same s4).ne hp2
      refine ⟨r, _, _, rfl, .lst n2 e5 (.cons (.int _) (.cons (.int _) .nil)), by intro xs e; cases e; simp, fun H6 s6 => ?_⟩
      walk_at "ga"
      rw [show fracD (.list [.int 7, .int 1]) = true by decide]
      refine iteT ?_
      walk_at "ga"
      refine ⟨small64 (by simp), fun p3 hp3 => ?_⟩
      generalize hU : upd _ p3 _ = H7
      obtain ⟨s7, e7⟩ := upd_facts hU hp3
      clear hU
      walk_at "ga"
      have n3 := ((((R2.same s3).same s4).same s5).same s6).ne hp3
      refine ⟨r, _, _, 0, rfl, .lst n3 e7 .nil, by intro xs e; cases e; simp, fun H8 s8 => ?_⟩
      walk_at "ga"
      exact q _
end
end K02

namespace K02
open PySem PySem.Spec PyProof.Rows L2 Nd
theorem all_mk {l : PySem.W.OpenLaw} {w : World} {K : PySem.W.Frag} {h : Heap} {mg : Str → Option Value} {fa f0 f1 f2 f3 f4 f5 f6 f7 f8 f9 f10 f11 f12 : Addr} (X : K.In h) (G : h.Ns mainGlobals mg) (hfa : mg "law" = some (.ref fa))
    {od0 an0 od1 an1 od2 an2 od3 an3 od4 an4 od5 an5 od6 an6 od7 an7 od8 an8 od9 an9 od10 an10 od11 an11 od12 an12 : Option Addr} {sl0 sl1 sl2 sl3 sl4 sl5 sl6 sl7 sl8 sl9 sl10 sl11 sl12 : Array (Option Value)} {oc0 kV0 dc0 pm0 cd0 ct0 oc1 kV1 dc1 pm1 cd1 ct1 oc2 kV2 dc2 pm2 cd2 ct2 oc3 kV3 dc3 pm3 cd3 ct3 oc4 kV4 dc4 pm4 cd4 ct4 oc5 kV5 dc5 pm5 cd5 ct5 oc6 kV6 dc6 pm6 cd6 ct6 oc7 kV7 dc7 pm7 cd7 ct7 oc8 kV8 dc8 pm8 cd8 ct8 oc9 kV9 dc9 pm9 cd9 ct9 oc10 kV10 dc10 pm10 cd10 ct10 oc11 kV11 dc11 pm11 cd11 ct11 oc12 kV12 dc12 pm12 cd12 ct12 : Value}
    (a0 : PySem.W.nsIn K mainGlobals "is_integer" = some (some (.ref f0))) (l0 : K.lookup f0 = some ⟨oc0, od0, .func (PySem.W.fnOf "is_integer" "is_integer" (defArgs s_is_integer) (defBody s_is_integer) (defScope s_is_integer) .none kV0 dc0 pm0 an0 cd0 ct0), sl0⟩) (c0 : PySem.W.codeIn K cd0 "is_integer" = true) (k0 : PySem.W.keepIn K (.ref f0) = true)
    (a1 : PySem.W.nsIn K mainGlobals "is_within" = some (some (.ref f1))) (l1 : K.lookup f1 = some ⟨oc1, od1, .func (PySem.W.fnOf "is_within" "is_within" (defArgs s_is_within) (defBody s_is_within) (defScope s_is_within) .none kV1 dc1 pm1 an1 cd1 ct1), sl1⟩) (c1 : PySem.W.codeIn K cd1 "is_within" = true) (k1 : PySem.W.keepIn K (.ref f1) = true)
    (a2 : PySem.W.nsIn K mainGlobals "are_integers" = some (some (.ref f2))) (l2 : K.lookup f2 = some ⟨oc2, od2, .func (PySem.W.fnOf "are_integers" "are_integers" (defArgs s_are_integers) (defBody s_are_integers) (defScope s_are_integers) .none kV2 dc2 pm2 an2 cd2 ct2), sl2⟩) (c2 : PySem.W.codeIn K cd2 "are_integers" = true) (k2 : PySem.W.keepIn K (.ref f2) = true)
    (a3 : PySem.W.nsIn K mainGlobals "is_fraction" = some (some (.ref f3))) (l3 : K.lookup f3 = some ⟨oc3, od3, .func (PySem.W.fnOf "is_fraction" "is_fraction" (defArgs s_is_fraction) (defBody s_is_fraction) (defScope s_is_fraction) .none kV3 dc3 pm3 an3 cd3 ct3), sl3⟩) (c3 : PySem.W.codeIn K cd3 "is_fraction" = true) (k3 : PySem.W.keepIn K (.ref f3) = true)
    (a4 : PySem.W.nsIn K mainGlobals "_law_riddle" = some (some (.ref f4))) (l4 : K.lookup f4 = some ⟨oc4, od4, .func (PySem.W.fnOf "_law_riddle" "_law_riddle" (defArgs s__law_riddle) (defBody s__law_riddle) (defScope s__law_riddle) .none kV4 dc4 pm4 an4 cd4 ct4), sl4⟩) (c4 : PySem.W.codeIn K cd4 "_law_riddle" = true) (k4 : PySem.W.keepIn K (.ref f4) = true)
    (a5 : PySem.W.nsIn K mainGlobals "_law_shake" = some (some (.ref f5))) (l5 : K.lookup f5 = some ⟨oc5, od5, .func (PySem.W.fnOf "_law_shake" "_law_shake" (defArgs s__law_shake) (defBody s__law_shake) (defScope s__law_shake) .none kV5 dc5 pm5 an5 cd5 ct5), sl5⟩) (c5 : PySem.W.codeIn K cd5 "_law_shake" = true) (k5 : PySem.W.keepIn K (.ref f5) = true)
    (a6 : PySem.W.nsIn K mainGlobals "_law_pick" = some (some (.ref f6))) (l6 : K.lookup f6 = some ⟨oc6, od6, .func (PySem.W.fnOf "_law_pick" "_law_pick" (defArgs s__law_pick) (defBody s__law_pick) (defScope s__law_pick) .none kV6 dc6 pm6 an6 cd6 ct6), sl6⟩) (c6 : PySem.W.codeIn K cd6 "_law_pick" = true) (k6 : PySem.W.keepIn K (.ref f6) = true)
    (a7 : PySem.W.nsIn K mainGlobals "_law_small" = some (some (.ref f7))) (l7 : K.lookup f7 = some ⟨oc7, od7, .func (PySem.W.fnOf "_law_small" "_law_small" (defArgs s__law_small) (defBody s__law_small) (defScope s__law_small) .none kV7 dc7 pm7 an7 cd7 ct7), sl7⟩) (c7 : PySem.W.codeIn K cd7 "_law_small" = true) (k7 : PySem.W.keepIn K (.ref f7) = true)
    (a8 : PySem.W.nsIn K mainGlobals "_law_any" = some (some (.ref f8))) (l8 : K.lookup f8 = some ⟨oc8, od8, .func (PySem.W.fnOf "_law_any" "_law_any" (defArgs s__law_any) (defBody s__law_any) (defScope s__law_any) .none kV8 dc8 pm8 an8 cd8 ct8), sl8⟩) (c8 : PySem.W.codeIn K cd8 "_law_any" = true) (k8 : PySem.W.keepIn K (.ref f8) = true)
    (a9 : PySem.W.nsIn K mainGlobals "_law_whole" = some (some (.ref f9))) (l9 : K.lookup f9 = some ⟨oc9, od9, .func (PySem.W.fnOf "_law_whole" "_law_whole" (defArgs s__law_whole) (defBody s__law_whole) (defScope s__law_whole) .none kV9 dc9 pm9 an9 cd9 ct9), sl9⟩) (c9 : PySem.W.codeIn K cd9 "_law_whole" = true) (k9 : PySem.W.keepIn K (.ref f9) = true)
    (a10 : PySem.W.nsIn K mainGlobals "_law_divisor" = some (some (.ref f10))) (l10 : K.lookup f10 = some ⟨oc10, od10, .func (PySem.W.fnOf "_law_divisor" "_law_divisor" (defArgs s__law_divisor) (defBody s__law_divisor) (defScope s__law_divisor) .none kV10 dc10 pm10 an10 cd10 ct10), sl10⟩) (c10 : PySem.W.codeIn K cd10 "_law_divisor" = true) (k10 : PySem.W.keepIn K (.ref f10) = true)
    (a11 : PySem.W.nsIn K mainGlobals "_law_row" = some (some (.ref f11))) (l11 : K.lookup f11 = some ⟨oc11, od11, .func (PySem.W.fnOf "_law_row" "_law_row" (defArgs s__law_row) (defBody s__law_row) (defScope s__law_row) .none kV11 dc11 pm11 an11 cd11 ct11), sl11⟩) (c11 : PySem.W.codeIn K cd11 "_law_row" = true) (k11 : PySem.W.keepIn K (.ref f11) = true)
    (a12 : PySem.W.nsIn K mainGlobals "law" = some (some (.ref f12))) (l12 : K.lookup f12 = some ⟨oc12, od12, .func (PySem.W.fnOf "law" "law" (defArgs s_law) (defBody s_law) (defScope s_law) .none kV12 dc12 pm12 an12 cd12 ct12), sl12⟩) (c12 : PySem.W.codeIn K cd12 "law" = true) (k12 : PySem.W.keepIn K (.ref f12) = true)
    (z_int : PySem.W.nsIn K mainGlobals "int" = some none)
    (z_len : PySem.W.nsIn K mainGlobals "len" = some none)
    (z_abs : PySem.W.nsIn K mainGlobals "abs" = some none)
    (z_bool : PySem.W.nsIn K mainGlobals "bool" = some none)
    (z_all : PySem.W.nsIn K mainGlobals "all" = some none)
    (z_list : PySem.W.nsIn K mainGlobals "list" = some none)
    (z_tuple : PySem.W.nsIn K mainGlobals "tuple" = some none)
    (z_isinstance : PySem.W.nsIn K mainGlobals "isinstance" = some none)
    (z_str : PySem.W.nsIn K mainGlobals "str" = some none)
    (z_repr : PySem.W.nsIn K mainGlobals "repr" = some none)
    (z_range : PySem.W.nsIn K mainGlobals "range" = some none)
    (z_gcd : PySem.W.nsIn K mainGlobals "gcd" = some (some (.builtin "math.gcd")))
    : ∃ fd : FuncData, (∀ (s : Shared) (v : Value), BindsTo s fd ⟨[v], []⟩ [("script", v)]) ∧ ∀ base : Heap, K.In base → base.Ns mainGlobals mg → FnG l.prog w K mg base CX0 5 fa fd ["script"] (spLaw K) := by
  have e := hfa.symm.trans (PySem.W.mg_of X G a12)
  cases e
  have F0 := fun_mk (st := s_is_integer) l0 c0 k0
  have b0 := F0.binds (ps := ["value"]) fun _ _ _ _ _ _ us hl => match us, hl with | [_], _ => rfl
  have g0 := PySem.W.mg_of X G a0
  have F1 := fun_mk (st := s_is_within) l1 c1 k1
  have b1 := F1.binds (ps := ["value", "least", "most"]) fun _ _ _ _ _ _ us hl => match us, hl with | [_, _, _], _ => rfl
  have g1 := PySem.W.mg_of X G a1
  have F2 := fun_mk (st := s_are_integers) l2 c2 k2
  have b2 := F2.binds (ps := ["value", "many"]) fun _ _ _ _ _ _ us hl => match us, hl with | [_, _], _ => rfl
  have g2 := PySem.W.mg_of X G a2
  have F3 := fun_mk (st := s_is_fraction) l3 c3 k3
  have b3 := F3.binds (ps := ["value"]) fun _ _ _ _ _ _ us hl => match us, hl with | [_], _ => rfl
  have g3 := PySem.W.mg_of X G a3
  have F4 := fun_mk (st := s__law_riddle) l4 c4 k4
  have b4 := F4.binds (ps := ["script"]) fun _ _ _ _ _ _ us hl => match us, hl with | [_], _ => rfl
  have g4 := PySem.W.mg_of X G a4
  have F5 := fun_mk (st := s__law_shake) l5 c5 k5
  have b5 := F5.binds (ps := ["riddle", "many"]) fun _ _ _ _ _ _ us hl => match us, hl with | [_, _], _ => rfl
  have g5 := PySem.W.mg_of X G a5
  have F6 := fun_mk (st := s__law_pick) l6 c6 k6
  have b6 := F6.binds (ps := ["riddle", "some"]) fun _ _ _ _ _ _ us hl => match us, hl with | [_, _], _ => rfl
  have g6 := PySem.W.mg_of X G a6
  have F7 := fun_mk (st := s__law_small) l7 c7 k7
  have b7 := F7.binds (ps := ["riddle"]) fun _ _ _ _ _ _ us hl => match us, hl with | [_], _ => rfl
  have g7 := PySem.W.mg_of X G a7
  have F8 := fun_mk (st := s__law_any) l8 c8 k8
  have b8 := F8.binds (ps := ["riddle"]) fun _ _ _ _ _ _ us hl => match us, hl with | [_], _ => rfl
  have g8 := PySem.W.mg_of X G a8
  have F9 := fun_mk (st := s__law_whole) l9 c9 k9
  have b9 := F9.binds (ps := ["value"]) fun _ _ _ _ _ _ us hl => match us, hl with | [_], _ => rfl
  have g9 := PySem.W.mg_of X G a9
  have F10 := fun_mk (st := s__law_divisor) l10 c10 k10
  have b10 := F10.binds (ps := ["one", "other"]) fun _ _ _ _ _ _ us hl => match us, hl with | [_, _], _ => rfl
  have g10 := PySem.W.mg_of X G a10
  have F11 := fun_mk (st := s__law_row) l11 c11 k11
  have b11 := F11.binds (ps := ["value", "many"]) fun _ _ _ _ _ _ us hl => match us, hl with | [_, _], _ => rfl
  have g11 := PySem.W.mg_of X G a11
  have F12 := fun_mk (st := s_law) l12 c12 k12
  have T : TxtF mg := { m_gcd := PySem.W.mg_of X G z_gcd, m_int := PySem.W.mg_none_of X G z_int, m_len := PySem.W.mg_none_of X G z_len, m_abs := PySem.W.mg_none_of X G z_abs, m_bool := PySem.W.mg_none_of X G z_bool, m_all := PySem.W.mg_none_of X G z_all, m_list := PySem.W.mg_none_of X G z_list, m_tuple := PySem.W.mg_none_of X G z_tuple, m_isinstance := PySem.W.mg_none_of X G z_isinstance, m_str := PySem.W.mg_none_of X G z_str, m_repr := PySem.W.mg_none_of X G z_repr, m_range := PySem.W.mg_none_of X G z_range }
  have T0 : Txt mg := ⟨T.m_int, T.m_len, T.m_abs⟩
  refine ⟨PySem.W.fnOf "law" "law" (defArgs s_law) (defBody s_law) (defScope s_law) .none kV12 dc12 pm12 an12 cd12 ct12, fun s v => .of_eq rfl, fun base _ _ => ?_⟩
  have C_is_integer : Cal l.prog w K mg base CX0 1 "is_integer" spIsInt := ⟨f0, _, _, ok_is_integer F0 T.toTxtC, g0, k0, b0⟩
  have C_is_within : Cal l.prog w K mg base CX0 2 "is_within" spWithin := ⟨f1, _, _, ok_is_within F1 C_is_integer, g1, k1, b1⟩
  have C_are_integers : Cal l.prog w K mg base CX0 2 "are_integers" spAreInts := ⟨f2, _, _, ok_are_integers F2 T.toTxtC C_is_integer, g2, k2, b2⟩
  have C_is_fraction : Cal l.prog w K mg base CX0 3 "is_fraction" spFrac := ⟨f3, _, _, ok_is_fraction F3 T.toTxtC C_are_integers, g3, k3, b3⟩
  have C__law_riddle : Cal l.prog w K mg base CX0 1 "_law_riddle" (spRiddle K) := ⟨f4, _, _, ok_riddle F4 T0, g4, k4, b4⟩
  have C__law_shake : Cal l.prog w K mg base CX0 1 "_law_shake" spDraw := ⟨f5, _, _, ok_shake F5 T0, g5, k5, b5⟩
  have C__law_pick : Cal l.prog w K mg base CX0 2 "_law_pick" spPick := ⟨f6, _, _, ok_pick F6 T0 C__law_shake, g6, k6, b6⟩
  have C__law_small : Cal l.prog w K mg base CX0 3 "_law_small" (spNum 3 (2 * 10 ^ 30)) := ⟨f7, _, _, ok_small F7 T.toTxtD C__law_shake C__law_pick, g7, k7, b7⟩
  have C__law_any : Cal l.prog w K mg base CX0 4 "_law_any" (spDat 8 Good) := ⟨f8, _, _, ok_any F8 T.toTxtE C__law_pick C__law_small, g8, k8, b8⟩
  have C__law_whole : Cal l.prog w K mg base CX0 1 "_law_whole" spIsInt := ⟨f9, _, _, ok_whole F9 T.toTxtD, g9, k9, b9⟩
  have C__law_divisor : Cal l.prog w K mg base CX0 1 "_law_divisor" spDiv := ⟨f10, _, _, ok_divisor F10 T.toTxtD, g10, k10, b10⟩
  have C__law_row : Cal l.prog w K mg base CX0 2 "_law_row" spAreInts := ⟨f11, _, _, ok_row F11 T.toTxtD C__law_whole, g11, k11, b11⟩
  have CK_is_integer_value : CalK l.prog w K mg base CX0 1 "is_integer" ["value"] [0] spIsInt := ⟨f0, _, _, ok_is_integer F0 T.toTxtC, g0, k0, kwBinds (ks := ["value"]) (ix := [0]) F0 fun _ _ _ _ _ _ ws hl => match ws, hl with | [_], _ => rfl⟩
  have CK_is_within_most_value_least : CalK l.prog w K mg base CX0 2 "is_within" ["most", "value", "least"] [1, 2, 0] spWithin := ⟨f1, _, _, ok_is_within F1 C_is_integer, g1, k1, kwBinds (ks := ["most", "value", "least"]) (ix := [1, 2, 0]) F1 fun _ _ _ _ _ _ ws hl => match ws, hl with | [_, _, _], _ => rfl⟩
  have CK_is_fraction_value : CalK l.prog w K mg base CX0 3 "is_fraction" ["value"] [0] spFrac := ⟨f3, _, _, ok_is_fraction F3 T.toTxtC C_are_integers, g3, k3, kwBinds (ks := ["value"]) (ix := [0]) F3 fun _ _ _ _ _ _ ws hl => match ws, hl with | [_], _ => rfl⟩
  have CK_are_integers_many_value : CalK l.prog w K mg base CX0 2 "are_integers" ["many", "value"] [1, 0] spAreInts := ⟨f2, _, _, ok_are_integers F2 T.toTxtC C_is_integer, g2, k2, kwBinds (ks := ["many", "value"]) (ix := [1, 0]) F2 fun _ _ _ _ _ _ ws hl => match ws, hl with | [_, _], _ => rfl⟩
  exact ok_law F12 T C__law_riddle C__law_shake C__law_pick C__law_any C__law_whole C__law_divisor C__law_row C_is_integer C_is_within C_is_fraction C_are_integers CK_is_integer_value CK_is_within_most_value_least CK_is_fraction_value CK_are_integers_many_value
end K02
open PySem PySem.W PyProof.Rows
set_option maxHeartbeats 0 in
theorem PySem.Challenge.cw_nodice_k02_what_any_value_is_holds : PySem.Challenge.rw_nodice_k02_what_any_value_is.Holds := by
  w_on; o_law; k_head; (case hw => w_witness2)
  k_fill
  refine Nd.walkG (l := PySem.Challenge.rw_nodice_k02_what_any_value_is) (n := 63) (k := 5) (x := "script") (CX := fun _ => L2.CX0) (sp := fun w => K02.spLaw _) rfl (by decide) rfl ⟨rfl, by decide, by decide⟩ (fun w h Y => PySem.W.kIn_of Y) ?F (fun _ _ a ns hl _ hS => ⟨a, ns, rfl, hS, hl, fun _ => rfl⟩) (fun _ _ _ _ _ h => h)
  case F =>
    intro w mg fa h KX G hmg
    refine' K02.all_mk KX G hmg ?a0 ?l0 ?c0 ?k0 ?a1 ?l1 ?c1 ?k1 ?a2 ?l2 ?c2 ?k2 ?a3 ?l3 ?c3 ?k3 ?a4 ?l4 ?c4 ?k4 ?a5 ?l5 ?c5 ?k5 ?a6 ?l6 ?c6 ?k6 ?a7 ?l7 ?c7 ?k7 ?a8 ?l8 ?c8 ?k8 ?a9 ?l9 ?c9 ?k9 ?a10 ?l10 ?c10 ?k10 ?a11 ?l11 ?c11 ?k11 ?a12 ?l12 ?c12 ?k12 ?z_int ?z_len ?z_abs ?z_bool ?z_all ?z_list ?z_tuple ?z_isinstance ?z_str ?z_repr ?z_range ?z_gcd
    (case a0 => k_is); (case l0 => k_is); (case c0 => k_is); (case k0 => k_is); (case a1 => k_is); (case l1 => k_is); (case c1 => k_is); (case k1 => k_is); (case a2 => k_is); (case l2 => k_is); (case c2 => k_is); (case k2 => k_is); (case a3 => k_is); (case l3 => k_is); (case c3 => k_is); (case k3 => k_is); (case a4 => k_is); (case l4 => k_is); (case c4 => k_is); (case k4 => k_is); (case a5 => k_is); (case l5 => k_is); (case c5 => k_is); (case k5 => k_is); (case a6 => k_is); (case l6 => k_is); (case c6 => k_is); (case k6 => k_is); (case a7 => k_is); (case l7 => k_is); (case c7 => k_is); (case k7 => k_is); (case a8 => k_is); (case l8 => k_is); (case c8 => k_is); (case k8 => k_is); (case a9 => k_is); (case l9 => k_is); (case c9 => k_is); (case k9 => k_is); (case a10 => k_is); (case l10 => k_is); (case c10 => k_is); (case k10 => k_is); (case a11 => k_is); (case l11 => k_is); (case c11 => k_is); (case k11 => k_is); (case a12 => k_is); (case l12 => k_is); (case c12 => k_is); (case k12 => k_is); (case z_int => k_is); (case z_len => k_is); (case z_abs => k_is); (case z_bool => k_is); (case z_all => k_is); (case z_list => k_is); (case z_tuple => k_is); (case z_isinstance => k_is); (case z_str => k_is); (case z_repr => k_is); (case z_range => k_is); (case z_gcd => k_is)
