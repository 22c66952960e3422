import PyProof.Rows.All
import Wide.All
import OpenK.AllK
import Wide.FinOn
import HandS.ForMost
import HandS.Wide
import HandS.IsInst
import HandS.Gcd
import HandS.Style
import HandS.Flow
import HandS.NoneIn
import HandS.Defaults
import HandS.SetFor
import PyProof.ReprRoads
import PySem.Challenge.RW_nodice_k04_whole_fractions_reckon_as_num
set_option Elab.async false
set_option linter.all false
set_option maxRecDepth 100000
set_option maxHeartbeats 4000000
namespace Nd
open PySem PySem.Spec PyProof.Rows L2

/-! ### defs that may only be called where nothing is being shown -/
structure FnG (P : Program) (w : World) (K : PySem.W.Frag) (mg : Str → Option Value) (base : Heap)
    (CX : CXT) (k : Nat) (f : Addr) (fd : FuncData) (ps : List Str) (sp : Sp) : Prop where
  many : ∀ vs H Q E, sp vs H Q E → vs.length = ps.length
  go : ∀ (A : Around) (fr : List Env) (s : Shared) (H : Hp) (args : Args) (us : List Value)
    (vs : List V) (Q : VK) (E : XK), A.guards = some [] → Room k A →
    Env0 P w K mg base A fr s H → BindsTo s fd args (ps.zip us) → Vals vs us → sp vs H Q E →
    codeAny (model P w) A (.call (.ref f) args) (CR CX fr P w H s Q E) s

section
variable {P : Program} {w : World} {K : PySem.W.Frag} {mg : Str → Option Value} {base : Heap}
theorem FnG.ofOk {CX : CXT} {k : Nat} {f : Addr} {fd : FuncData} {ps : List Str} {sp : Sp}
    (F : FnOk P w K mg base CX k f fd ps sp) : FnG P w K mg base CX k f fd ps sp :=
  ⟨F.len, fun A fr s H args us vs Q E _ hr => F.run A fr s H args us vs Q E hr⟩

theorem okG {CX : CXT} {x qual : Str} {st : Stmt} {f : Addr} {fd : FuncData} {N ps : List Str}
    {k : Nat} {sp : Sp} (F : Fun K x qual st f fd) (S : FnScope N ps (defScope st))
    (many : ∀ vs H Q E, sp vs H Q E → vs.length = ps.length)
    (body : ∀ (cdv : Value) (A : Around) (fr : List Env) (s : Shared) (H : Hp) (vs : List V)
      (Q : VK) (E : XK),
      (cxOf CX P w K mg base N qual (defScope st) f cdv A fr s H E).A.guards = some [] →
      Room k (cxOf CX P w K mg base N qual (defScope st) f cdv A fr s H E).A → sp vs H Q E →
      ∃ t, PSs (cxOf CX P w K mg base N qual (defScope st) f cdv A fr s H E) (defBody st) t ∧
        t { nx := fun _ H' => Q .non H', rt := Q } (start N vs) H) :
    FnG P w K mg base CX (k + 1) f fd ps sp := by
  obtain ⟨oc, od, kV, doc, pm, an, cdv, ct, osl, rfl, lk, hcd⟩ := F.ex
  refine ⟨many, ?_⟩
  intro A fr s H args us vs Q E hG room env bind rel want
  have inK := env.mod.kin.keeps fun b o e => (env.bs b o e).1
  have noL := env.mod.nolimit.keeps fun b o e => (env.bs b o e).1
  have kinds : ∀ y ∈ ps.zip us, (defScope st).names.lookup y.1 = some .local ∨
      ((defScope st).names.lookup y.1 = some .cell ∧
        ((cellsFrom (s.heap.objs.size + 1) (defScope st).names []).lookup y.1).isSome = true) := by
    rintro ⟨n, v⟩ hy
    cases S.par n (List.of_mem_zip hy).1 with
    | inl q => exact .inl q
    | inr q => exact .inr ⟨q, PySem.W.cellsFrom_some _ _ _ (.inl q)⟩
  apply codeAny_call_function room.depth (inK _ _ lk) rfl S.co S.gen rfl
    (PySem.W.codeRec_of inK hcd) (bind _ _ _ _ ?_)
  apply wpAny_newFunctionEnv_cells S.kind kinds
  rintro env' rfl s1 x
  refine ⟨noL.keeps x.toInCall.keep, codeAny_func ?_⟩
  obtain ⟨t, ht, hq⟩ := body cdv A fr s H vs Q E hG (room.deeper _) want
  have I := inv_start (CX := CX) (E := E) S room.hd env (many _ _ _ _ want) rel x
  refine wpAny_mono (ht.run [] s1 (start N vs) H _ I hq) ?_ fun e s' hs => hs
  intro fl s' hs
  cases fl with
  | brk => exact False.elim hs.choose_spec.choose_spec.2
  | cont => exact False.elim hs.choose_spec.choose_spec.2
  | next =>
    obtain ⟨σ', H', J, q⟩ := hs
    exact ⟨V.non, H', J.os, J.bare, J.base, J.hok, rfl, q⟩
  | ret u =>
    obtain ⟨v, σ', H', J, rv, q⟩ := hs
    exact ⟨v, H', J.os, J.bare, J.base, J.hok, rv, q⟩
end

section
variable {X : Cx} {CX : CXT} {k : Nat} {f : Addr} {fd : FuncData} {ps : List Str} {sp : Sp}
  {dvs : List V} {ds : List Value} {E : XK} {x : Str} {p pos : Pos} {e : Expr} {es : List Expr} {t : TA}
theorem goG {pins : List (Addr × Obj)} {σ : L2.St} {H : Hp} {s : Shared} {Q : VK} {us : List Value}
    {vs : List V} (F : FnG X.prog X.w X.K X.mg X.base CX k f fd ps sp) (hG : X.A.guards = some [])
    (hr : Room k X.A) (hb : Binds X.K fd ps ds) (hd : Vals dvs ds) (hx : Passes CX X E)
    (I : Inv X pins σ H s) (r : Vals vs us) (h : sp (vs ++ dvs) H Q E) :
    wpAny (model X.prog X.w) X.A (call (.ref f) us) (EP X pins σ Q) X.xe s := by
  have r2 := r.append hd
  have hl : (us ++ ds).length = ps.length := r2.length.symm.trans (F.many _ _ _ _ h)
  have run := F.go X.A X.stack s H ⟨us, []⟩ (us ++ ds) (vs ++ dvs) Q E hG hr I.env0
    (hb s us I.kIn hl) r2 h
  refine wpAny_call (codeAny_mono run ?_)
  rintro (e' | fl) s' hq
  · exact hx pins σ H s e' s' I hq
  · cases fl with
    | ret u => exact I.after hq
    | next => exact hq.elim
    | brk => exact hq.elim
    | cont => exact hq.elim

theorem pe_callG (F : FnG X.prog X.w X.K X.mg X.base CX k f fd ps sp) (hG : X.A.guards = some [])
    (hr : Room k X.A) (hg : Gl X x) (hm : X.mg x = some (.ref f))
    (hk : PySem.W.keepIn X.K (.ref f) = true) (hb : Binds X.K fd ps ds) (hd : Vals dvs ds)
    (hx : Passes CX X E) (ha : PA X (e :: es) t)
    (hdb : (x == ("__debug__" : Str)) = false := by decide)
    (he : starEach (e :: es) X.env = (false, eval e X.env) :: starEach es X.env := by rfl)
    (hpl : (backTo pos (starEach es X.env)).any (·.1) = false := by rfl) :
    PE X (.Call (.Name x p) (e :: es) [] pos) (tCall sp dvs E t) := by
  constructor
  intro pins s σ H Q I h
  apply wpAny_Call_Name_kw (ld_glob I hg hm ?_ hdb)
  apply PySem.W.callWith_K (h₀ := X.base) I.ok.mod.kin hk ?_ he hpl
  apply thn (ha.run pos pins s σ H _ I h)
  rintro us s1 ⟨vs, H1, I1, r, q⟩
  exact ⟨I1.kIn, goG F hG hr hb hd hx I1 r q⟩
end

/-! ### the law's own call -/
theorem entG {P : Program} {w : World} {K : PySem.W.Frag} {mg mb : Str → Option Value} {CX : CXT}
    {k : Nat} {fa a : Addr} {fd : FuncData} {x : Str} {sp : Sp} {s₁ : Shared} {vs : List Value}
    {ns : List Int} (KX : K.In s₁.heap) (hns : s₁.heap.Ns mainGlobals mg)
    (hb : s₁.heap.Ns builtinsNs mb) (hbb : ∀ y : Str, y ≠ "__name__" → mb y = bootBuiltins y)
    (hlim : s₁.heap.NoLimit) (hg : s₁.gens = #[])
    (ha : s₁.heap.get? a = some { cls := .type "list", data := .seq vs.toArray })
    (hi : IntsAre vs ns) (hl : ns.length ≤ sizeLine) (hr : Room k callerA)
    (F : ∀ base : Heap, K.In base → base.Ns mainGlobals mg → FnG P w K mg base CX k fa fd [x] sp)
    (hbind : ∀ (s : Shared) (u : Value), BindsTo s fd ⟨[u], []⟩ [(x, u)])
    (hsp : ∀ H : Hp, Only H → SqL K H a (ns.map V.int) → sp [.ref a] H (fun v _ => v = .bl true) E0)
    (hCX : ∀ H e s', CX [] H s₁ E0 e s' → False) :
    codeAny (model P w) callerA (.call (.ref fa) ⟨[.ref a], []⟩)
      (fun r s' => r = .ok (.ret (.bool true)) ∧ OldK s₁.heap s'.heap ∧ s'.os = s₁.os ∧
        AllBare s'.gens) s₁ := by
  have main : ∀ H : Hp, Only H → SqL K H a (ns.map V.int) → HOk P w H s₁.heap →
      (∀ b, H b ≠ none → b = a) → (H a ≠ none → K.lookup a = none) →
      codeAny (model P w) callerA (.call (.ref fa) ⟨[.ref a], []⟩)
        (fun r s' => r = .ok (.ret (.bool true)) ∧ OldK s₁.heap s'.heap ∧ s'.os = s₁.os ∧
          AllBare s'.gens) s₁ := by
    intro H only sq ok one off
    have cases' : ∀ b, H b = none ∨ b = a := fun b => by
      by_cases z : H b = none
      · exact .inl z
      · exact .inr (one b z)
    have dictFree : ∀ {b : Addr} {o : Obj} {es : Array DictEntry} {ep : Nat},
        s₁.heap.get? b = some o → o.data = .dict es ep → H b = none := by
      intro b o es ep e d
      rcases cases' b with z | z
      · exact z
      · subst z
        obtain rfl := Option.some.inj (e.symm.trans ha)
        cases (show Data.seq vs.toArray _ = Data.dict es ep from d)
    have keepNs : ∀ {b : Addr} {m : Str → Option Value}, s₁.heap.Ns b m →
        (hidT s₁.heap H).Ns b m := by
      rintro b m ⟨o, es, ep, e, d, r⟩
      exact ⟨o, es, ep, hidT_get e (dictFree e d), d, r⟩
    have inH : K.In (hidT s₁.heap H) := by
      intro b o e
      refine hidT_get (KX b o e) ?_
      rcases cases' b with z | z
      · exact z
      · subst z
        by_cases y : H b = none
        · exact y
        · cases (off y).symm.trans e
    obtain ⟨mc, l1, l2⟩ := hlim
    have md : Mod K mg (hidT s₁.heap H) :=
      ⟨inH, keepNs hns, ⟨mb, keepNs hb, hbb⟩, mc, keepNs l1, l2⟩
    have env : Env0 P w K mg (hidT s₁.heap H) callerA [] s₁ H :=
      { frames := rfl, mod := md, bs := fun b o e => of_hidT e
        bsz := Nat.le_of_eq (hidT_size _ _), funs := trivial
        frf := fun b hb => (List.not_mem_nil (show b ∈ ([] : List Addr) from hb)).elim
        hok := ok, bare := .of_eq hg }
    have run := (F _ inH (keepNs hns)).go callerA [] s₁ H ⟨[.ref a], []⟩ [.ref a] [.ref a] _ _ rfl hr
      env (hbind s₁ (.ref a)) (.cons rfl .nil) (hsp H only sq)
    refine codeAny_mono run ?_
    rintro (e | fl) s' h
    · exact (hCX H e s' h).elim
    cases fl with
    | next => exact h.elim
    | brk => exact h.elim
    | cont => exact h.elim
    | ret u =>
      obtain ⟨v, H', os, bare, un, ok', rv, rfl⟩ := h
      cases (show u = Value.bool true from rv)
      refine ⟨rfl, .of_keep fun b o e => ?_, os, bare⟩
      rcases only b with z | ⟨ob, xs, z⟩
      · exact un.keep b o e z (fun m => (List.not_mem_nil (show b ∈ ([] : List Addr) from m)).elim) (by simp)
      · have old := (ok b _ z).1
        have new := (ok' b _ (un.frzs b ob _ z)).1
        exact new.trans (old.symm.trans e)
  have rv := vals_ints hi
  by_cases hk : K.lookup a = none
  · let S : Obj := { cls := .type "list", data := .seq vs.toArray }
    let H : Hp := fun b => if b = a then some (.frz S (.lst (ns.map V.int))) else none
    have at' : H a = some (.frz S (.lst (ns.map V.int))) := if_pos rfl
    have off : ∀ b, b ≠ a → H b = none := fun b n => if_neg n
    refine main H (fun b => ?_) (.inl (.inr ⟨S, at'⟩)) (fun b u z => ?_) (fun b z => ?_) fun _ => hk
    · by_cases q : b = a
      · exact .inr ⟨_, _, q ▸ at'⟩
      · exact .inl (off b q)
    · by_cases q : b = a
      · subst q
        obtain rfl := Option.some.inj (at'.symm.trans z)
        exact ⟨ha, by rw [List.length_map]; exact hl, vs, _, rv, ha⟩
      · cases (off b q).symm.trans z
    · by_cases q : b = a
      · exact q
      · exact absurd (off b q) z
  · obtain ⟨o, e⟩ := Option.ne_none_iff_exists'.mp hk
    obtain rfl := Option.some.inj ((KX a o e).symm.trans ha)
    refine main (fun _ => none) (fun _ => .inl rfl) (.inr ⟨_, vs.toArray, _, e, rfl, rfl, rfl, ?_, ?_⟩)
      (fun b u z => nomatch (show (none : Option HO) = some u from z)) (fun b z => absurd rfl z) fun z => absurd rfl z
    · rw [List.size_toArray, hi.length]
      exact hl
    · simpa using rv

theorem walkG {l : PySem.W.OpenLaw} {n k : Nat} {q : Program} {loose : List Str}
    {XP : (Str → Option Value) → Heap → Prop} {YP : World → Heap → Prop} {d : DefRec}
    {K : Params → PySem.W.Frag} {CX : World → CXT} {sp : World → Sp} {x : Str}
    (hn : l.most = some n) (hn2 : n ≤ sizeLine) (hdf : d.params.defaults = []) (hr : Room k callerA)
    (hY : ∀ (w : World) (h : Heap), YP w h → (K w.params).In h)
    (F : ∀ (w : World) (mg : Str → Option Value) (fa : Addr) (h : Heap), (K w.params).In h →
      h.Ns mainGlobals mg → mg d.name = some (.ref fa) →
      ∃ fd : FuncData, (∀ (s : Shared) (u : Value), BindsTo s fd ⟨[u], []⟩ [(x, u)]) ∧
        ∀ base : Heap, (K w.params).In base → base.Ns mainGlobals mg →
          FnG l.prog w (K w.params) mg base (CX w) k fa fd [x] (sp w))
    (hsp : ∀ (w : World) (H : Hp) (a : Addr) (ns : List Int), ns.length ≤ n → Only H →
      SqL (K w.params) H a (ns.map V.int) → sp w [.ref a] H (fun v _ => v = .bl true) E0)
    (hCX : ∀ (w : World) (H : Hp) (s : Shared) (e : Value) (s' : Shared), CX w [] H s E0 e s' → False) :
    PySem.W.WalkO q loose XP YP l.row.toRowW d [] (fun f vs => PySem.call f vs) := by
  apply Att.attach_call hn hdf
  intro w s₀ s₁ mg mb fa o pm cd doc a vs ns G Y _ _ _ hmg hobj hints hlen hg
  obtain ⟨fd, hb, hF⟩ := F w mg fa _ (hY w _ Y) G.T.g hmg
  exact entG (hY w _ Y) G.T.g G.T.b G.T.builtins G.T.nolimit hg hobj hints (Nat.le_trans hlen hn2) hr hF hb
    (fun H hO hS => hsp w H a ns hlen hO hS) (fun H e s' => hCX w H s₁ e s')
end Nd
namespace Nd
open PySem PySem.Spec PyProof.Rows L2
/-! ### repr of data -/
mutual
theorem noDict {K : PySem.W.Frag} {H : Hp} : ∀ {d : PyData} {v : V}, Dp K H v d → d.hasDict = false
  | .none, _, _ => rfl
  | .bool _, _, _ => rfl
  | .int _, _, _ => rfl
  | .str _, _, _ => rfl
  | .list ds, _, h => by
    cases h with
    | lst _ ha => simpa [PyData.hasDict] using noDicts ha
  | .tuple ds, _, h => by
    cases h with
    | tup _ ha => simpa [PyData.hasDict] using noDicts ha
  | .dict _, _, h => by cases h
theorem noDicts {K : PySem.W.Frag} {H : Hp} : ∀ {ds : List PyData} {vs : List V}, DpAll K H vs ds → PyData.hasDictAll ds = false
  | [], _, _ => rfl
  | d :: ds, _, h => by
    cases h with
    | cons h1 h2 => simp [PyData.hasDictAll, noDict h1, noDicts h2]
end
def rRepr (K : PySem.W.Frag) : List V → Hp → VK → Prop := fun vs H Q => ∃ (v : V) (d : PyData), vs = [v] ∧
  Dp K H v d ∧ d.showable = true ∧ d.depth ≤ 60 ∧ d.shown.length ≤ sizeLine ∧ Q (.str d.shown) H
theorem repr_leaf_bool {P : Program} {w : World} {A : Around} {E : Value → Shared → Prop} {s : Shared} {b : Bool} {Q : Value → Shared → Prop}
    (h : Q (.str (PyData.bool b).shown s.toks) { s with toks := s.toks + 1 }) : wpAny (model P w) A (call (.builtin "repr") [.bool b]) Q E s := by
  refine PySem.P.repr_of_bool ?_
  rw [PyData.shown_bool] at h
  exact h
theorem cr_repr {X : Cx} (hG : X.A.guards = some []) {k : Nat} (hr : Room k X.A) : CallR X (.builtin "repr") (rRepr X.K) := by
  intro pins s σ H xs us Q I r h
  obtain ⟨v, d, rfl, hd, hs, hdep, hz, q⟩ := h
  obtain ⟨u, rfl, ru⟩ := vals1 r
  have nd := noDict hd
  obtain ⟨as, rd⟩ := Dp.reads I d v u hd ru
  have fin : ∀ t tk, EP X pins σ Q (.str d.shown t) { s with toks := tk } := fun t tk => ⟨.str d.shown, H, I.tok tk, ⟨t, rfl⟩, q⟩
  cases hd with
  | non =>
    cases ru
    refine P.repr_of_none ?_
    have e := fin s.toks (s.toks + 1)
    rw [PyData.shown_none] at e
    exact e
  | bl b =>
    cases ru
    exact repr_leaf_bool (fin _ _)
  | int i =>
    obtain ⟨t, rfl⟩ := ru
    refine P.repr_of_int (by simpa [PyData.showable] using hs) ?_
    have e := fin s.toks (s.toks + 1)
    rw [PyData.shown_int] at e
    exact e
  | str x =>
    obtain ⟨t, rfl⟩ := ru
    rw [PyData.shown_str] at hz
    refine P.repr_of_str ?_ hz
    have e := fin s.toks (s.toks + 1)
    rw [PyData.shown_str] at e
    exact e
  | lst hl ha =>
    cases ru
    exact repr_of_reads' rd hs (fun e => by rw [nd] at e; cases e) hG (by have := hr.un; omega) (fun _ _ e => e)
      (fun h' t tk keep => ⟨.str _, H, I.kept keep, ⟨t, rfl⟩, q⟩) hz
  | tup hl ha =>
    cases ru
    exact repr_of_reads' rd hs (fun e => by rw [nd] at e; cases e) hG (by have := hr.un; omega) (fun _ _ e => e)
      (fun h' t tk keep => ⟨.str _, H, I.kept keep, ⟨t, rfl⟩, q⟩) hz
end Nd

namespace Nd
open PySem PySem.Spec PyProof.Rows L2
section
variable {P : Program} {w : World} {K : PySem.W.Frag} {mg : Str → Option Value} {base : Heap}
/-- a def out of which no exception comes -/
theorem okG0 {x qual : Str} {st : Stmt} {f : Addr} {fd : FuncData} {N ps : List Str}
    {k : Nat} {sp : Sp} (F : Fun K x qual st f fd) (S : FnScope N ps (defScope st))
    (many : ∀ vs H Q E, sp vs H Q E → vs.length = ps.length)
    (body : ∀ (cdv : Value) (A : Around) (fr : List Env) (s : Shared) (H : Hp) (vs : List V) (Q : VK) (E : XK),
      (cxOf CX0 P w K mg base N qual (defScope st) f cdv A fr s H E).nox.A.guards = some [] →
      Room k (cxOf CX0 P w K mg base N qual (defScope st) f cdv A fr s H E).nox.A → sp vs H Q E →
      ∃ t, PSs (cxOf CX0 P w K mg base N qual (defScope st) f cdv A fr s H E).nox (defBody st) t ∧
        t { nx := fun _ H' => Q .non H', rt := Q } (start N vs) H) :
    FnG P w K mg base CX0 (k + 1) f fd ps sp := by
  refine okG F S many fun cdv A fr s H vs Q E hG hr h => ?_
  obtain ⟨t, h1, h2⟩ := body cdv A fr s H vs Q E hG hr h
  exact ⟨t, h1.nox, h2⟩
/-- what a caller knows of a def -/
structure Cal (P : Program) (w : World) (K : PySem.W.Frag) (mg : Str → Option Value) (base : Heap) (CX : CXT) (k : Nat) (x : Str) (sp : Sp) : Prop where
  ex : ∃ (f : Addr) (fd : FuncData) (ps : List Str), FnG P w K mg base CX k f fd ps sp ∧ mg x = some (.ref f) ∧
    PySem.W.keepIn K (.ref f) = true ∧ Binds K fd ps []
end
theorem pe_f {X : Cx} {CX : CXT} {k : Nat} {x : Str} {sp : Sp} {E : XK} {p pos : Pos} {e : Expr} {es : List Expr} {t : TA}
    (c : Cal X.prog X.w X.K X.mg X.base CX k x sp) (hG : X.A.guards = some []) (hr : Room k X.A) (hg : Gl X x) (hx : Passes CX X E)
    (ha : PA X (e :: es) t) (hdb : (x == ("__debug__" : Str)) = false := by decide)
    (he : starEach (e :: es) X.env = (false, eval e X.env) :: starEach es X.env := by rfl)
    (hpl : (backTo pos (starEach es X.env)).any (·.1) = false := by rfl) :
    PE X (.Call (.Name x p) (e :: es) [] pos) (tCall sp [] E t) := by
  obtain ⟨f, fd, ps, F, hm, hk, hb⟩ := c.ex
  exact pe_callG F hG hr hg hm hk hb .nil hx ha hdb he hpl
end Nd
namespace Nd
open PySem PySem.Spec PyProof.Rows L2
/-! ### what a law draws from: a list of its numbers, a place, a rest -/
/-- all that was tracked stays, but the one at r, a list whose first item stays -/
structure Gr (r : Addr) (H H' : Hp) : Prop where
  all : ∀ b o, b ≠ r → H b = some o → H' b = some o
  own : ∀ c t, H r = some (.lst (.ref c :: t)) → ∃ t', H' r = some (.lst (.ref c :: t'))
instance {r : Addr} {H H' : Hp} : CoeFun (Gr r H H') (fun _ => ∀ b o, b ≠ r → H b = some o → H' b = some o) := ⟨fun g => g.all⟩
theorem Gr.rfl' {r : Addr} {H : Hp} : Gr r H H := ⟨fun _ _ _ e => e, fun _ t e => ⟨t, e⟩⟩
theorem Gr.trans {r : Addr} {H H1 H2 : Hp} (a : Gr r H H1) (b : Gr r H1 H2) : Gr r H H2 := ⟨fun c o n e => b.all c o n (a.all c o n e), fun c t e => by
  obtain ⟨t1, e1⟩ := a.own c t e
  exact b.own c t1 e1⟩
theorem Gr.same {r : Addr} {H H' : Hp} (a : Same H H') : Gr r H H' := ⟨fun c o _ e => a c o e, fun c t e => ⟨t, a _ _ e⟩⟩
theorem Gr.new {r p : Addr} {H : Hp} {o : HO} (h : H p = none) : Gr r H (upd H p o) := Gr.same fun b u e => by
  rw [upd_ne (ne_of_none e h)]
  exact e
theorem Gr.put {r c : Addr} {H : Hp} {t t' : List V} (h : H r = some (.lst (.ref c :: t))) : Gr r H (upd H r (.lst (.ref c :: t'))) := ⟨fun b u n e => by
  rw [upd_ne n]
  exact e, fun c' _ e => by
  rw [h] at e
  cases e
  exact ⟨t', upd_same⟩⟩
theorem Same.new {p : Addr} {H : Hp} {o : HO} (h : H p = none) : Same H (upd H p o) := fun b u e => by
  rw [upd_ne (ne_of_none e h)]
  exact e
structure Rid (r : Addr) (n : Nat) (H : Hp) : Prop where
  ex : ∃ (c : Addr) (ns : List Int) (a z : Int), r ≠ c ∧ H r = some (.lst [.ref c, .int a, .int z]) ∧
    H c = some (.lst (ns.map V.int)) ∧ ns.length ≤ 60 ∧ 0 ≤ a ∧ a ≤ n ∧ 0 ≤ z
theorem Rid.mono {r : Addr} {n m : Nat} {H : Hp} (h : Rid r n H) (l : n ≤ m) : Rid r m H := by
  obtain ⟨c, ns, a, z, h1, h2, h3, h4, h5, h6, h7⟩ := h.ex
  exact ⟨c, ns, a, z, h1, h2, h3, h4, h5, by omega, h7⟩
theorem Rid.same {r : Addr} {n : Nat} {H H' : Hp} (h : Rid r n H) (s : Same H H') : Rid r n H' := by
  obtain ⟨c, ns, a, z, h1, h2, h3, h4⟩ := h.ex
  exact ⟨c, ns, a, z, h1, s _ _ h2, s _ _ h3, h4⟩
theorem Rid.new {r p : Addr} {n : Nat} {H : Hp} {o : HO} (h : Rid r n H) (hp : H p = none) : Rid r n (upd H p o) := h.same (Same.new hp)
/-- as Rid, and neither list of it is D -/
structure RidN (D r : Addr) (n : Nat) (H : Hp) : Prop where
  rid : Rid r n H
  ne : D ≠ r
  off : ∀ c t, H r = some (.lst (.ref c :: t)) → c ≠ D
theorem Rid.newN {D r : Addr} {n : Nat} {H : Hp} {o : HO} (h : Rid r n H) (hD : H D = none) : RidN D r n (upd H D o) := by
  obtain ⟨c, ns, a, z, h1, h2, h3, h4⟩ := h.ex
  have n1 : r ≠ D := ne_of_none h2 hD
  refine ⟨h.new hD, n1.symm, fun c' t e => ?_⟩
  rw [upd_ne n1, h2] at e
  cases e
  exact ne_of_none h3 hD
theorem RidN.gr {D r : Addr} {n m : Nat} {H H' : Hp} (h : RidN D r n H) (g : Gr r H H') (k : Rid r m H') : RidN D r m H' := by
  refine ⟨k, h.ne, fun c t e => ?_⟩
  obtain ⟨c0, ns, a, z, h1, h2, h3, h4⟩ := h.rid.ex
  obtain ⟨t', e'⟩ := g.own _ _ h2
  rw [e'] at e
  cases e
  exact h.off _ _ h2
theorem RidN.put {D r : Addr} {n : Nat} {H : Hp} {o : HO} (h : RidN D r n H) : RidN D r n (upd H D o) := by
  obtain ⟨c, ns, a, z, h1, h2, h3, h4⟩ := h.rid.ex
  have n1 : r ≠ D := h.ne.symm
  refine ⟨⟨c, ns, a, z, h1, (upd_ne n1).trans h2, (upd_ne (h.off _ _ h2)).trans h3, h4⟩, h.ne, fun c' t e => ?_⟩
  rw [upd_ne n1] at e
  exact h.off _ _ e
theorem RidN.same {D r : Addr} {n : Nat} {H H' : Hp} (h : RidN D r n H) (s : Same H H') : RidN D r n H' := h.gr (Gr.same s) (h.rid.same s)
def spDraw : Sp := fun vs H Q _ => ∃ (r : Addr) (n : Nat) (many : Int), vs = [.ref r, .int many] ∧ Rid r n H ∧ n < 1000000 ∧
  0 < many ∧ many < 1073741824 ∧ ∀ H' v, Gr r H H' → Rid r (n + 1) H' → 0 ≤ v → v < many → Q (.int v) H'
def spPick : Sp := fun vs H Q _ => ∃ (r l : Addr) (n : Nat) (xs : List V), vs = [.ref r, .ref l] ∧ Rid r n H ∧ n < 1000000 ∧
  l ≠ r ∧ H l = some (.lst xs) ∧ 0 < xs.length ∧ xs.length < 1000 ∧ ∀ H' v, Gr r H H' → Rid r (n + 1) H' → v ∈ xs → Q v H'
end Nd

namespace Nd
open PySem PySem.Spec PyProof.Rows L2
theorem dpInts {K : PySem.W.Frag} {H : Hp} : ∀ ns : List Int, DpAll K H (ns.map V.int) (ns.map PyData.int)
  | [] => .nil
  | n :: ns => .cons (.int n) (dpInts ns)
theorem canInts : ∀ ns : List Int, PyData.canLayAll0 (ns.map PyData.int) = true
  | [] => by simp only [List.map_nil, PyData.canLayAll0]
  | n :: ns => by simp only [List.map_cons, PyData.canLayAll0, PyData.canLay0, canInts ns, Bool.and_self]
theorem depInts : ∀ ns : List Int, PyData.depthAll (ns.map PyData.int) = 0
  | [] => by simp only [List.map_nil, PyData.depthAll]
  | n :: ns => by simp only [List.map_cons, PyData.depthAll, PyData.depth, depInts ns, Nat.max_self]
theorem shInts (ns : List Int) : SeqAt.shaped (.list (ns.map PyData.int)) = true := by
  simp [SeqAt.shaped, PyData.canLay0, PyData.depth, canInts ns, depInts ns]
theorem shNil : SeqAt.shaped (.list []) = true := by
  simp [SeqAt.shaped, PyData.canLay0, PyData.depth, PyData.canLayAll0, PyData.depthAll]
theorem eqvNil (ns : List Int) : PyData.eqv (.list (ns.map PyData.int)) (.list []) = ns.isEmpty := by
  cases ns with
  | nil => simp only [List.map_nil, PyData.eqv, PyData.eqvAll, List.isEmpty_nil]
  | cons n ns => simp only [List.map_cons, PyData.eqv, PyData.eqvAll, List.isEmpty_cons]
theorem atInts {ns : List Int} {i : Int} (h0 : 0 ≤ i) (h1 : i < ns.length) : ∃ v, ns[i.toNat]? = some v ∧ atI (ns.map V.int) i = some (V.int v) := by
  obtain ⟨j, rfl⟩ := Int.eq_ofNat_of_zero_le h0
  have hj : j < ns.length := by omega
  refine ⟨ns[j], by simp [hj], ?_⟩
  exact atI_nat (by simp [hj])
theorem mixBig {u a k l m : Int} (u0 : 0 ≤ u) (u1 : u < 2147483648) (a0 : 0 ≤ a) (a1 : a ≤ 1000000) (k0 : 0 ≤ k) (k1 : k < 1000000)
    (l0 : 0 ≤ l) (l1 : l < 1000000) (m0 : 0 ≤ m) (m1 : m < 1000000) : (u * (2 * a + k) + l * a * a + m).natAbs < 2 ^ 64 := by
  have h1 : u * (2 * a + k) ≤ 2147483648 * 3000000 := Int.mul_le_mul (by omega) (by omega) (by omega) (by omega)
  have h2 : l * a ≤ 1000000 * 1000000 := Int.mul_le_mul (by omega) (by omega) (by omega) (by omega)
  have h3 : 0 ≤ l * a := Int.mul_nonneg l0 a0
  have h4 : l * a * a ≤ 1000000000000 * 1000000 := Int.mul_le_mul (by omega) (by omega) (by omega) (by omega)
  have h5 : 0 ≤ u * (2 * a + k) := Int.mul_nonneg u0 (by omega)
  have h6 : 0 ≤ l * a * a := Int.mul_nonneg h3 a0
  omega
def spRiddle (K : PySem.W.Frag) : Sp := fun vs H Q _ => ∃ (a : Addr) (ns : List Int), vs = [.ref a] ∧ SqL K H a (ns.map V.int) ∧ ns.length ≤ 63 ∧
  ∀ H' r, Same H H' → H r = none → Rid r 0 H' → Q (.ref r) H'
end Nd


namespace Nd
open PySem PySem.Spec PyProof.Rows L2
/-! ### readings, a step each -/
theorem k_seq {t u : TS} {nx bk ct : L2.St → Hp → Prop} {rt : VK} {σ : L2.St} {H : Hp} (h : t (Ends.mk (u (Ends.mk nx rt bk ct)) rt bk ct) σ H) :
    tSeq t u (Ends.mk nx rt bk ct) σ H := h
theorem k_next {nx bk ct : L2.St → Hp → Prop} {rt : VK} {σ : L2.St} {H : Hp} (h : nx σ H) :
    tNext (Ends.mk nx rt bk ct) σ H := h
theorem k_brk {nx bk ct : L2.St → Hp → Prop} {rt : VK} {σ : L2.St} {H : Hp} (h : bk σ H) :
    tBreak (Ends.mk nx rt bk ct) σ H := h
theorem k_cont {nx bk ct : L2.St → Hp → Prop} {rt : VK} {σ : L2.St} {H : Hp} (h : ct σ H) :
    tCont (Ends.mk nx rt bk ct) σ H := h
theorem k_drop {te : TE} {nx bk ct : L2.St → Hp → Prop} {rt : VK} {σ : L2.St} {H : Hp} (h : te σ H fun _ H1 => nx σ H1) :
    tDrop te (Ends.mk nx rt bk ct) σ H := h
theorem k_ret {te : TE} {nx bk ct : L2.St → Hp → Prop} {rt : VK} {σ : L2.St} {H : Hp} (h : te σ H rt) :
    tRet te (Ends.mk nx rt bk ct) σ H := h
theorem k_retN {nx bk ct : L2.St → Hp → Prop} {rt : VK} {σ : L2.St} {H : Hp} (h : rt .non H) :
    tRetN (Ends.mk nx rt bk ct) σ H := h
theorem k_if {c : TT} {t u : TS} {D : Ends} {σ : L2.St} {H : Hp} (h : c σ H fun b H1 => if b = true then t D σ H1 else u D σ H1) :
    tIfS c t u D σ H := h
theorem k_asg {te : TE} {g : TG} {nx bk ct : L2.St → Hp → Prop} {rt : VK} {σ : L2.St} {H : Hp} (h : te σ H fun x H1 => g x σ H1 nx) :
    tAsg te g (Ends.mk nx rt bk ct) σ H := h
theorem k_gname {i : Nat} {v : V} {σ : L2.St} {H : Hp} {Q : L2.St → Hp → Prop} (h : Q (σ.set i (some v)) H) :
    gName i v σ H Q := h
theorem k_gsub {to ti : TE} {t : TSet} {v : V} {σ : L2.St} {H : Hp} {Q : L2.St → Hp → Prop} (h : to σ H fun o H1 => ti σ H1 fun i H2 => t o i v H2 fun H3 => Q σ H3) :
    gSub to ti t v σ H Q := h
theorem k_gtup {K : PySem.W.Frag} {n : Nat} {t : TGs} {a : Addr} {xs : List V} {σ : L2.St} {H : Hp} {Q : L2.St → Hp → Prop} (h1 : SqT K H a xs) (h2 : xs.length = n) (h : t xs σ H Q) :
    gTup K n t (.ref a) σ H Q := ⟨a, xs, rfl, h1, h2, h⟩
theorem k_gunl {K : PySem.W.Frag} {n : Nat} {t : TGs} {a : Addr} {xs : List V} {σ : L2.St} {H : Hp} {Q : L2.St → Hp → Prop} (h1 : SqL K H a xs) (h2 : xs.length = n) (h : t xs σ H Q) :
    gUnl K n t (.ref a) σ H Q := ⟨a, xs, rfl, h1, h2, h⟩
theorem k_gcons {t : TG} {u : TGs} {v : V} {vs : List V} {σ : L2.St} {H : Hp} {Q : L2.St → Hp → Prop} (h : t v σ H fun σ1 H1 => u vs σ1 H1 Q) :
    gCons t u (v :: vs) σ H Q := ⟨v, vs, rfl, h⟩
theorem k_gnil {σ : L2.St} {H : Hp} {Q : L2.St → Hp → Prop} (h : Q σ H) :
    gNil [] σ H Q := ⟨rfl, h⟩
theorem k_par {i j : Nat} {ta : TA} {nx bk ct : L2.St → Hp → Prop} {rt : VK} {σ : L2.St} {H : Hp} (h : ta σ H fun vs H1 => ∃ v w, vs = [v, w] ∧ nx ((σ.set i (some v)).set j (some w)) H1) :
    tPar i j ta (Ends.mk nx rt bk ct) σ H := h
theorem k_par3 {i j l : Nat} {ta : TA} {nx bk ct : L2.St → Hp → Prop} {rt : VK} {σ : L2.St} {H : Hp} (h : ta σ H fun vs H1 => ∃ u v w, vs = [u, v, w] ∧ nx (((σ.set i (some u)).set j (some v)).set l (some w)) H1) :
    tPar3 i j l ta (Ends.mk nx rt bk ct) σ H := h
theorem k_aug {i : Nat} {te : TE} {ti : TIp} {x : V} {nx bk ct : L2.St → Hp → Prop} {rt : VK} {σ : L2.St} {H : Hp} (hx : σ[i]? = some (some x)) (h : te σ H fun y H1 => ti x y H1 fun z H2 => nx (σ.set i (some z)) H2) :
    tAug i te ti (Ends.mk nx rt bk ct) σ H := ⟨x, hx, h⟩
theorem k_var {i : Nat} {v : V} {σ : L2.St} {H : Hp} {Q : VK} (h : σ[i]? = some (some v)) (q : Q v H) :
    tVar i σ H Q := ⟨v, h, q⟩
theorem k_c {v : V} {σ : L2.St} {H : Hp} {Q : VK} (q : Q v H) :
    tC v σ H Q := q
theorem k_op {r : R2} {ta tb : TE} {σ : L2.St} {H : Hp} {Q : VK} (h : ta σ H fun x H1 => tb σ H1 fun y H2 => r x y H2 Q) :
    tOp r ta tb σ H Q := h
theorem k_un {r : V → Hp → VK → Prop} {ta : TE} {σ : L2.St} {H : Hp} {Q : VK} (h : ta σ H fun x H1 => r x H1 Q) :
    tUn r ta σ H Q := h
theorem k_I0 {g : Int → Int → V} {i j : Int} {H : Hp} {Q : VK} (h : Q (g i j) H) :
    rI0 g (.int i) (.int j) H Q := ⟨i, j, rfl, rfl, h⟩
theorem k_I {C : Int → Int → Prop} {g : Int → Int → V} {i j : Int} {H : Hp} {Q : VK} (c : C i j) (h : Q (g i j) H) :
    rI C g (.int i) (.int j) H Q := ⟨i, j, rfl, rfl, c, h⟩
theorem k_U {g : Int → V} {i : Int} {H : Hp} {Q : VK} (h : Q (g i) H) :
    rU g (.int i) H Q := ⟨i, rfl, h⟩
theorem k_eq {x y : V} {H : Hp} {Q : VK} (c : scal x y = true) (h : Q (.bl (decide (x = y))) H) :
    rEq x y H Q := ⟨c, h⟩
theorem k_ne {x y : V} {H : Hp} {Q : VK} (c : scal x y = true) (h : Q (.bl (!decide (x = y))) H) :
    rNe x y H Q := ⟨c, h⟩
theorem k_cb {r : List V → Hp → VK → Prop} {t : TA} {σ : L2.St} {H : Hp} {Q : VK} (h : t σ H fun vs H1 => r vs H1 Q) :
    tCB r t σ H Q := h
theorem k_call {sp : Sp} {dvs : List V} {E : XK} {t : TA} {σ : L2.St} {H : Hp} {Q : VK} (h : t σ H fun vs H1 => sp (vs ++ dvs) H1 Q E) :
    tCall sp dvs E t σ H Q := h
theorem k_nil {σ : L2.St} {H : Hp} {Q : List V → Hp → Prop} (h : Q [] H) :
    tNil σ H Q := h
theorem k_cons {ta : TE} {tr : TA} {σ : L2.St} {H : Hp} {Q : List V → Hp → Prop} (h : ta σ H fun x H1 => tr σ H1 fun xs H2 => Q (x :: xs) H2) :
    tCons ta tr σ H Q := h
theorem k_tup {t : TA} {σ : L2.St} {H : Hp} {Q : VK} (h : t σ H fun xs H1 => xs.length ≤ sizeLine ∧ ∀ p, H1 p = none → Q (.ref p) (upd H1 p (.tup xs))) :
    tTup t σ H Q := h
theorem k_lst {t : TA} {σ : L2.St} {H : Hp} {Q : VK} (h : t σ H fun xs H1 => xs.length ≤ sizeLine ∧ ∀ p, H1 p = none → Q (.ref p) (upd H1 p (.lst xs))) :
    tLst t σ H Q := h
theorem k_ife {t : TT} {ta tb : TE} {σ : L2.St} {H : Hp} {Q : VK} (h : t σ H fun c H1 => if c = true then ta σ H1 Q else tb σ H1 Q) :
    tIf t ta tb σ H Q := h
theorem k_andV {ta tb : TE} {σ : L2.St} {H : Hp} {Q : VK} (h : ta σ H fun x H1 => ∃ c, x = .bl c ∧ if c = true then tb σ H1 Q else Q (.bl false) H1) :
    tAndV ta tb σ H Q := h
theorem k_orV {ta tb : TE} {σ : L2.St} {H : Hp} {Q : VK} (h : ta σ H fun x H1 => ∃ c, x = .bl c ∧ if c = true then Q (.bl true) H1 else tb σ H1 Q) :
    tOrV ta tb σ H Q := h
theorem k_notV {ta : TE} {σ : L2.St} {H : Hp} {Q : VK} (h : ta σ H fun x H1 => ∃ c, x = .bl c ∧ Q (.bl (!c)) H1) :
    tNotV ta σ H Q := h
theorem k_tB {t : TE} {σ : L2.St} {H : Hp} {Q : Bool → Hp → Prop} (h : t σ H fun x H1 => ∃ c, x = .bl c ∧ Q c H1) :
    tB t σ H Q := h
theorem k_test {t : TE} {σ : L2.St} {H : Hp} {Q : Bool → Hp → Prop} (h : t σ H fun x H1 => ∃ c, x = .bl c ∧ Q c H1) :
    tTest t σ H Q := h
theorem k_tAnd {t u : TT} {σ : L2.St} {H : Hp} {Q : Bool → Hp → Prop} (h : t σ H fun c H1 => if c = true then u σ H1 Q else Q false H1) :
    tAnd t u σ H Q := h
theorem k_tOr {t u : TT} {σ : L2.St} {H : Hp} {Q : Bool → Hp → Prop} (h : t σ H fun c H1 => if c = true then Q true H1 else u σ H1 Q) :
    tOr t u σ H Q := h
theorem k_tNot {t : TT} {σ : L2.St} {H : Hp} {Q : Bool → Hp → Prop} (h : t σ H fun c H1 => Q (!c) H1) :
    tNot t σ H Q := h
theorem k_tYes {σ : L2.St} {H : Hp} {Q : Bool → Hp → Prop} (h : Q true H) :
    tYes σ H Q := h
theorem k_ixL {K : PySem.W.Frag} {p : Addr} {xs : List V} {i : Int} {v : V} {H : Hp} {Q : VK} (h : SqL K H p xs) (ha : atI xs i = some v) (q : Q v H) :
    rIxL K (.ref p) (.int i) H Q := ⟨p, xs, i, v, rfl, rfl, h, ha, q⟩
theorem k_ixT {K : PySem.W.Frag} {p : Addr} {xs : List V} {i : Int} {v : V} {H : Hp} {Q : VK} (h : SqT K H p xs) (ha : atI xs i = some v) (q : Q v H) :
    rIxT K (.ref p) (.int i) H Q := ⟨p, xs, i, v, rfl, rfl, h, ha, q⟩
theorem k_setL {p : Addr} {xs : List V} {k : Int} {j : Nat} {v : V} {H : Hp} {Q : Hp → Prop} (h : H p = some (.lst xs)) (hj : ixN xs.length k = some j) (q : Q (upd H p (.lst (xs.set j v)))) :
    rSetL (.ref p) (.int k) v H Q := ⟨p, xs, k, j, rfl, rfl, h, hj, q⟩
theorem k_sl {r : V → Option Int → Option Int → Hp → VK → Prop} {te : TE} {tl th : TO} {σ : L2.St} {H : Hp} {Q : VK} (h : te σ H fun x H1 => tl σ H1 fun l H2 => th σ H2 fun u H3 => r x l u H3 Q) :
    tSl r te tl th σ H Q := h
theorem k_noPart {σ : L2.St} {H : Hp} {Q : Option Int → Hp → Prop} (h : Q none H) :
    tNoPart σ H Q := h
theorem k_part {t : TE} {σ : L2.St} {H : Hp} {Q : Option Int → Hp → Prop} (h : t σ H fun x H1 => ∃ i, x = .int i ∧ Q (some i) H1) :
    tPart t σ H Q := h
theorem k_slL {K : PySem.W.Frag} {a : Addr} {xs : List V} {lo hi : Option Int} {H : Hp} {Q : VK} (h : SqL K H a xs) (q : ∀ p, H p = none → Q (.ref p) (upd H p (.lst (cutV xs lo hi)))) :
    rSlL K (.ref a) lo hi H Q := ⟨a, xs, rfl, h, q⟩
theorem k_cat {l b : Addr} {xs zs : List V} {H : Hp} {Q : VK} (h1 : H l = some (.lst xs)) (h2 : H b = some (.lst zs)) (h3 : xs.length + zs.length ≤ sizeLine) (q : ∀ p, H p = none → Q (.ref p) (upd H p (.lst (xs ++ zs)))) :
    rCat (.ref l) (.ref b) H Q := ⟨l, b, xs, zs, rfl, rfl, h1, h2, h3, q⟩
theorem k_bm {K : PySem.W.Frag} {T : String} {r : V → List V → Hp → VK → Prop} {to : TE} {t : TA} {σ : L2.St} {H : Hp} {Q : VK} (h : to σ H fun x H1 => tyV K T x H1 ∧ t σ H1 fun xs H2 => r x xs H2 Q) :
    tBM K T r to t σ H Q := h
theorem k_app {l : Addr} {xs : List V} {y : V} {H : Hp} {Q : VK} (h : H l = some (.lst xs)) (hz : xs.length < sizeLine) (q : Q .non (upd H l (.lst (xs ++ [y])))) :
    rAppend (.ref l) [y] H Q := ⟨l, xs, y, rfl, rfl, h, hz, q⟩
theorem k_eqD {K : PySem.W.Frag} {x y : V} {d e : PyData} {H : Hp} {Q : VK} (h1 : Dp K H x d) (h2 : Dp K H y e) (s1 : SeqAt.shaped d = true) (s2 : SeqAt.shaped e = true) (q : Q (.bl (PyData.eqv d e)) H) :
    rEqD K x y H Q := ⟨d, e, h1, h2, s1, s2, q⟩
theorem k_neD {K : PySem.W.Frag} {x y : V} {d e : PyData} {H : Hp} {Q : VK} (h1 : Dp K H x d) (h2 : Dp K H y e) (s1 : SeqAt.shaped d = true) (s2 : SeqAt.shaped e = true) (q : Q (.bl (!PyData.eqv d e)) H) :
    rNeD K x y H Q := ⟨d, e, h1, h2, s1, s2, q⟩
theorem k_repr {K : PySem.W.Frag} {v : V} {d : PyData} {H : Hp} {Q : VK} (h : Dp K H v d) (h1 : d.showable = true) (h2 : d.depth ≤ 60) (h3 : d.shown.length ≤ sizeLine) (q : Q (.str d.shown) H) :
    rRepr K [v] H Q := ⟨v, d, rfl, h, h1, h2, h3, q⟩
theorem k_gcd {a b : Int} {H : Hp} {Q : VK} (q : Q (.int ((Nat.gcd a.natAbs b.natAbs : Nat) : Int)) H) :
    rGcd [.int a, .int b] H Q := ⟨a, b, rfl, q⟩
theorem k_rt {nx bk ct : L2.St → Hp → Prop} {rt : VK} {v : V} {H : Hp} (h : rt v H) :
    (Ends.mk nx rt bk ct).rt v H := h
theorem k_nx {nx bk ct : L2.St → Hp → Prop} {rt : VK} {σ : L2.St} {H : Hp} (h : nx σ H) :
    (Ends.mk nx rt bk ct).nx σ H := h
theorem k_bk {nx bk ct : L2.St → Hp → Prop} {rt : VK} {σ : L2.St} {H : Hp} (h : bk σ H) :
    (Ends.mk nx rt bk ct).bk σ H := h
theorem k_ct {nx bk ct : L2.St → Hp → Prop} {rt : VK} {σ : L2.St} {H : Hp} (h : ct σ H) :
    (Ends.mk nx rt bk ct).ct σ H := h
end Nd

namespace Nd
open PySem PySem.Spec PyProof.Rows L2
/-! ### comprehensions whose items are plain values: which turns give (f), and what (v) -/
def given (n : Nat) (f : Nat → Bool) (v : Nat → V) : List V := ((List.range n).filter f).map v
theorem given_so {n : Nat} {f : Nat → Bool} {v : Nat → V} (h : f n = true) : given (n + 1) f v = given n f v ++ [v n] := by
  simp [given, List.range_succ, List.filter_append, h]
theorem given_not {n : Nat} {f : Nat → Bool} {v : Nat → V} (h : f n = false) : given (n + 1) f v = given n f v := by
  simp [given, List.range_succ, List.filter_append, h]
theorem given_len (n : Nat) (f : Nat → Bool) (v : Nat → V) : (given n f v).length ≤ n := by
  unfold given
  rw [List.length_map]
  exact Nat.le_trans (List.length_filter_le _ _) (by rw [List.length_range]; exact Nat.le_refl _)
theorem given_all {n : Nat} {v : Nat → V} {xs : List V} (hn : xs.length = n) (h : ∀ i x, xs[i]? = some x → v i = x) : given n (fun _ => true) v = xs := by
  apply List.ext_getElem?
  intro i
  unfold given
  rw [List.filter_eq_self.mpr (by intros; rfl), List.getElem?_map]
  by_cases hi : i < n
  · rw [List.getElem?_range hi]
    have : xs[i]? = some xs[i] := by simp [hn ▸ hi]
    rw [this]
    exact congrArg some (h i _ this)
  · rw [List.getElem?_eq_none (by simpa using hi), List.getElem?_eq_none (by omega)]
    rfl
/-- D is new: what was before stays, D holds what is given so far -/
def Cw (H1 : Hp) (f : Nat → Bool) (v : Nat → V) (D : Addr) (i : Nat) (H : Hp) : Prop := Same H1 H ∧ H D = some (.lst (given i f v))
theorem cw_start {H1 : Hp} {f : Nat → Bool} {v : Nat → V} {D : Addr} (hD : H1 D = none) : Cw H1 f v D 0 (upd H1 D (.lst [])) := ⟨Same.new hD, upd_same⟩
theorem cw_step {H1 H3 H4 : Hp} {f : Nat → Bool} {v : Nat → V} {D : Addr} {i : Nat} (hD : H1 D = none) (s : Same H1 H3) (e : H3 D = some (.lst (given i f v))) (s4 : Same H3 H4)
    (hi : i ≤ 100000) (hf : f i = true) : ∃ acc, H4 D = some (.lst acc) ∧ acc.length < sizeLine ∧ Cw H1 f v D (i + 1) (upd H4 D (.lst (acc ++ [v i]))) := by
  refine ⟨given i f v, s4 _ _ e, Nat.lt_of_le_of_lt (Nat.le_trans (given_len i f v) hi) (by decide), fun b o z => ?_, ?_⟩
  · rw [upd_ne (ne_of_none z hD)]
    exact s4 _ _ (s _ _ z)
  · rw [given_so hf]
    exact upd_same
/-- the turns of a comprehension, over what J walks -/
def LcIn (J : It) (g : TG) (tt : TT) (te : TE) (vs : List Nat) (σ : L2.St) (H1 : Hp) (Q : VK) : Prop := tLc (fun _ H R => R J H) g tt te vs σ H1 Q
theorem k_lc {wi : TI} {g : TG} {tt : TT} {te : TE} {vs : List Nat} {σ : L2.St} {H : Hp} {Q : VK} (h : wi σ H fun J H1 => LcIn J g tt te vs σ H1 Q) :
    tLc wi g tt te vs σ H Q := h
theorem k_iList {K : PySem.W.Frag} {tl : TE} {σ : L2.St} {H : Hp} {R : It → Hp → Prop} (h : tl σ H fun x H1 => ∃ a, x = .ref a ∧ (∃ xs, SqL K H1 a xs) ∧ R (Itl K a) H1) :
    iList K tl σ H R := h
theorem k_iTup {K : PySem.W.Frag} {tl : TE} {σ : L2.St} {H : Hp} {R : It → Hp → Prop} (h : tl σ H fun x H1 => ∃ a, x = .ref a ∧ (∃ xs, SqT K H1 a xs) ∧ R (Itt K a) H1) :
    iTup K tl σ H R := h
theorem k_iR1 {ta : TA} {σ : L2.St} {H : Hp} {R : It → Hp → Prop} (h : ta σ H fun vs H1 => ∃ j : Int, vs = [.int j] ∧ -(2 ^ 62) ≤ j ∧ j < 2 ^ 62 ∧ R (Itr 0 j.toNat) H1) :
    iRng1 ta σ H R := h
theorem k_iR2 {ta : TA} {σ : L2.St} {H : Hp} {R : It → Hp → Prop}
    (h : ta σ H fun vs H1 => ∃ i j : Int, vs = [.int i, .int j] ∧ (-(2 ^ 62) ≤ i ∧ i < 2 ^ 62 ∧ -(2 ^ 62) ≤ j ∧ j < 2 ^ 62) ∧ R (Itr i (j - i).toNat) H1) : iRng2 ta σ H R := h
/-- one turn: the test, then the item, whatever follows -/
def Turn (tt : TT) (te : TE) (σ : L2.St) (H : Hp) (b : Bool) (y : V) : Prop :=
  (∀ QT : Bool → Hp → Prop, (∀ H3, Same H H3 → QT b H3) → tt σ H QT) ∧ (b = true → ∀ H3, Same H H3 → ∀ QE : VK, (∀ H4, Same H3 H4 → QE y H4) → te σ H3 QE)
theorem cw_turn {tt : TT} {te : TE} {σ2 σ : L2.St} {vs : List Nat} {H1 H : Hp} {f : Nat → Bool} {v : Nat → V} {D : Addr} {i : Nat} (hD : H1 D = none) (p : Cw H1 f v D i H) (hi : i ≤ 100000)
    (hw : wipe σ2 vs = wipe σ vs) (t : Turn tt te σ2 H (f i) (v i)) : wipe σ2 vs = wipe σ vs ∧ tt σ2 H fun b H3 =>
      if b = true then te σ2 H3 fun y H4 => ∃ acc, H4 D = some (.lst acc) ∧ acc.length < sizeLine ∧ Cw H1 f v D (i + 1) (upd H4 D (.lst (acc ++ [y]))) else Cw H1 f v D (i + 1) H3 := by
  refine ⟨hw, t.1 _ fun H3 s3 => ?_⟩
  cases hf : f i with
  | true =>
    rw [if_pos rfl]
    exact t.2 hf H3 s3 _ fun H4 s4 => cw_step hD (p.1.trans s3) (s3 _ _ p.2) s4 hi hf
  | false =>
    rw [if_neg (by decide)]
    refine ⟨p.1.trans s3, ?_⟩
    rw [given_not hf]
    exact s3 _ _ p.2
theorem lcIn_L {K : PySem.W.Frag} {a : Addr} {xs : List V} {j : Nat} {tt : TT} {te : TE} {vs : List Nat} {σ : L2.St} {H1 : Hp} {Q : VK} (f : Nat → Bool) (v : Nat → V)
    (hx : SqL K H1 a xs) (hz : xs.length ≤ 100000) (hw : ∀ x, wipe ((wipe σ vs).set j (some x)) vs = wipe σ vs)
    (step : ∀ i x H2, xs[i]? = some x → Same H1 H2 → Turn tt te ((wipe σ vs).set j (some x)) H2 (f i) (v i))
    (fin : ∀ p H', H1 p = none → Same H1 H' → H' p = some (.lst (given xs.length f v)) → Q (.ref p) H') : LcIn (Itl K a) (gName j) tt te vs σ H1 Q := fun D hD =>
  lc_list (xs := xs) (Cw H1 f v D) (cw_start hD) (fun i H' _ p => p.1.seq hx) (fun i x H' hi p =>
    cw_turn hD p (by have := (List.getElem?_eq_some_iff.mp hi).1; omega) (hw x) (step i x H' hi p.1)) (fun H' p => fin D H' hD p.1 p.2)
theorem Same.seqT {K : PySem.W.Frag} {H H' : Hp} {a : Addr} {xs : List V} (e : Same H H') (h : SqT K H a xs) : SqT K H' a xs := by
  rcases h with (h | ⟨o, h⟩) | h
  · exact .inl (.inl (e _ _ h))
  · exact .inl (.inr ⟨o, e _ _ h⟩)
  · exact .inr h
theorem lcIn_T {K : PySem.W.Frag} {a : Addr} {xs : List V} {j : Nat} {tt : TT} {te : TE} {vs : List Nat} {σ : L2.St} {H1 : Hp} {Q : VK} (f : Nat → Bool) (v : Nat → V)
    (hx : SqT K H1 a xs) (hz : xs.length ≤ 100000) (hw : ∀ x, wipe ((wipe σ vs).set j (some x)) vs = wipe σ vs)
    (step : ∀ i x H2, xs[i]? = some x → Same H1 H2 → Turn tt te ((wipe σ vs).set j (some x)) H2 (f i) (v i))
    (fin : ∀ p H', H1 p = none → Same H1 H' → H' p = some (.lst (given xs.length f v)) → Q (.ref p) H') : LcIn (Itt K a) (gName j) tt te vs σ H1 Q := fun D hD =>
  lc_tup (xs := xs) (Cw H1 f v D) (cw_start hD) (fun i H' _ p => Same.seqT p.1 hx) (fun i x H' hi p =>
    cw_turn hD p (by have := (List.getElem?_eq_some_iff.mp hi).1; omega) (hw x) (step i x H' hi p.1)) (fun H' p => fin D H' hD p.1 p.2)
theorem lcIn_R {lo : Int} {n : Nat} {j : Nat} {tt : TT} {te : TE} {vs : List Nat} {σ : L2.St} {H1 : Hp} {Q : VK} (f : Nat → Bool) (v : Nat → V)
    (hz : n ≤ 100000) (hw : ∀ x, wipe ((wipe σ vs).set j (some x)) vs = wipe σ vs)
    (step : ∀ i H2, i < n → Same H1 H2 → Turn tt te ((wipe σ vs).set j (some (.int (lo + i)))) H2 (f i) (v i))
    (fin : ∀ p H', H1 p = none → Same H1 H' → H' p = some (.lst (given n f v)) → Q (.ref p) H') : LcIn (Itr lo n) (gName j) tt te vs σ H1 Q := fun D hD =>
  lc_range (lo := lo) (n := n) (Cw H1 f v D) (cw_start hD) (fun i H' hi p => cw_turn hD p (by omega) (hw _) (step i H' hi p.1)) (fun H' p => fin D H' hD p.1 p.2)
theorem k_new {H : Hp} {o : HO} {Q : Addr → Hp → Prop} (h : ∀ p H', H p = none → Same H H' → H' p = some o → Q p H') : ∀ p, H p = none → Q p (upd H p o) :=
  fun p hp => h p _ hp (Same.new hp) upd_same
theorem k_while {c : TT} {tb : TS} {nx bk ct : L2.St → Hp → Prop} {rt : VK} {σ : L2.St} {H : Hp} (W : Nat → L2.St → Hp → Prop) (m0 : Nat) (h0 : W m0 σ H)
    (hs : ∀ m σ H, W m σ H → c σ H fun b H1 => if b = true then ∃ N : L2.St → Hp → Prop, (∀ σ' H', N σ' H' → ∃ m', m' < m ∧ W m' σ' H') ∧
      tb (Ends.mk N rt nx N) σ H1 else nx σ H1) : tWhile c tb (Ends.mk nx rt bk ct) σ H := ⟨W, ⟨m0, h0⟩, hs⟩
theorem upd_facts {H H' : Hp} {p : Addr} {o : HO} (e : upd H p o = H') (h : H p = none) : Same H H' ∧ H' p = some o := e ▸ ⟨Same.new h, upd_same⟩
theorem Rid.ne {r p : Addr} {n : Nat} {H : Hp} (R : Rid r n H) (h : H p = none) : p ≠ r := by
  obtain ⟨c, ns, a, z, _, h2, _⟩ := R.ex
  exact fun e => by rw [e, h2] at h; cases h
/-- new for a heap is new for what it came from -/
theorem Gr.ne {r p : Addr} {H H' : Hp} {a : Addr} {o : HO} (g : Gr r H H') (n : a ≠ r) (e : H a = some o) (h : H' p = none) : a ≠ p := fun z => by
  rw [← z, g _ _ n e] at h
  cases h
theorem k_disp1 {i j : Nat} {k : Int} {v : V} {σ : L2.St} {H : Hp} {Q : VK} (h1 : σ[i]? = some (some (.int k))) (h2 : σ[j]? = some (some v))
    (q : ∀ p H', H p = none → Same H H' → H' p = some (.dK [(.inl k, v)]) → Q (.ref p) H') : tDisp [(tVar i, tVar j)] σ H Q := fun p hp => by
  refine ⟨_, h1, _, h2, ?_⟩
  refine ⟨upd_same, [(.inl k, v)], rfl, by simp, ?_⟩
  refine q p _ hp ?_ upd_same
  rw [upd_upd]
  exact Same.new hp
end Nd

namespace Nd
open PySem PySem.Spec PyProof.Rows L2
/-! ### data that stands apart from r -/
def keyD : Key → PyData
  | .inl i => .int i
  | .inr x => .str x
mutual
inductive Dr (r : Addr) (H : Hp) : V → PyData → Prop
  | non : Dr r H .non .none
  | bl (b : Bool) : Dr r H (.bl b) (.bool b)
  | int (i : Int) : Dr r H (.int i) (.int i)
  | str (x : Str) : Dr r H (.str x) (.str x)
  | lst {a : Addr} {xs : List V} {ds : List PyData} : a ≠ r → H a = some (.lst xs) → DrAll r H xs ds → Dr r H (.ref a) (.list ds)
  | tup {a : Addr} {xs : List V} {ds : List PyData} : a ≠ r → H a = some (.tup xs) → DrAll r H xs ds → Dr r H (.ref a) (.tuple ds)
  | dct {a : Addr} {kvs : List (Key × V)} {ds : List PyData} : a ≠ r → H a = some (.dK kvs) → DrAll r H (kvs.map (·.2)) ds →
      Dr r H (.ref a) (.dict ((kvs.map fun kv => keyD kv.1).zip ds))
inductive DrAll (r : Addr) (H : Hp) : List V → List PyData → Prop
  | nil : DrAll r H [] []
  | cons {v : V} {vs : List V} {d : PyData} {ds : List PyData} : Dr r H v d → DrAll r H vs ds → DrAll r H (v :: vs) (d :: ds)
end
mutual
theorem Dr.gr {r : Addr} {H H' : Hp} (g : Gr r H H') : ∀ {v : V} {d : PyData}, Dr r H v d → Dr r H' v d
  | _, _, .non => .non
  | _, _, .bl b => .bl b
  | _, _, .int i => .int i
  | _, _, .str x => .str x
  | _, _, .lst n e h => .lst n (g _ _ n e) (DrAll.gr g h)
  | _, _, .tup n e h => .tup n (g _ _ n e) (DrAll.gr g h)
  | _, _, .dct n e h => .dct n (g _ _ n e) (DrAll.gr g h)
theorem DrAll.gr {r : Addr} {H H' : Hp} (g : Gr r H H') : ∀ {vs : List V} {ds : List PyData}, DrAll r H vs ds → DrAll r H' vs ds
  | _, _, .nil => .nil
  | _, _, .cons h t => .cons (Dr.gr g h) (DrAll.gr g t)
end
theorem Dr.same {r : Addr} {H H' : Hp} (s : Same H H') {v : V} {d : PyData} (h : Dr r H v d) : Dr r H' v d := h.gr (Gr.same s)
theorem DrAll.same {r : Addr} {H H' : Hp} (s : Same H H') {v : List V} {d : List PyData} (h : DrAll r H v d) : DrAll r H' v d := h.gr (Gr.same s)
theorem DrAll.length {r : Addr} {H : Hp} : ∀ {vs : List V} {ds : List PyData}, DrAll r H vs ds → vs.length = ds.length
  | _, _, .nil => rfl
  | _, _, .cons _ t => congrArg (· + 1) (DrAll.length t)
theorem DrAll.get {r : Addr} {H : Hp} : ∀ {vs : List V} {ds : List PyData} {i : Nat} {v : V}, DrAll r H vs ds → vs[i]? = some v → ∃ d, ds[i]? = some d ∧ Dr r H v d
  | _, _, 0, _, .cons h _, e => by cases e; exact ⟨_, rfl, h⟩
  | _, _, i + 1, _, .cons _ t, e => DrAll.get (i := i) t e
  | _, _, 0, _, .nil, e => nomatch e
  | _, _, _ + 1, _, .nil, e => nomatch e
theorem DrAll.mem {r : Addr} {H : Hp} : ∀ {vs : List V} {ds : List PyData} {v : V}, DrAll r H vs ds → v ∈ vs → ∃ d, d ∈ ds ∧ Dr r H v d
  | _, _, _, .nil, e => nomatch e
  | _, _, _, .cons h t, e => by
    rcases List.mem_cons.mp e with rfl | e
    · exact ⟨_, List.mem_cons_self, h⟩
    · obtain ⟨d, m, h2⟩ := DrAll.mem t e
      exact ⟨d, List.mem_cons_of_mem _ m, h2⟩
mutual
theorem Dr.dp {r : Addr} {H : Hp} {K : PySem.W.Frag} : ∀ {v : V} {d : PyData}, Dr r H v d → d.hasDict = false → Dp K H v d
  | _, _, .non, _ => .non
  | _, _, .bl b, _ => .bl b
  | _, _, .int i, _ => .int i
  | _, _, .str x, _ => .str x
  | _, _, .lst _ e h, z => .lst (.inl (.inl e)) (DrAll.dp h (by simpa [PyData.hasDict] using z))
  | _, _, .tup _ e h, z => .tup (.inl (.inl e)) (DrAll.dp h (by simpa [PyData.hasDict] using z))
  | _, _, .dct _ _ _, z => by simp [PyData.hasDict] at z
theorem DrAll.dp {r : Addr} {H : Hp} {K : PySem.W.Frag} : ∀ {vs : List V} {ds : List PyData}, DrAll r H vs ds → PyData.hasDictAll ds = false → DpAll K H vs ds
  | _, _, .nil, _ => .nil
  | _, _, .cons h t, z => by
    simp only [PyData.hasDictAll, Bool.or_eq_false_iff] at z
    exact .cons (Dr.dp h z.1) (DrAll.dp t z.2)
end
/-! ### types -/
def tyD : PyData → String
  | .none => "NoneType"
  | .bool _ => "bool"
  | .int _ => "int"
  | .str _ => "str"
  | .list _ => "list"
  | .tuple _ => "tuple"
  | .dict _ => "dict"
theorem Dr.ty {r : Addr} {H : Hp} {K : PySem.W.Frag} {v : V} {d : PyData} (h : Dr r H v d) : TyX K H v (.type (tyD d)) := by
  cases h with
  | non => exact .base .non
  | bl b => exact .base (.bl b)
  | int i => exact .base (.int i)
  | str x => exact .base (.str x)
  | lst n e _ => exact .base (.lst e)
  | tup n e _ => exact .base (.tup e)
  | dct n e _ => exact .base (.dK e)
def isD (c : String) (d : PyData) : Bool := tyD d == c || (c == "int" && tyD d == "bool")
def cls6 : List String := ["int", "bool", "str", "list", "tuple", "dict"]
def tys7 : List String := ["NoneType", "bool", "int", "str", "list", "tuple", "dict"]
theorem kit42 : (tys7.all fun t => cls6.all fun c => decide (kitB t c = some (t == c || (c == "int" && t == "bool")))) = true := by decide +kernel
theorem kitD {K : PySem.W.Frag} {c : String} (d : PyData) (hc : c ∈ cls6) : PySem.W.kitOne K (.type (tyD d)) (.type c) = some (isD c d) := by
  have h := List.all_eq_true.mp kit42 (tyD d) (by cases d <;> simp [tyD, tys7])
  exact kit_ty (of_decide_eq_true (List.all_eq_true.mp h c hc))
theorem k_isi {r : Addr} {K : PySem.W.Frag} {H : Hp} {v : V} {d : PyData} {c : String} {Q : VK} (h : Dr r H v d) (hc : c ∈ cls6) (q : Q (.bl (isD c d)) H) : rIsi K [v, .ty c] H Q :=
  ⟨v, .ty c, _, _, _, rfl, .ty c, h.ty, kitD d hc, q⟩
theorem k_isi2 {r p : Addr} {K : PySem.W.Frag} {H : Hp} {v : V} {d : PyData} {c e : String} {Q : VK} (h : Dr r H v d) (hp : H p = some (.tup [.ty c, .ty e])) (hc : c ∈ cls6) (he : e ∈ cls6)
    (q : Q (.bl (isD c d || isD e d)) H) : rIsiT K [v, .ref p] H Q := by
  refine ⟨v, p, _, _, _, _, rfl, hp, .cons (.ty c) (.cons (.ty e) .nil), h.ty, ?_, q⟩
  refine kitAny_cons (kitD d hc) (fun z => ?_) (fun z => by rw [z]; rfl)
  rw [z, Bool.false_or]
  exact kitAny_cons (kitD d he) (fun z => by rw [z]; exact kitAny_nil) (fun z => z)
/-! ### == of any list with an empty one; is not True -/
def rEqNil (K : PySem.W.Frag) : R2 := fun x y H Q => ∃ a b xs, x = .ref a ∧ y = .ref b ∧ SqL K H a xs ∧ SqL K H b [] ∧ Q (.bl xs.isEmpty) H
theorem op_eqNil {X : Cx} (hu : X.A.units + 64 < cLine) : OpR X (compareOp .Eq) (rEqNil X.K) := by
  intro pins s σ H x y v u Q I rx ry h
  obtain ⟨a, b, xs, rfl, rfl, ha, hb, q⟩ := h
  cases xs with
  | nil => exact op_eqD hu pins s σ H _ _ v u Q I rx ry ⟨_, _, .lst ha .nil, .lst hb .nil, shNil, shNil, by simpa [PyData.eqv, PyData.eqvAll] using q⟩
  | cons z zs =>
    cases rx
    cases ry
    obtain ⟨i1, r1, l1, _⟩ := I.list ha
    obtain ⟨i2, r2, l2, _⟩ := I.list hb
    cases r2
    cases r1
    exact SeqAt.eq_list_lengthsAt l1.isList l2.isList (by simp) (by omega) ⟨.bl false, H, I, rfl, q⟩
theorem k_eqNil {K : PySem.W.Frag} {a b : Addr} {xs : List V} {H : Hp} {Q : VK} (ha : SqL K H a xs) (hb : SqL K H b []) (q : Q (.bl xs.isEmpty) H) : rEqNil K (.ref a) (.ref b) H Q := ⟨a, b, xs, rfl, rfl, ha, hb, q⟩
def rNotBl : R2 := fun x y H Q => ∃ b : Bool, y = .bl b ∧ ((∃ i, x = .int i ∧ Q (.bl true) H) ∨ ∃ c, x = .bl c ∧ Q (.bl (!decide (c = b))) H)
theorem op_notBl2 {X : Cx} : OpR X (compareOp .IsNot) rNotBl := by
  intro pins s σ H x y v u Q I rx ry h
  obtain ⟨b, rfl, h⟩ := h
  cases ry
  rcases h with ⟨i, rfl, q⟩ | ⟨c, rfl, q⟩
  · obtain ⟨t, rfl⟩ := rx
    exact wpAny_isNot_other (by rfl) (fun e => nomatch e) ⟨.bl true, H, I, rfl, q⟩
  · cases rx
    by_cases e : c = b
    · subst e
      exact wpAny_isNot_self (by cases c <;> rfl) ⟨.bl false, H, I, rfl, by simpa using q⟩
    · exact wpAny_isNot_other (by cases c <;> rfl) (fun z => e (by injection z)) ⟨.bl true, H, I, rfl, by simpa [e] using q⟩
/-! ### what the program's own looks say of data -/
def ndInt : PyData → Bool
  | .int _ => true
  | _ => false
def itemsD : PyData → Option (List PyData)
  | .list xs => some xs
  | .tuple xs => some xs
  | _ => none
def areIntsD (d : PyData) (k : Int) : Bool := match itemsD d with
  | some xs => decide ((xs.length : Int) = k) && xs.all ndInt
  | none => false
def fracD (d : PyData) : Bool := match itemsD d with
  | some [.int u, .int w] => decide (0 < w) && decide (Nat.gcd u.natAbs w.natAbs = 1)
  | _ => false
def lowD (i : Int) : Option Int → Bool
  | none => true
  | some x => decide (x ≤ i)
def highD (i : Int) : Option Int → Bool
  | none => true
  | some x => decide (i ≤ x)
def withinD (d : PyData) (l m : Option Int) : Bool := match d with
  | .int i => lowD i l && highD i m
  | _ => false
def optV : Option Int → V
  | none => .non
  | some i => .int i
theorem isInt_eq (d : PyData) : (isD "int" d && !isD "bool" d) = ndInt d := by cases d <;> rfl
def spIsInt : Sp := fun vs H Q _ => ∃ (r : Addr) (v : V) (d : PyData), vs = [v] ∧ Dr r H v d ∧ ∀ H', Same H H' → Q (.bl (ndInt d)) H'
def spWithin : Sp := fun vs H Q _ => ∃ (r : Addr) (v : V) (d : PyData) (l m : Option Int), vs = [v, optV l, optV m] ∧ Dr r H v d ∧ ∀ H', Same H H' → Q (.bl (withinD d l m)) H'
def spAreInts : Sp := fun vs H Q _ => ∃ (r : Addr) (v : V) (d : PyData) (k : Int), vs = [v, .int k] ∧ Dr r H v d ∧ (∀ xs, itemsD d = some xs → xs.length ≤ 1000) ∧ ∀ H', Same H H' → Q (.bl (areIntsD d k)) H'
def spFrac : Sp := fun vs H Q _ => ∃ (r : Addr) (v : V) (d : PyData), vs = [v] ∧ Dr r H v d ∧ (∀ xs, itemsD d = some xs → xs.length ≤ 1000) ∧ ∀ H', Same H H' → Q (.bl (fracD d)) H'
theorem ndInt_int : ∀ {d : PyData}, ndInt d = true → ∃ i, d = .int i
  | .int i, _ => ⟨i, rfl⟩
theorem two_ints {d : PyData} (h : areIntsD d 2 = true) : ∃ u z, itemsD d = some [.int u, .int z] := by
  unfold areIntsD at h
  cases hi : itemsD d with
  | none => rw [hi] at h; cases h
  | some xs =>
    rw [hi] at h
    simp only [Bool.and_eq_true, decide_eq_true_eq] at h
    obtain ⟨h1, h2⟩ := h
    match xs, h1, h2 with
    | [x, y], _, h2 =>
      simp only [List.all_cons, List.all_nil, Bool.and_true, Bool.and_eq_true] at h2
      obtain ⟨i, rfl⟩ := ndInt_int h2.1
      obtain ⟨j, rfl⟩ := ndInt_int h2.2
      exact ⟨i, j, rfl⟩
    | [], h1, _ => exact absurd h1 (by decide)
    | [_], h1, _ => exact absurd h1 (by simp)
    | _ :: _ :: _ :: _, h1, _ =>
      simp only [List.length_cons] at h1
      omega
theorem frac_of {d : PyData} (h : fracD d = true) : ∃ u z, itemsD d = some [.int u, .int z] := by
  unfold fracD at h
  split at h
  · exact ⟨_, _, by assumption⟩
  · cases h
theorem fracD_no {d : PyData} (h : areIntsD d 2 = false) : fracD d = false := by
  cases hf : fracD d with
  | false => rfl
  | true =>
    obtain ⟨u, z, e⟩ := frac_of hf
    rw [areIntsD, e] at h
    exact absurd h (by simp [ndInt])
theorem gcd_one (a : Nat) : (((a : Nat) : Int) = 1) ↔ a = 1 := by omega
def spDiv : Sp := fun vs H Q _ => ∃ a b : Int, vs = [.int a, .int b] ∧ ∀ H', Same H H' → Q (.int ((Nat.gcd a.natAbs b.natAbs : Nat) : Int)) H'
theorem gcd_turn {x y : Nat} : Nat.gcd y (x % y) = Nat.gcd x y := by
  rw [Nat.gcd_comm x y, Nat.gcd_rec y x, Nat.gcd_comm]
theorem given_none {n : Nat} {f : Nat → Bool} {v : Nat → V} : (given n f v).isEmpty = (List.range n).all fun i => !f i := by
  unfold given
  rw [List.isEmpty_map]
  induction (List.range n) with
  | nil => rfl
  | cons a r ih =>
    rw [List.filter_cons, List.all_cons]
    cases f a with
    | true => rfl
    | false => simpa using ih
theorem all_range_ds {p : PyData → Bool} {ds : List PyData} : (List.range ds.length).all (fun i => p (ds.getD i .none)) = ds.all p := by
  induction ds with
  | nil => rfl
  | cons d ds ih =>
    rw [List.length_cons, List.range_succ_eq_map, List.all_cons, List.all_map, List.all_cons, ← ih]
    rfl
def spNum (k : Nat) (B : Nat) : Sp := fun vs H Q _ => ∃ (r : Addr) (n : Nat), vs = [.ref r] ∧ Rid r n H ∧ n + k < 1000000 ∧
  ∀ H' (i : Int), Gr r H H' → Rid r (n + k) H' → i.natAbs ≤ B → Q (.int i) H'
/-- data of some form -/
def spDat (k : Nat) (G : PyData → Prop) : Sp := fun vs H Q _ => ∃ (r : Addr) (n : Nat), vs = [.ref r] ∧ Rid r n H ∧ n + k < 1000000 ∧
  ∀ H' v d, Gr r H H' → Rid r (n + k) H' → Dr r H' v d → G d → Q v H'
end Nd

namespace Nd
open PySem PySem.Spec PyProof.Rows L2
/-! ### calls by names alone -/
def byIx (ix : List Nat) {α : Type} (l : List α) : List α := ix.filterMap fun i => l[i]?
theorem byIx_vals {zs : List V} {ws : List Value} (r : Vals zs ws) : ∀ ix : List Nat, Vals (byIx ix zs) (byIx ix ws)
  | [] => .nil
  | i :: ix => by
    unfold byIx
    rw [List.filterMap_cons, List.filterMap_cons]
    cases h : zs[i]? with
    | none =>
      rw [r.none_of h]
      exact byIx_vals r ix
    | some x =>
      obtain ⟨u, h1, h2⟩ := r.get h
      rw [h1]
      exact .cons h2 (byIx_vals r ix)
structure CalK (P : Program) (w : World) (K : PySem.W.Frag) (mg : Str → Option Value) (base : Heap) (CX : CXT) (k : Nat) (x : Str) (ks : List Str) (ix : List Nat) (sp : Sp) : Prop where
  ex : ∃ (f : Addr) (fd : FuncData) (ps : List Str), FnG P w K mg base CX k f fd ps sp ∧ mg x = some (.ref f) ∧ PySem.W.keepIn K (.ref f) = true ∧
    ∀ (s : Shared) (ws : List Value), ws.length = ks.length → BindsTo s fd ⟨[], ks.zip ws⟩ (ps.zip (byIx ix ws))
theorem kwBinds {K : PySem.W.Frag} {x qual : Str} {st : Stmt} {f : Addr} {fd : FuncData} {ps ks : List Str} {ix : List Nat} (F : Fun K x qual st f fd)
    (h : ∀ (kV doc pm : Value) (an : Option Addr) (cdv ct : Value) (ws : List Value), ws.length = ks.length →
      bindArgs (PySem.W.fnOf x qual (defArgs st) (defBody st) (defScope st) .none kV doc pm an cdv ct) ⟨[], ks.zip ws⟩ = pure (ps.zip (byIx ix ws))) :
    ∀ (s : Shared) (ws : List Value), ws.length = ks.length → BindsTo s fd ⟨[], ks.zip ws⟩ (ps.zip (byIx ix ws)) := by
  obtain ⟨oc, od, kV, doc, pm, an, cdv, ct, osl, rfl, lk, hcd⟩ := F.ex
  exact fun s ws hl => .of_eq (h kV doc pm an cdv ct ws hl)
def tKw (n : Nat) (ix : List Nat) (sp : Sp) (E : XK) (tk : TA) : TE := fun σ H Q => tk σ H fun zs H2 => zs.length = n ∧ sp (byIx ix zs) H2 Q E
theorem pe_kw {X : Cx} {CX : CXT} {k : Nat} {x : Str} {ks : List Str} {ix : List Nat} {sp : Sp} {E : XK} {p pos : Pos} {kws : List Keyword} {tk : TA}
    (c : CalK X.prog X.w X.K X.mg X.base CX k x ks ix sp) (hG : X.A.guards = some []) (hr : Room k X.A) (hg : Gl X x) (hx : Passes CX X E) (hkw : PK X kws tk)
    (hall : (backToKw pos (keywordEach kws X.env)).all (·.1.isSome) = true := by rfl) (hks : (backToKw pos (keywordEach kws X.env)).filterMap (·.1) = ks := by rfl) (hdb : (x == ("__debug__" : Str)) = false := by decide)
    (hpl : ((backTo pos (starEach [] X.env)).any (·.1) || (backToKw pos (keywordEach kws X.env)).any (·.1.isNone)) = false := by rfl) :
    PE X (.Call (.Name x p) [] kws pos) (tKw ks.length ix sp E tk) := by
  obtain ⟨f, fd, ps, F, hm, hk, hb⟩ := c.ex
  constructor
  intro pins s σ H Q I h
  apply wpAny_Call_Name_kw (ld_glob I hg hm ?_ hdb)
  apply PySem.W.callWith_KW0 (h₀ := X.base) I.ok.mod.kin hk hall ?_ hpl
  apply thn (hkw.run pos pins s σ H _ I h)
  rintro ws s2 ⟨zs, H2, I2, rz, l2, q2⟩
  refine ⟨I2.kIn, ?_⟩
  rw [hks]
  have run := F.go X.A X.stack s2 H2 ⟨[], ks.zip ws⟩ (byIx ix ws) (byIx ix zs) Q E hG hr I2.env0 (hb s2 ws (rz.length.symm.trans l2)) (byIx_vals rz ix) q2
  refine wpAny_call (codeAny_mono run ?_)
  rintro (e' | fl) s' hq
  · exact hx pins σ H2 s2 e' s' I2 hq
  · cases fl with
    | ret u => exact I2.after hq
    | next => exact hq.elim
    | brk => exact hq.elim
    | cont => exact hq.elim
theorem k_kw {n : Nat} {ix : List Nat} {sp : Sp} {E : XK} {tk : TA} {σ : L2.St} {H : Hp} {Q : VK} (h : tk σ H fun zs H2 => zs.length = n ∧ sp (byIx ix zs) H2 Q E) : tKw n ix sp E tk σ H Q := h
/-! ### for loops -/
def ForIn (J : It) (g : TG) (tb : TS) (D : Ends) (σ : L2.St) (H : Hp) : Prop := tFor (fun _ H R => R J H) g tb D σ H
theorem k_for {wi : TI} {g : TG} {tb : TS} {D : Ends} {σ : L2.St} {H : Hp} (h : wi σ H fun J H1 => ForIn J g tb D σ H1) : tFor wi g tb D σ H := h
theorem forIn_R {lo : Int} {n : Nat} {g : TG} {tb : TS} {nx bk ct : L2.St → Hp → Prop} {rt : VK} {σ : L2.St} {H : Hp} (Pv : Nat → L2.St → Hp → Prop) (h0 : Pv 0 σ H)
    (hs : ∀ i σ H, i < n → Pv i σ H → g (.int (lo + i)) σ H fun σ2 H2 => tb (Ends.mk (Pv (i + 1)) rt nx (Pv (i + 1))) σ2 H2)
    (hd : ∀ σ H, Pv n σ H → nx σ H) : ForIn (Itr lo n) g tb (Ends.mk nx rt bk ct) σ H := for_range (lo := lo) (n := n) Pv h0 hs hd
theorem forIn_L {K : PySem.W.Frag} {a : Addr} {xs : List V} {g : TG} {tb : TS} {nx bk ct : L2.St → Hp → Prop} {rt : VK} {σ : L2.St} {H : Hp} (Pv : Nat → L2.St → Hp → Prop) (h0 : Pv 0 σ H)
    (hl : ∀ i σ H, i ≤ xs.length → Pv i σ H → SqL K H a xs)
    (hs : ∀ i x σ H, xs[i]? = some x → Pv i σ H → g x σ H fun σ2 H2 => tb (Ends.mk (Pv (i + 1)) rt nx (Pv (i + 1))) σ2 H2)
    (hd : ∀ σ H, Pv xs.length σ H → nx σ H) : ForIn (Itl K a) g tb (Ends.mk nx rt bk ct) σ H := for_list (K := K) (a := a) (xs := xs) Pv h0 hl hs hd
/-! ### an expression, a test, by what it gives, once for all that follows -/
theorem k_cutE {te : TE} {σ : L2.St} {H : Hp} {Q : VK} (v : V) (h : ∀ Q' : VK, (∀ H', Same H H' → Q' v H') → te σ H Q') (k : ∀ H', Same H H' → Q v H') : te σ H Q := h Q k
theorem k_cutT {tt : TT} {σ : L2.St} {H : Hp} {Q : Bool → Hp → Prop} (b : Bool) (h : ∀ Q' : Bool → Hp → Prop, (∀ H', Same H H' → Q' b H') → tt σ H Q') (k : ∀ H', Same H H' → Q b H') : tt σ H Q := h Q k
theorem k_andV' {ta tb : TE} {σ : L2.St} {H : Hp} {Q : VK} (h : tAndV ta tb σ H Q) : tAndV ta tb σ H Q := h
theorem withinD_no {d : PyData} {l m : Option Int} (h : ndInt d = false) : withinD d l m = false := by cases d <;> first | rfl | cases h
end Nd

namespace Nd
open PySem PySem.Spec PyProof.Rows L2
/-! ### fractions -/
def fq (q : Rat) : PyData := .tuple [.int q.num, .int (q.den : Int)]
def Fr (r : Addr) (H : Hp) (v : V) (q : Rat) : Prop := ∃ a, v = .ref a ∧ a ≠ r ∧ H a = some (.tup [.int q.num, .int (q.den : Int)])
/-- a new one -/
def FrN (H H' : Hp) (v : V) (q : Rat) : Prop := ∃ a, v = .ref a ∧ H a = none ∧ H' a = some (.tup [.int q.num, .int (q.den : Int)])
theorem FrN.fr {r : Addr} {n : Nat} {H H' : Hp} {v : V} {q : Rat} (h : FrN H H' v q) (R : Rid r n H) : Fr r H' v q := by
  obtain ⟨a, h1, h2, h3⟩ := h
  exact ⟨a, h1, R.ne h2, h3⟩
theorem Fr.gr {r : Addr} {H H' : Hp} {v : V} {q : Rat} (h : Fr r H v q) (g : Gr r H H') : Fr r H' v q := by
  obtain ⟨a, h1, h2, h3⟩ := h
  exact ⟨a, h1, h2, g.all _ _ h2 h3⟩
theorem Fr.same {r : Addr} {H H' : Hp} {v : V} {q : Rat} (h : Fr r H v q) (s : Same H H') : Fr r H' v q := h.gr (Gr.same s)
theorem Fr.put {r D : Addr} {H : Hp} {xs ys : List V} {v : V} {q : Rat} (h : Fr r H v q) (hD : H D = some (.lst xs)) : Fr r (upd H D (.lst ys)) v q := by
  obtain ⟨a, h1, h2, h3⟩ := h
  refine ⟨a, h1, h2, ?_⟩
  rw [upd_ne]
  · exact h3
  · rintro rfl
    rw [hD] at h3
    cases h3
theorem Fr.dr {r : Addr} {H : Hp} {v : V} {q : Rat} (h : Fr r H v q) : Dr r H v (fq q) := by
  obtain ⟨a, rfl, h2, h3⟩ := h
  exact .tup h2 h3 (.cons (.int _) (.cons (.int _) .nil))
theorem Fr.dp {r : Addr} {H : Hp} {K : PySem.W.Frag} {v : V} {q : Rat} (h : Fr r H v q) : Dp K H v (fq q) := by
  obtain ⟨a, rfl, h2, h3⟩ := h
  exact .tup (.inl (.inl h3)) (.cons (.int _) (.cons (.int _) .nil))
theorem k_ix0 {K : PySem.W.Frag} {r : Addr} {v : V} {q : Rat} {H : Hp} {Q : VK} (h : Fr r H v q) (k : Q (.int q.num) H) : rIxT K v (.int 0) H Q := by
  obtain ⟨a, rfl, h2, h3⟩ := h
  exact k_ixT (.inl (.inl h3)) rfl k
theorem k_ix1 {K : PySem.W.Frag} {r : Addr} {v : V} {q : Rat} {H : Hp} {Q : VK} (h : Fr r H v q) (k : Q (.int (q.den : Int)) H) : rIxT K v (.int 1) H Q := by
  obtain ⟨a, rfl, h2, h3⟩ := h
  exact k_ixT (.inl (.inl h3)) rfl k
theorem fq_inj {p q : Rat} (h : p.num = q.num ∧ p.den = q.den) : p = q := Rat.ext h.1 h.2
theorem eqv_fq (p q : Rat) : PyData.eqv (fq p) (fq q) = decide (p = q) := by
  unfold fq
  simp only [PyData.eqv, PyData.eqvAll, Bool.and_true]
  by_cases h : p = q
  · subst h
    simp
  · rw [decide_eq_false h]
    rw [Bool.eq_false_iff]
    intro z
    simp only [Bool.and_eq_true, beq_iff_eq, decide_eq_true_eq] at z
    exact h (fq_inj ⟨z.1, by have := z.2; omega⟩)
theorem sh_fq (q : Rat) : SeqAt.shaped (fq q) = true := by
  simp [fq, SeqAt.shaped, PyData.canLay0, PyData.depth, PyData.canLayAll0, PyData.depthAll]
def Sz (n : Nat) (q : Rat) : Prop := q.num.natAbs < 2 ^ n ∧ q.den < 2 ^ n
theorem Sz.le {n m : Nat} {q : Rat} (h : Sz n q) (l : n ≤ m) : Sz m q := ⟨Nat.lt_of_lt_of_le h.1 (Nat.pow_le_pow_right (by decide) l), Nat.lt_of_lt_of_le h.2 (Nat.pow_le_pow_right (by decide) l)⟩
theorem sz_divInt {u w : Int} {n : Nat} (h0 : w ≠ 0) (hu : u.natAbs < 2 ^ n) (hw : w.natAbs < 2 ^ n) : Sz n (Rat.divInt u w) := by
  constructor
  · rw [Rat.num_divInt]
    have : (w.sign * u / (w.gcd u : Int)).natAbs ≤ u.natAbs := by
      rw [Int.natAbs_ediv_of_dvd]
      · refine Nat.le_trans (Nat.div_le_self _ _) ?_
        rw [Int.natAbs_mul, Int.natAbs_sign_of_ne_zero h0, Nat.one_mul]
        exact Nat.le_refl _
      · exact Int.dvd_mul_of_dvd_right (Int.gcd_dvd_right ..)
    omega
  · rw [Rat.den_divInt, if_neg h0]
    exact Nat.lt_of_le_of_lt (Nat.div_le_self _ _) hw
theorem lt_two {n : Nat} (a : Nat) (h : a < 2 ^ n) : (a : Int).natAbs < 2 ^ n := by rw [Int.natAbs_natCast]; exact h
theorem lt_add {i j : Int} {n : Nat} (hi : i.natAbs < 2 ^ n) (hj : j.natAbs < 2 ^ n) : (i + j).natAbs < 2 ^ (n + 1) := by
  rw [Nat.pow_succ]
  omega
theorem lt_sub {i j : Int} {n : Nat} (hi : i.natAbs < 2 ^ n) (hj : j.natAbs < 2 ^ n) : (i - j).natAbs < 2 ^ (n + 1) := by
  rw [Nat.pow_succ]
  omega
theorem add_divInt (p q : Rat) : p + q = Rat.divInt (p.num * q.den + q.num * p.den) ((p.den : Int) * q.den) := by
  rw [Rat.add_def', ← Rat.divInt_ofNat, Int.natCast_mul]
theorem sub_divInt (p q : Rat) : p - q = Rat.divInt (p.num * q.den - q.num * p.den) ((p.den : Int) * q.den) := by
  rw [Rat.sub_def', ← Rat.divInt_ofNat, Int.natCast_mul]
theorem mul_divInt (p q : Rat) : p * q = Rat.divInt (p.num * q.num) ((p.den : Int) * q.den) := by
  rw [Rat.mul_def', ← Rat.divInt_ofNat, Int.natCast_mul]
theorem den_ne (p q : Rat) : (p.den : Int) * q.den ≠ 0 := Int.mul_ne_zero (by have := p.den_nz; omega) (by have := q.den_nz; omega)
theorem up_lt {i : Int} {n m : Nat} (l : n ≤ m) (h : i.natAbs < 2 ^ n) : i.natAbs < 2 ^ m := Nat.lt_of_lt_of_le h (Nat.pow_le_pow_right (by decide) l)
theorem Sz.add {n m : Nat} {p q : Rat} (hp : Sz n p) (hq : Sz m q) : Sz (n + m + 1) (p + q) := by
  rw [add_divInt]
  refine sz_divInt (den_ne p q) (lt_add (wide_lt hp.1 (lt_two _ hq.2)) ?_) (up_lt (Nat.le_succ _) (wide_lt (lt_two _ hp.2) (lt_two _ hq.2)))
  rw [Nat.add_comm n m]
  exact wide_lt hq.1 (lt_two _ hp.2)
theorem Sz.sub {n m : Nat} {p q : Rat} (hp : Sz n p) (hq : Sz m q) : Sz (n + m + 1) (p - q) := by
  rw [sub_divInt]
  refine sz_divInt (den_ne p q) (lt_sub (wide_lt hp.1 (lt_two _ hq.2)) ?_) (up_lt (Nat.le_succ _) (wide_lt (lt_two _ hp.2) (lt_two _ hq.2)))
  rw [Nat.add_comm n m]
  exact wide_lt hq.1 (lt_two _ hp.2)
theorem Sz.mul {n m : Nat} {p q : Rat} (hp : Sz n p) (hq : Sz m q) : Sz (n + m + 1) (p * q) := by
  rw [mul_divInt]
  exact sz_divInt (den_ne p q) (up_lt (Nat.le_succ _) (wide_lt hp.1 hq.1)) (up_lt (Nat.le_succ _) (wide_lt (lt_two _ hp.2) (lt_two _ hq.2)))
/-! ### the program's reckoning -/
/-- // by any divisor but 0, below 2 ^ 9000 -/
theorem op_fdivZ {X : Cx} : OpR X (binaryOp .FloorDiv) (rI (fun _ j => j ≠ 0 ∧ j.natAbs.log2 < 9000) fun i j => .int (i.fdiv j)) := opI fun i j _ _ _ _ _ hc q =>
  floordiv_int hc.1 q (.inl (PyProof.noPylong_of_log2 hc.2))
def redG (u w : Int) : Int := if w < 0 then -((Nat.gcd u.natAbs w.natAbs : Nat) : Int) else ((Nat.gcd u.natAbs w.natAbs : Nat) : Int)
theorem gcd_le {u w : Int} (h : w ≠ 0) : 0 < Nat.gcd u.natAbs w.natAbs ∧ Nat.gcd u.natAbs w.natAbs ≤ w.natAbs := ⟨Nat.gcd_pos_of_pos_right _ (by omega), Nat.gcd_le_right _ (by omega)⟩
theorem redG_ok {u w : Int} {n : Nat} (h : w ≠ 0) (hw : w.natAbs < 2 ^ n) (h0 : 0 < n) (h9 : n ≤ 9000) : redG u w ≠ 0 ∧ (redG u w).natAbs.log2 < 9000 := by
  have := gcd_le (u := u) h
  unfold redG
  split
  · exact ⟨by omega, Nat.lt_of_lt_of_le (PySem.Flt.log2_lt_of h0 (Nat.lt_of_le_of_lt (by omega) hw)) h9⟩
  · exact ⟨by omega, Nat.lt_of_lt_of_le (PySem.Flt.log2_lt_of h0 (Nat.lt_of_le_of_lt (by omega) hw)) h9⟩
theorem red_up {u w : Int} (h : w ≠ 0) : u.fdiv (redG u w) = (Rat.divInt u w).num := by
  rw [Rat.num_divInt]
  have d : ((Nat.gcd u.natAbs w.natAbs : Nat) : Int) ∣ u := Int.ofNat_dvd_left.mpr (Nat.gcd_dvd_left _ _)
  have e : (w.gcd u : Int) = ((Nat.gcd u.natAbs w.natAbs : Nat) : Int) := by rw [Int.gcd_comm]; rfl
  rw [e]
  unfold redG
  split
  · rw [Int.fdiv_eq_ediv_of_dvd (Int.neg_dvd.mpr d), Int.ediv_neg, Int.sign_eq_neg_one_of_neg (by omega), Int.neg_mul, Int.one_mul, Int.neg_ediv_of_dvd d]
  · rw [Int.fdiv_eq_ediv_of_dvd d, Int.sign_eq_one_of_pos (by omega), Int.one_mul]
theorem red_down {u w : Int} (h : w ≠ 0) : w.fdiv (redG u w) = ((Rat.divInt u w).den : Int) := by
  rw [Rat.den_divInt, if_neg h]
  have d : ((Nat.gcd u.natAbs w.natAbs : Nat) : Int) ∣ w := Int.ofNat_dvd_left.mpr (Nat.gcd_dvd_right _ _)
  have e : w.gcd u = Nat.gcd u.natAbs w.natAbs := by rw [Int.gcd_comm]; rfl
  rw [e, Int.natCast_ediv]
  unfold redG
  split
  · rw [Int.fdiv_eq_ediv_of_dvd (Int.neg_dvd.mpr d), Int.ediv_neg, ← Int.neg_ediv_of_dvd d]
    congr 1
    omega
  · rw [Int.fdiv_eq_ediv_of_dvd d]
    congr 1
    omega
def spNeed : Sp := fun vs H Q _ => ∃ (r : Addr) (v x : V) (d : PyData) (l m : Option Int), vs = [v, x, optV l, optV m] ∧ Dr r H v d ∧ withinD d l m = true ∧ ∀ H', Same H H' → Q .non H'
def spRed : Sp := fun vs H Q _ => ∃ u w : Int, vs = [.int u, .int w] ∧ w ≠ 0 ∧ w.natAbs < 2 ^ 8000 ∧ ∀ H' v, Same H H' → FrN H H' v (Rat.divInt u w) → Q v H'
def spTwo : Sp := fun vs H Q _ => ∃ (r : Addr) (v w : V) (p q : Rat), vs = [v, w] ∧ Fr r H v p ∧ Fr r H w q ∧ ∀ H', Same H H' → Q .non H'
def spBin (f : Rat → Rat → Rat) : Sp := fun vs H Q _ => ∃ (r : Addr) (v w : V) (p q : Rat), vs = [v, w] ∧ Fr r H v p ∧ Fr r H w q ∧ Sz 3000 p ∧ Sz 3000 q ∧
  ∀ H' x, Same H H' → FrN H H' x (f p q) → Q x H'
def spBelow : Sp := fun vs H Q _ => ∃ (r : Addr) (v w : V) (p q : Rat), vs = [v, w] ∧ Fr r H v p ∧ Fr r H w q ∧ Sz 3000 p ∧ Sz 3000 q ∧ ∀ H', Same H H' → Q (.bl (decide (p < q))) H'
theorem FrN.from {H H1 H' : Hp} {v : V} {q : Rat} (s : Same H H1) (h : FrN H1 H' v q) : FrN H H' v q := by
  obtain ⟨a, h1, h2, h3⟩ := h
  refine ⟨a, h1, ?_, h3⟩
  cases e : H a with
  | none => rfl
  | some o =>
    rw [s _ _ e] at h2
    cases h2
theorem fracD_fq (q : Rat) : fracD (fq q) = true := by
  have h1 : (0 : Int) < (q.den : Int) := by have := q.den_nz; omega
  have h2 : Nat.gcd q.num.natAbs (q.den : Int).natAbs = 1 := by rw [Int.natAbs_natCast]; exact q.reduced
  show (decide (0 < (q.den : Int)) && decide (Nat.gcd q.num.natAbs (q.den : Int).natAbs = 1)) = true
  rw [decide_eq_true h1, decide_eq_true h2]
  rfl
theorem ite_f {b : Bool} {A B : Prop} (h : b = false) (k : B) : if b = true then A else B := by rw [h]; exact k
theorem ite_t {b : Bool} {A B : Prop} (h : b = true) (k : A) : if b = true then A else B := by rw [h]; exact k
/-- a list at p -/
def Ls (H : Hp) (p : Addr) (xs : List V) : Prop := H p = some (.lst xs)
theorem Ls.same {H H' : Hp} {p : Addr} {xs : List V} (h : Ls H p xs) (s : Same H H') : Ls H' p xs := s _ _ h
end Nd

namespace Nd
open PySem PySem.Spec PyProof.Rows L2
/-! ### a list of drawn things -/
theorem Gr.over {r D : Addr} {H H1 : Hp} {o : HO} (g : Gr r H H1) (hD : H D = none) : Gr r H (upd H1 D o) := by
  refine ⟨fun b u n e => ?_, fun c t e => ?_⟩
  · rw [upd_ne (ne_of_none e hD)]
    exact g.all _ _ n e
  · rw [upd_ne (ne_of_none e hD)]
    exact g.own _ _ e
theorem lcIn_draw {lo : Int} {n j : Nat} {te : TE} {vs : List Nat} {σ : L2.St} {H1 : Hp} {Q : VK} {r : Addr} {m k : Nat} (Pr : Hp → V → Prop)
    (hgr : ∀ H H' v, Gr r H H' → Pr H v → Pr H' v) (hput : ∀ H D xs ys v, H D = some (.lst xs) → Pr H v → Pr (upd H D (.lst ys)) v) (hz : n ≤ 100000) (hw : ∀ x, wipe ((wipe σ vs).set j (some x)) vs = wipe σ vs)
    (R : Rid r m H1)
    (step : ∀ i H2, i < n → Rid r (m + k * i) H2 → Gr r H1 H2 → ∀ QE : VK, (∀ H4 y, Gr r H2 H4 → Rid r (m + k * (i + 1)) H4 → Pr H4 y → QE y H4) → te ((wipe σ vs).set j (some (.int (lo + i)))) H2 QE)
    (fin : ∀ p H' ys, H1 p = none → Gr r H1 H' → Rid r (m + k * n) H' → p ≠ r → H' p = some (.lst ys) → ys.length = n → (∀ y ∈ ys, Pr H' y) → Q (.ref p) H') :
    LcIn (Itr lo n) (gName j) tYes te vs σ H1 Q := fun D hD =>
  lc_range (lo := lo) (n := n) (fun i H => RidN D r (m + k * i) H ∧ Gr r H1 H ∧ ∃ ys, H D = some (.lst ys) ∧ ys.length = i ∧ ∀ y ∈ ys, Pr H y)
    ⟨R.newN hD, Gr.rfl'.over hD, [], upd_same, rfl, fun y hy => nomatch hy⟩
    (fun i H' hi p => by
      obtain ⟨R1, g1, ys, e1, l1, a1⟩ := p
      refine ⟨hw _, ?_⟩
      refine k_tYes ?_
      rw [if_pos rfl]
      refine step i H' hi R1.rid g1 _ fun H4 y g4 R4 p4 => ?_
      have e4 := g4.all _ _ R1.ne e1
      refine ⟨ys, e4, Nat.lt_of_lt_of_le (Nat.lt_of_lt_of_le (by omega) hz) (by decide), ((R1.gr g4 R4).put), (g1.trans g4).over hD, ys ++ [y], upd_same, by rw [List.length_append, l1]; rfl, fun x hx => ?_⟩
      rw [List.mem_append] at hx
      rcases hx with hx | hx
      · exact hput _ _ _ _ _ e4 (hgr _ _ _ g4 (a1 x hx))
      · obtain rfl := List.mem_singleton.mp hx
        exact hput _ _ _ _ _ e4 p4)
    (fun H' p => by
      obtain ⟨R1, g1, ys, e1, l1, a1⟩ := p
      exact fin D H' ys hD g1 R1.rid R1.ne e1 l1 a1)
theorem given_no {n : Nat} {v : Nat → V} : given n (fun _ => false) v = [] := by
  unfold given
  rw [List.filter_eq_nil_iff.mpr (by intros; decide)]
  rfl
/-! ### xs.count(True), of truths -/
def eqB (b : Bool) (v : Value) : Bool := match v with
  | .bool c => c == b
  | _ => false
theorem eqB_at {b : Bool} {A : Around} {s : Shared} : ∀ {bs : List Bool} {us : List Value}, Vals (bs.map V.bl) us → ∀ y ∈ us, SeqAt.EqAt A s y (.bool b) (eqB b y)
  | [], us, h, y, hy => by
    rw [List.map_nil] at h
    cases h
    cases hy
  | c :: bs, us, h, y, hy => by
    rw [List.map_cons] at h
    cases h with
    | cons h1 h2 =>
      cases h1
      rcases List.mem_cons.mp hy with e | e
      · rw [e]
        exact SeqAt.EqAt.bool_bool c b
      · exact eqB_at h2 y e
theorem eqB_count {b : Bool} : ∀ {bs : List Bool} {us : List Value}, Vals (bs.map V.bl) us → us.countP (eqB b) = bs.count b
  | [], us, h => by
    rw [List.map_nil] at h
    cases h
    rfl
  | c :: bs, us, h => by
    rw [List.map_cons] at h
    cases h with
    | cons h1 h2 =>
      cases h1
      rw [List.countP_cons, List.count_cons, eqB_count h2] <;> rfl
def rCntB (K : PySem.W.Frag) : V → List V → Hp → VK → Prop := fun x xs H Q => ∃ (p : Addr) (bs : List Bool) (b : Bool), x = .ref p ∧ xs = [.bl b] ∧ SqL K H p (bs.map V.bl) ∧ Q (.int (bs.count b : Nat)) H
theorem mt_lcountB {X : Cx} : MtR X "list.count" (rCntB X.K) := by
  intro pins s σ H x xs v us Q I rx rxs h
  obtain ⟨p, bs, b, rfl, rfl, hs, q⟩ := h
  cases rx
  obtain ⟨u, rfl, ru⟩ := rxs.one
  cases ru
  obtain ⟨its, rv, ⟨⟨cls, dd, data, sl⟩, n, ho, hc, hdn, hd⟩, hlen⟩ := I.list hs
  simp only at hc hd
  subst hc hd
  refine call_meets PySem.F.slot_list_count ⟨_, ho, rfl⟩ PySem.F.entry_list_count (PySem.F.args_list_count_2 _ _)
    (SeqAt.list_countAt p its.toArray n dd sl (.bool b) (eqB b)) ⟨ho, fun y hy => eqB_at rv y (by simpa using hy), ?_⟩
  have ec : its.toArray.toList.countP (eqB b) = bs.count b := eqB_count rv
  refine ⟨.int (bs.count b : Nat), H, I.tok _, ⟨s.toks, ?_⟩, q⟩
  show Value.int ((its.toArray.toList.countP (eqB b) : Nat) : Int) s.toks = Value.int ((bs.count b : Nat) : Int) s.toks
  rw [ec]
theorem k_cntB {K : PySem.W.Frag} {p : Addr} {bs : List Bool} {b : Bool} {H : Hp} {Q : VK} (hs : SqL K H p (bs.map V.bl)) (q : Q (.int (bs.count b : Nat)) H) : rCntB K (.ref p) [.bl b] H Q := ⟨p, bs, b, rfl, rfl, hs, q⟩
/-! ### lists of fractions -/
theorem canFq (q : Rat) : PyData.canLay0 (fq q) = true := by
  simp [fq, PyData.canLay0, PyData.canLayAll0]
theorem canFqs : ∀ qs : List Rat, PyData.canLayAll0 (qs.map fq) = true
  | [] => by simp only [List.map_nil, PyData.canLayAll0]
  | q :: qs => by simp only [List.map_cons, PyData.canLayAll0, canFq q, canFqs qs, Bool.and_self]
theorem depFqs : ∀ qs : List Rat, PyData.depthAll (qs.map fq) ≤ 1
  | [] => by simp only [List.map_nil, PyData.depthAll]; omega
  | q :: qs => by
    simp only [List.map_cons, PyData.depthAll]
    have := depFqs qs
    have e : (fq q).depth = 1 := by simp [fq, PyData.depth, PyData.depthAll]
    omega
theorem sh_fqs (qs : List Rat) : SeqAt.shaped (.list (qs.map fq)) = true := by
  have h := depFqs qs
  simp only [SeqAt.shaped, PyData.canLay0, PyData.depth, canFqs qs, Bool.true_and, Bool.and_true]
  simp
  omega
theorem eqvs_fq : ∀ qs : List Rat, PyData.eqvAll (qs.map fq) (qs.map fq) = true
  | [] => by simp only [List.map_nil, PyData.eqvAll]
  | q :: qs => by
    simp only [List.map_cons, PyData.eqvAll, eqv_fq, eqvs_fq qs, decide_true, Bool.and_self]
theorem ne_lists {as bs : List Rat} (h : as = bs) : (!PyData.eqv (.list (as.map fq)) (.list (bs.map fq))) = false := by
  subst h
  simp only [PyData.eqv, eqvs_fq, Bool.not_true]
theorem ne_fq {p q : Rat} (h : p = q) : (!decide (p = q)) = false := by rw [decide_eq_true h]; rfl
theorem ne_bl {x y : Bool} (h : x = y) : (!decide (V.bl x = V.bl y)) = false := by subst h; simp
theorem Fr.two {r p : Addr} {H : Hp} {x y : Int} {q : Rat} (n : p ≠ r) (e : H p = some (.tup [.int x, .int y])) (h1 : x = q.num) (h2 : y = (q.den : Int)) : Fr r H (.ref p) q := ⟨p, rfl, n, by rw [e, h1, h2]⟩
theorem sz0 : Sz 1 0 := ⟨by decide, by decide⟩
theorem sz1 : Sz 1 1 := ⟨by decide, by decide⟩
theorem szm1 : Sz 1 (-1) := ⟨by decide, by decide⟩
theorem cnt3 (a b : Rat) : (([decide (a < b), decide (b < a), decide (a = b)].count true : Nat) : Int) = 1 := by
  by_cases h1 : a < b
  · have h2 : ¬ b < a := Rat.not_lt.mpr (Rat.le_of_lt h1)
    have h3 : a ≠ b := Rat.ne_of_lt h1
    simp [h1, h2, h3]
  · by_cases h2 : b < a
    · have h3 : a ≠ b := (Rat.ne_of_lt h2).symm
      simp [h1, h2, h3]
    · have h3 : a = b := Rat.le_antisymm (Rat.not_lt.mp h2) (Rat.not_lt.mp h1)
      simp [h1, h2, h3]
end Nd

local macro_rules | `(tactic| walk_at "nd") => `(tactic| (first
  | with_reducible refine Nd.k_cons ?_
  | with_reducible refine Nd.k_nil ?_
  | with_reducible refine Nd.k_op ?_
  | with_reducible refine Nd.k_c ?_
  | with_reducible refine Nd.k_call ?_
  | with_reducible refine Nd.k_cb ?_
  | with_reducible refine Nd.k_seq ?_
  | with_reducible refine Nd.k_next ?_
  | with_reducible refine Nd.k_ret ?_
  | with_reducible refine Nd.k_if ?_
  | with_reducible refine Nd.k_asg ?_
  | with_reducible refine Nd.k_I0 ?_
  | with_reducible refine Nd.k_U ?_
  | with_reducible refine Nd.k_un ?_
  | with_reducible refine Nd.k_drop ?_
  | with_reducible refine Nd.k_retN ?_
  | with_reducible refine Nd.k_brk ?_
  | with_reducible refine Nd.k_cont ?_
  | with_reducible refine Nd.k_gname ?_
  | with_reducible refine Nd.k_gsub ?_
  | with_reducible refine Nd.k_gcons ?_
  | with_reducible refine Nd.k_gnil ?_
  | with_reducible refine Nd.k_par ?_
  | with_reducible refine Nd.k_par3 ?_
  | with_reducible refine Nd.k_tup ?_
  | with_reducible refine Nd.k_lst ?_
  | with_reducible refine Nd.k_ife ?_
  | with_reducible refine Nd.k_andV ?_
  | with_reducible refine Nd.k_orV ?_
  | with_reducible refine Nd.k_notV ?_
  | with_reducible refine Nd.k_tB ?_
  | with_reducible refine Nd.k_test ?_
  | with_reducible refine Nd.k_tAnd ?_
  | with_reducible refine Nd.k_tOr ?_
  | with_reducible refine Nd.k_tNot ?_
  | with_reducible refine Nd.k_tYes ?_
  | with_reducible refine Nd.k_kw ?_
  | with_reducible refine Nd.k_for ?_
  | with_reducible refine Nd.k_lc ?_
  | with_reducible refine Nd.k_iList ?_
  | with_reducible refine Nd.k_iTup ?_
  | with_reducible refine Nd.k_iR1 ?_
  | with_reducible refine Nd.k_iR2 ?_
  | with_reducible refine Nd.k_sl ?_
  | with_reducible refine Nd.k_noPart ?_
  | with_reducible refine Nd.k_part ?_
  | with_reducible refine Nd.k_bm ?_
  | with_reducible refine Nd.k_gcd ?_
  | with_reducible refine Nd.k_tru ?_
  | with_reducible refine Nd.k_bits ?_
  | with_reducible refine Nd.k_dnewK ?_
  | with_reducible refine Nd.k_dget2 ?_
  | with_reducible refine Nd.k_dput ?_
  | with_reducible refine Nd.k_items ?_
  | with_reducible refine Nd.k_iEnum ?_
  | with_reducible refine Nd.k_iEnumT ?_
  | with_reducible refine Nd.k_iZipA ?_
  | focus ((with_reducible refine Nd.k_var (v := ?vv) ?hv ?hq); (case hv => exact rfl))
  | focus ((with_reducible refine Nd.k_aug (x := ?vv) ?hv ?hq); (case hv => exact rfl))
  | focus ((with_reducible refine Nd.k_eq ?hv ?hq); (case hv => exact rfl))
  | focus ((with_reducible refine Nd.k_ne ?hv ?hq); (case hv => exact rfl))
  | with_reducible refine ⟨rfl, ?_⟩
  | with_reducible refine ⟨_, rfl, ?_⟩
  | with_reducible refine ⟨_, _, rfl, ?_⟩
  | with_reducible refine ⟨_, _, _, rfl, ?_⟩
  | with_reducible refine Or.inl ⟨_, rfl, ?_⟩
  | with_reducible refine Or.inr ⟨_, rfl, ?_⟩
  | with_reducible refine Nd.k_nx ?_
  | with_reducible refine Nd.k_rt ?_
  | with_reducible refine Nd.k_bk ?_
  | with_reducible refine Nd.k_ct ?_))
local macro_rules | `(tactic| walk_at "go") => `(tactic| repeat (walk_at "nd"))
local macro_rules | `(tactic| walk_at "nd2") => `(tactic| (first
  | with_reducible refine Nd.k_cons ?_
  | with_reducible refine Nd.k_nil ?_
  | with_reducible refine Nd.k_op ?_
  | with_reducible refine Nd.k_c ?_
  | with_reducible refine Nd.k_call ?_
  | with_reducible refine Nd.k_cb ?_
  | with_reducible refine Nd.k_seq ?_
  | with_reducible refine Nd.k_next ?_
  | with_reducible refine Nd.k_ret ?_
  | with_reducible refine Nd.k_if ?_
  | with_reducible refine Nd.k_asg ?_
  | with_reducible refine Nd.k_I0 ?_
  | with_reducible refine Nd.k_U ?_
  | with_reducible refine Nd.k_un ?_
  | with_reducible refine Nd.k_drop ?_
  | with_reducible refine Nd.k_retN ?_
  | with_reducible refine Nd.k_brk ?_
  | with_reducible refine Nd.k_cont ?_
  | with_reducible refine Nd.k_gname ?_
  | with_reducible refine Nd.k_gsub ?_
  | with_reducible refine Nd.k_gcons ?_
  | with_reducible refine Nd.k_gnil ?_
  | with_reducible refine Nd.k_par ?_
  | with_reducible refine Nd.k_par3 ?_
  | with_reducible refine Nd.k_tup ?_
  | with_reducible refine Nd.k_lst ?_
  | with_reducible refine Nd.k_notV ?_
  | with_reducible refine Nd.k_tB ?_
  | with_reducible refine Nd.k_test ?_
  | with_reducible refine Nd.k_tNot ?_
  | with_reducible refine Nd.k_tYes ?_
  | with_reducible refine Nd.k_kw ?_
  | with_reducible refine Nd.k_for ?_
  | with_reducible refine Nd.k_lc ?_
  | with_reducible refine Nd.k_iList ?_
  | with_reducible refine Nd.k_iTup ?_
  | with_reducible refine Nd.k_iR1 ?_
  | with_reducible refine Nd.k_iR2 ?_
  | with_reducible refine Nd.k_sl ?_
  | with_reducible refine Nd.k_noPart ?_
  | with_reducible refine Nd.k_part ?_
  | with_reducible refine Nd.k_bm ?_
  | with_reducible refine Nd.k_gcd ?_
  | with_reducible refine Nd.k_tru ?_
  | with_reducible refine Nd.k_bits ?_
  | with_reducible refine Nd.k_dnewK ?_
  | with_reducible refine Nd.k_dget2 ?_
  | with_reducible refine Nd.k_dput ?_
  | with_reducible refine Nd.k_items ?_
  | with_reducible refine Nd.k_iEnum ?_
  | with_reducible refine Nd.k_iEnumT ?_
  | with_reducible refine Nd.k_iZipA ?_
  | focus ((with_reducible refine Nd.k_var (v := ?vv) ?hv ?hq); (case hv => exact rfl))
  | focus ((with_reducible refine Nd.k_aug (x := ?vv) ?hv ?hq); (case hv => exact rfl))
  | focus ((with_reducible refine Nd.k_eq ?hv ?hq); (case hv => exact rfl))
  | focus ((with_reducible refine Nd.k_ne ?hv ?hq); (case hv => exact rfl))
  | with_reducible refine ⟨rfl, ?_⟩
  | with_reducible refine ⟨_, rfl, ?_⟩
  | with_reducible refine ⟨_, _, rfl, ?_⟩
  | with_reducible refine ⟨_, _, _, rfl, ?_⟩
  | with_reducible refine Or.inl ⟨_, rfl, ?_⟩
  | with_reducible refine Or.inr ⟨_, rfl, ?_⟩
  | with_reducible refine Nd.k_nx ?_
  | with_reducible refine Nd.k_rt ?_
  | with_reducible refine Nd.k_bk ?_
  | with_reducible refine Nd.k_ct ?_))
local macro_rules | `(tactic| walk_at "ga") => `(tactic| repeat (walk_at "nd2"))


namespace K04
open PySem PySem.Spec PyProof.Rows L2 Nd
def top (i : Nat) : Stmt := PySem.Challenge.pw_nodice_k04_whole_fractions_reckon_as_num.main.body.getD i (.Pass ⟨0, 0, 0, 0⟩)
structure Txt (mg : Str → Option Value) : Prop where
  m_int : mg "int" = none
  m_len : mg "len" = none
  m_abs : mg "abs" = none
abbrev s__law_hoop : Stmt := top 20
theorem sc__law_hoop : FnScope ["cooper", "many", "rest", "at", "cell", "mixed"] ["cooper", "many"] (defScope s__law_hoop) := ⟨rfl, rfl, rfl, by decide +kernel, rfl, by decide +kernel, by decide +kernel⟩
section
variable {P : Program} {w : World} {K : PySem.W.Frag} {mg : Str → Option Value} {base : Heap}
theorem ok_shake {f : Addr} {fd : FuncData} (F : Fun K "_law_hoop" "_law_hoop" s__law_hoop f fd) (T : Txt mg) : FnG P w K mg base CX0 1 f fd ["cooper", "many"] spDraw := by
  refine okG0 F sc__law_hoop (fun vs H Q E h => ?_) (fun cdv A outer s H vs Q E hG hr h => ?_)
  · obtain ⟨r, n, m, rfl, _⟩ := h
    rfl
  · obtain ⟨r, n, m, rfl, R, hn, m0, m1, q⟩ := h
    refine ⟨_, (pss_cons (ps_if (pt_cmpR op_gt (pe_ix ix_list (pv 0) pe_int (fun _ _ => rfl)) pe_int (nomark _)) (pss_cons (ps_set (i := 2) sc__law_hoop.nd rfl (.inl rfl) (pe_callTy call_int1 (by rfl) T.m_int (by decide +kernel) (pa_cons (pe_ix ix_list (pv 0) pe_int (fun _ _ => rfl)) pa_nil)))
      (pss_cons (ps_asg (pe_op op_fdiv (pv 2) (pv 1)) (pg_sub (pv 0) pe_int set_list))
      (pss_one (ps_ret (pe_op op_mod (pe_callTy call_int1 (by rfl) T.m_int (by decide +kernel) (pa_cons (pv 2) pa_nil)) (pv 1)))))) pss_nil)
      (pss_cons (ps_set (i := 3) sc__law_hoop.nd rfl (.inl rfl) (pe_ix ix_list (pv 0) pe_int (fun _ _ => rfl)))
      (pss_cons (ps_asg (pe_op op_add (pv 3) pe_int) (pg_sub (pv 0) pe_int set_list))
      (pss_cons (ps_if (pt_cmpR (op_eqD hr.units) (pe_ix ix_list (pv 0) pe_int (fun _ _ => rfl)) (pe_lst pa_nil) (nomark _)) (pss_one (ps_ret pe_int)) pss_nil)
      (pss_cons (ps_set (i := 4) sc__law_hoop.nd rfl (.inl rfl) (pe_ix ix_list (pe_ix ix_list (pv 0) pe_int (fun _ _ => rfl)) (pe_op op_mod (pe_callTy call_int1 (by rfl) T.m_int (by decide +kernel) (pa_cons (pv 3) pa_nil)) (pe_callB (id := "len") call_len_seq (by rfl) T.m_len PySem.boot_len (pa_cons (pe_ix ix_list (pv 0) pe_int (fun _ _ => rfl)) pa_nil))) (fun _ _ => rfl)))
      (pss_cons (ps_if (PW.pt (pw_and (pt_cmpR op_lt (pv 3) (pe_callB (id := "len") call_len_seq (by rfl) T.m_len PySem.boot_len (pa_cons (pe_ix ix_list (pv 0) pe_int (fun _ _ => rfl)) pa_nil)) (nomark _)) (pw_and1 (pt_cmpR op_ge (pe_callB (id := "abs") call_abs (by rfl) T.m_abs (by decide +kernel) (pa_cons (pv 4) pa_nil)) (pe_op op_pow pe_int pe_int) (nomark _))))) (pss_cons (ps_set (i := 2) sc__law_hoop.nd rfl (.inl rfl) (pe_op op_add (pe_op op_mul pe_int (pe_op op_sub (pe_callB (id := "abs") call_abs (by rfl) T.m_abs (by decide +kernel) (pa_cons (pv 4) pa_nil)) (pe_op op_pow pe_int pe_int))) (pe_callTy call_int1 (by rfl) T.m_int (by decide +kernel) (pa_cons (pe_cmpR op_lt (pv 4) pe_int (nomark _)) pa_nil))))
      (pss_cons (ps_asg (pe_op op_fdiv (pe_callTy call_int1 (by rfl) T.m_int (by decide +kernel) (pa_cons (pv 2) pa_nil)) (pv 1)) (pg_sub (pv 0) pe_int set_list))
      (pss_one (ps_ret (pe_op op_mod (pe_callTy call_int1 (by rfl) T.m_int (by decide +kernel) (pa_cons (pv 2) pa_nil)) (pv 1)))))) pss_nil)
      (pss_cons (ps_set (i := 5) sc__law_hoop.nd rfl (.inl rfl) (pe_op op_mod (pe_callTy call_int1 (by rfl) T.m_int (by decide +kernel) (pa_cons (pe_op op_pow (pe_op op_add (pe_op op_add (pe_op op_mod (pe_callTy call_int1 (by rfl) T.m_int (by decide +kernel) (pa_cons (pv 4) pa_nil)) pe_int) (pe_op op_mul pe_int (pv 3))) pe_int) pe_int) pa_nil)) pe_int))
      (pss_cons (ps_set (i := 5) sc__law_hoop.nd rfl (.inl rfl) (pe_op op_mod (pe_callTy call_int1 (by rfl) T.m_int (by decide +kernel) (pa_cons (pe_op op_pow (pe_op op_add (pe_op op_add (pe_op op_mul (pv 5) (pe_op op_add (pe_op op_mul pe_int (pv 3)) pe_int)) (pe_op op_mul (pe_op op_mul pe_int (pv 3)) (pv 3))) pe_int) pe_int) pa_nil)) pe_int))
      (pss_one (ps_ret (pe_op op_mod (pe_callTy call_int1 (by rfl) T.m_int (by decide +kernel) (pa_cons (pe_op op_fdiv (pv 5) pe_int) pa_nil)) (pv 1)))))))))))), ?_⟩
    dsimp only [cxOf, Cx.nox, Cx.wish]
    obtain ⟨c, ns, a, z, rc, hR, hC, hl, a0, a1, z0⟩ := R.ex
    have at2 : atI [V.ref c, V.int a, V.int z] 2 = some (V.int z) := rfl
    have at1 : atI [V.ref c, V.int a, V.int z] 1 = some (V.int a) := rfl
    walk_at "go"
    refine k_ixL (.inl (.inl hR)) at2 ?_
    walk_at "go"
    refine ite2 (fun h => ?_) (fun h => ?_)
    · walk_at "go"
      refine k_ixL (.inl (.inl hR)) at2 ?_
      walk_at "go"
      refine k_I ⟨m0, m1⟩ ?_
      walk_at "go"
      refine k_setL hR rfl ?_
      walk_at "go"
      refine k_I m0 ?_
      walk_at "go"
      refine q _ _ (Gr.put hR) ⟨c, ns, a, z / m, rc, upd_same, (upd_ne rc.symm).trans hC, hl, a0, by omega, Int.ediv_nonneg z0 (by omega)⟩ (Int.emod_nonneg _ (by omega)) (Int.emod_lt_of_pos _ m0)
    · walk_at "go"
      refine k_ixL (.inl (.inl hR)) at1 ?_
      walk_at "go"
      refine k_setL (j := 1) hR rfl ?_
      walk_at "go"
      refine k_ixL (.inl (.inl upd_same)) rfl ?_
      walk_at "go"
      refine ⟨by decide, fun p hp => ?_⟩
      have np : p ≠ r := fun e => by rw [e, upd_same] at hp; cases hp
      have hc' : c ≠ p := fun e => by rw [← e, upd_ne rc.symm, hC] at hp; cases hp
      have e1 : (upd (upd H r (.lst ([V.ref c, V.int a, V.int z].set 1 (V.int (a + 1))))) p (.lst [])) c = some (.lst (ns.map V.int)) := by
        rw [upd_ne hc', upd_ne rc.symm, hC]
      refine k_eqD (Dp.lst (.inl (.inl e1)) (dpInts ns)) (Dp.lst (.inl (.inl upd_same)) .nil) (shInts ns) shNil ?_
      rw [eqvNil]
      walk_at "go"
      refine ite2 (fun he => ?_) (fun he => ?_)
      · walk_at "go"
        refine q _ _ ((Gr.put hR).trans (Gr.new hp)) (Rid.new ⟨c, ns, a + 1, z, rc, upd_same, (upd_ne rc.symm).trans hC, hl, by omega, by omega, z0⟩ hp) (by omega) m0
      · have hne : 0 < ns.length := by
          cases ns with
          | nil => exact absurd rfl he
          | cons _ _ => exact Nat.succ_pos _
        have hR2 : (upd (upd H r (.lst ([V.ref c, V.int a, V.int z].set 1 (V.int (a + 1))))) p (.lst [])) r = some (.lst [V.ref c, V.int (a + 1), V.int z]) := by
          rw [upd_ne np.symm, upd_same]
          rfl
        have g2 : Gr r H (upd (upd H r (.lst ([V.ref c, V.int a, V.int z].set 1 (V.int (a + 1))))) p (.lst [])) := (Gr.put hR).trans (Gr.new hp)
        clear he hp hc' np
        revert hR2 e1 g2
        generalize (upd (upd H r (.lst ([V.ref c, V.int a, V.int z].set 1 (V.int (a + 1))))) p (.lst [])) = H2
        intro e1 hR2 g2
        have L2 : SqL K H2 r [V.ref c, V.int (a + 1), V.int z] := .inl (.inl hR2)
        have LC : SqL K H2 c (ns.map V.int) := .inl (.inl e1)
        have hlen : (0 : Int) < ((ns.map V.int).length : Int) := by
          rw [List.length_map]
          omega
        walk_at "go"
        refine k_ixL L2 rfl ?_
        walk_at "go"
        refine k_ixL L2 rfl ?_
        walk_at "go"
        refine ⟨c, ns.map V.int, rfl, .inl LC, ?_⟩
        refine k_I hlen ?_
        obtain ⟨v, _, hv⟩ := atInts (ns := ns) (i := a % ((ns.map V.int).length : Int)) (Int.emod_nonneg _ (by omega)) (by
          have := Int.emod_lt_of_pos a hlen
          rw [List.length_map] at this ⊢
          exact this)
        refine k_ixL LC hv ?_
        walk_at "go"
        refine k_ixL L2 rfl ?_
        walk_at "go"
        refine ⟨c, ns.map V.int, rfl, .inl LC, ?_⟩
        walk_at "go"
        refine ite2 (fun h2 => ?_) (fun h2 => iteF ?_)
        · walk_at "go"
          refine k_I ⟨by decide, by decide, by decide⟩ ?_
          walk_at "go"
          refine ite2 (fun h3 => ?_) (fun h3 => ?_)
          · have h3' := of_decide_eq_true h3
            clear h3
            walk_at "go"
            refine k_I ⟨by decide, by decide, by decide⟩ ?_
            walk_at "go"
            refine k_I (.inl ⟨by decide, by decide⟩) ?_
            walk_at "go"
            refine k_I ⟨m0, m1⟩ ?_
            walk_at "go"
            refine k_setL (j := 2) hR2 rfl ?_
            walk_at "go"
            refine k_I m0 ?_
            walk_at "go"
            refine q _ _ (g2.trans (Gr.put hR2)) ⟨c, ns, a + 1, _, rc, upd_same, (upd_ne rc.symm).trans e1, hl, by omega, by omega, ?_⟩ (Int.emod_nonneg _ (by omega)) (Int.emod_lt_of_pos _ m0)
            refine Int.ediv_nonneg (Int.add_nonneg (Int.mul_nonneg (by decide) (Int.sub_nonneg_of_le h3')) ?_) (by omega)
            split <;> decide
          · walk_at "go"
            refine k_I (by decide) ?_
            walk_at "go"
            refine k_I (.inl ⟨by decide, by decide⟩) ?_
            walk_at "go"
            refine k_I ⟨by decide, by decide, by omega⟩ ?_
            walk_at "go"
            refine k_I (by decide) ?_
            generalize hu : (_ : Int) % 2147483629 = u
            have u0 : 0 ≤ u := by rw [← hu]; exact Int.emod_nonneg _ (by decide)
            have u1 : u < 2147483629 := by rw [← hu]; exact Int.emod_lt_of_pos _ (by decide)
            clear hu
            walk_at "go"
            refine k_I (.inl ⟨by decide, by decide⟩) ?_
            walk_at "go"
            refine k_I (.inl ⟨by omega, by omega⟩) ?_
            walk_at "go"
            refine k_I (.inl ⟨by decide, by decide⟩) ?_
            walk_at "go"
            refine k_I (.inl ⟨by omega, by omega⟩) ?_
            walk_at "go"
            refine k_I ⟨by decide, by decide, mixBig u0 (by omega) a0 (by omega) (by decide) (by decide) (by decide) (by decide) (by decide) (by decide)⟩ ?_
            walk_at "go"
            refine k_I (by decide) ?_
            walk_at "go"
            refine k_I ⟨by decide, by decide⟩ ?_
            walk_at "go"
            refine k_I m0 ?_
            walk_at "go"
            refine q _ _ g2 ⟨c, ns, a + 1, z, rc, hR2, e1, hl, by omega, by omega, z0⟩ (Int.emod_nonneg _ (by omega)) (Int.emod_lt_of_pos _ m0)
        · walk_at "go"
          refine k_I (by decide) ?_
          walk_at "go"
          refine k_I (.inl ⟨by decide, by decide⟩) ?_
          walk_at "go"
          refine k_I ⟨by decide, by decide, by omega⟩ ?_
          walk_at "go"
          refine k_I (by decide) ?_
          generalize hu : (_ : Int) % 2147483629 = u
          have u0 : 0 ≤ u := by rw [← hu]; exact Int.emod_nonneg _ (by decide)
          have u1 : u < 2147483629 := by rw [← hu]; exact Int.emod_lt_of_pos _ (by decide)
          clear hu
          walk_at "go"
          refine k_I (.inl ⟨by decide, by decide⟩) ?_
          walk_at "go"
          refine k_I (.inl ⟨by omega, by omega⟩) ?_
          walk_at "go"
          refine k_I (.inl ⟨by decide, by decide⟩) ?_
          walk_at "go"
          refine k_I (.inl ⟨by omega, by omega⟩) ?_
          walk_at "go"
          refine k_I ⟨by decide, by decide, mixBig u0 (by omega) a0 (by omega) (by decide) (by decide) (by decide) (by decide) (by decide) (by decide)⟩ ?_
          walk_at "go"
          refine k_I (by decide) ?_
          walk_at "go"
          refine k_I ⟨by decide, by decide⟩ ?_
          walk_at "go"
          refine k_I m0 ?_
          walk_at "go"
          refine q _ _ g2 ⟨c, ns, a + 1, z, rc, hR2, e1, hl, by omega, by omega, z0⟩ (Int.emod_nonneg _ (by omega)) (Int.emod_lt_of_pos _ m0)
end
end K04

namespace K04
open PySem PySem.Spec PyProof.Rows L2 Nd
abbrev s__law_cooper : Stmt := top 19
theorem sc__law_cooper : FnScope ["script", "cell"] ["script"] (defScope s__law_cooper) := ⟨rfl, rfl, rfl, by decide +kernel, rfl, by decide +kernel, by decide +kernel⟩
abbrev s__law_stave : Stmt := top 21
theorem sc__law_stave : FnScope ["cooper", "some"] ["cooper", "some"] (defScope s__law_stave) := ⟨rfl, rfl, rfl, by decide +kernel, rfl, by decide +kernel, by decide +kernel⟩
section
variable {P : Program} {w : World} {K : PySem.W.Frag} {mg : Str → Option Value} {base : Heap}
theorem ok_riddle {f : Addr} {fd : FuncData} (F : Fun K "_law_cooper" "_law_cooper" s__law_cooper f fd) (T : Txt mg) : FnG P w K mg base CX0 1 f fd ["script"] (spRiddle K) := by
  refine okG0 F sc__law_cooper (fun vs H Q E h => ?_) (fun cdv A outer s H vs Q E hG hr h => ?_)
  · obtain ⟨a, ns, rfl, _⟩ := h
    rfl
  · obtain ⟨a, ns, rfl, hS, hlen, q⟩ := h
    refine ⟨_, (pss_one (ps_ret (pe_lst (pa_cons (pe_lc (own := [("cell", 1)]) (g := gName 1) (tt := tYes) rfl sc__law_cooper.nd (pi_list (pe_slice sl_list (pv 0) po_none (po_some pe_int))) (blkOk_by (own := [("cell", 1)]) (N := ["script", "cell"]) (sc := defScope s__law_cooper) (by decide +kernel)) (fun _ _ _ _ _ => pg_name (i := 1) sc__law_cooper.nd rfl (Or.inl rfl)) (fun _ _ _ _ _ => pts_nil) (fun _ _ _ _ _ => (pe_callTy call_int1 (by rfl) T.m_int (by decide +kernel) (pa_cons (pv 1) pa_nil)))) (pa_cons pe_int (pa_cons pe_int pa_nil)))))), ?_⟩
    dsimp only [cxOf, Cx.nox, Cx.wish]
    walk_at "go"
    refine k_slL hS fun p hp => ?_
    have e1 : cutV (ns.map V.int) none (some 60) = (ns.take 60).map V.int := by
      unfold cutV
      rw [HT.sIx_none, show HT.sIx (ns.map V.int).length (ns.map V.int).length (some 60) = min 60 (ns.map V.int).length from HT.sIx_nat _ _ 60]
      simp [List.map_take]
    rw [e1]
    refine ⟨p, rfl, ⟨_, .inl (.inl upd_same)⟩, ?_⟩
    have hl : (ns.take 60).length ≤ 60 := by rw [List.length_take]; omega
    refine lcIn_L (fun _ => true) (fun i => ((ns.take 60).map V.int).getD i .non) (.inl (.inl upd_same)) (by rw [List.length_map]; omega) (fun x => rfl) (fun i x H2 hi s2 => ⟨fun QT k => k _ (Same.refl _), fun _ H3 s3 QE k => ?_⟩) (fun p' H' np s1 hp' => ?_)
    · obtain ⟨z, hz, rfl⟩ : ∃ z, (ns.take 60)[i]? = some z ∧ x = V.int z := by
        rw [List.getElem?_map] at hi
        cases h : (ns.take 60)[i]? with
        | none => rw [h] at hi; cases hi
        | some z => rw [h] at hi; exact ⟨z, rfl, (Option.some.inj hi).symm⟩
      walk_at "go"
      have := k H3 (Same.refl _)
      rw [List.getD_eq_getElem?_getD, hi] at this
      exact this
    · rw [given_all rfl fun i x hi => by rw [List.getD_eq_getElem?_getD, hi]; rfl] at hp'
      walk_at "go"
      refine ⟨by show 3 ≤ sizeLine; decide, fun r hr' => ?_⟩
      have ss : Same H (upd H' r (.lst [V.ref p', V.int 0, V.int 0])) := (Same.new hp).trans (s1.trans (Same.new hr'))
      have np' : p' ≠ r := fun e => by rw [e, hr'] at hp'; cases hp'
      walk_at "go"
      exact q _ _ ss ((Same.new hp).trans s1 |>.free hr') ⟨p', ns.take 60, 0, 0, np'.symm, upd_same, (upd_ne np').trans hp', hl, by omega, by omega, by omega⟩
theorem ok_pick {f : Addr} {fd : FuncData} (F : Fun K "_law_stave" "_law_stave" s__law_stave f fd) (T : Txt mg) (C__law_hoop : Cal P w K mg base CX0 1 "_law_hoop" spDraw) : FnG P w K mg base CX0 2 f fd ["cooper", "some"] spPick := by
  refine okG0 F sc__law_stave (fun vs H Q E h => ?_) (fun cdv A outer s H vs Q E hG hr h => ?_)
  · obtain ⟨r, l, n, xs, rfl, _⟩ := h
    rfl
  · obtain ⟨r, l, n, xs, rfl, R, hn, lr, hL, x0, x1, q⟩ := h
    refine ⟨_, (pss_one (ps_ret (pe_ix ix_list (pv 1) (pe_f C__law_hoop hG (hr.mono (by decide)) (by rfl) pass0 (pa_cons (pv 0) (pa_cons (pe_callB (id := "len") call_len_seq (by rfl) T.m_len PySem.boot_len (pa_cons (pv 1) pa_nil)) pa_nil))) (fun _ _ => rfl)))), ?_⟩
    dsimp only [cxOf, Cx.nox, Cx.wish]
    walk_at "go"
    refine ⟨l, xs, rfl, .inl (.inl (.inl hL)), ?_⟩
    walk_at "go"
    refine ⟨r, n, _, rfl, R, hn, by omega, by omega, fun H' v g R' v0 v1 => ?_⟩
    obtain ⟨j, rfl⟩ := Int.eq_ofNat_of_zero_le v0
    have hj : j < xs.length := by omega
    have hx : xs[j]? = some xs[j] := by simp [hj]
    refine k_ixL (.inl (.inl (g _ _ lr hL))) (atI_nat hx) ?_
    walk_at "go"
    exact q _ _ g R' (List.getElem_mem hj)
end
end K04

namespace K04
open PySem PySem.Spec PyProof.Rows L2 Nd
abbrev s_is_integer : Stmt := top 6
theorem sc_is_integer : FnScope ["value"] ["value"] (defScope s_is_integer) := ⟨rfl, rfl, rfl, by decide +kernel, rfl, by decide +kernel, by decide +kernel⟩
abbrev s_is_within : Stmt := top 7
theorem sc_is_within : FnScope ["value", "least", "most"] ["value", "least", "most"] (defScope s_is_within) := ⟨rfl, rfl, rfl, by decide +kernel, rfl, by decide +kernel, by decide +kernel⟩
abbrev s_are_integers : Stmt := top 8
theorem sc_are_integers : FnScope ["value", "many", "item"] ["value", "many"] (defScope s_are_integers) := ⟨rfl, rfl, rfl, by decide +kernel, rfl, by decide +kernel, by decide +kernel⟩
abbrev s_is_fraction : Stmt := top 9
theorem sc_is_fraction : FnScope ["value", "up", "down"] ["value"] (defScope s_is_fraction) := ⟨rfl, rfl, rfl, by decide +kernel, rfl, by decide +kernel, by decide +kernel⟩
structure TxtC (mg : Str → Option Value) : Prop where
  m_int : mg "int" = none
  m_bool : mg "bool" = none
  m_len : mg "len" = none
  m_all : mg "all" = none
  m_list : mg "list" = none
  m_tuple : mg "tuple" = none
  m_isinstance : mg "isinstance" = none
  m_gcd : mg "gcd" = some (.builtin "math.gcd")
section
variable {P : Program} {w : World} {K : PySem.W.Frag} {mg : Str → Option Value} {base : Heap}
theorem ok_is_integer {f : Addr} {fd : FuncData} (F : Fun K "is_integer" "is_integer" s_is_integer f fd) (T : TxtC mg) : FnG P w K mg base CX0 1 f fd ["value"] spIsInt := by
  refine okG0 F sc_is_integer (fun vs H Q E h => ?_) (fun cdv A outer s H vs Q E hG hr h => ?_)
  · obtain ⟨r, v, d, rfl, _⟩ := h
    rfl
  · obtain ⟨r, v, d, rfl, hd, q⟩ := h
    refine ⟨_, (pss_one (ps_ret (pe_and (pe_callB (id := "isinstance") call_isi (by rfl) T.m_isinstance (by decide +kernel) (pa_cons (pv 0) (pa_cons (pe_bltn (v := .ty "int") (u := .type "int") (by rfl) T.m_int (by decide +kernel) rfl) pa_nil))) (pe_one (pe_not (pe_callB (id := "isinstance") call_isi (by rfl) T.m_isinstance (by decide +kernel) (pa_cons (pv 0) (pa_cons (pe_bltn (v := .ty "bool") (u := .type "bool") (by rfl) T.m_bool (by decide +kernel) rfl) pa_nil)))))))), ?_⟩
    try dsimp only [cxOf, Cx.nox, Cx.wish]
    walk_at "go"
    refine k_isi hd (by decide) ?_
    walk_at "go"
    have q' := q H (Same.refl _)
    rw [← isInt_eq d] at q'
    cases h1 : isD "int" d with
    | true =>
      rw [h1] at q'
      rw [if_pos rfl]
      walk_at "go"
      refine k_isi hd (by decide) ?_
      walk_at "go"
      simpa using q'
    | false =>
      rw [h1] at q'
      rw [if_neg (by decide)]
      walk_at "go"
      simpa using q'
theorem ok_is_within {f : Addr} {fd : FuncData} (F : Fun K "is_within" "is_within" s_is_within f fd) (C_is_integer : Cal P w K mg base CX0 1 "is_integer" spIsInt) : FnG P w K mg base CX0 2 f fd ["value", "least", "most"] spWithin := by
  refine okG0 F sc_is_within (fun vs H Q E h => ?_) (fun cdv A outer s H vs Q E hG hr h => ?_)
  · obtain ⟨r, v, d, l, m, rfl, _⟩ := h
    rfl
  · obtain ⟨r, v, d, l, m, rfl, hd, q⟩ := h
    refine ⟨_, (pss_cons (ps_if (pt_not (pt_val (pe_f C_is_integer hG (hr.mono (by decide)) (by rfl) pass0 (pa_cons (pv 0) pa_nil)))) (pss_one (ps_ret pe_bl)) pss_nil)
      (pss_cons (ps_if (PW.pt (pw_and (pt_cmpR op_notN (pv 1) pe_non (nomark _)) (pw_and1 (pt_cmpR op_lt (pv 0) (pv 1) (nomark _))))) (pss_one (ps_ret pe_bl)) pss_nil)
      (pss_one (ps_ret (pe_or (pe_cmpR op_isN (pv 2) pe_non (nomark _)) (pe_one (pe_cmpR op_le (pv 0) (pv 2) (nomark _)))))))), ?_⟩
    try dsimp only [cxOf, Cx.nox, Cx.wish]
    walk_at "go"
    refine ⟨r, v, d, rfl, hd, fun H' s1 => ?_⟩
    walk_at "go"
    have q' := q H' s1
    by_cases hi : ∃ i, d = .int i
    · obtain ⟨i, rfl⟩ := hi
      cases hd
      refine iteF ?_
      have last : (b : Bool) → (lowD i l && highD i m) = b → Q (.bl b) H' := fun b e => e ▸ q'
      cases l with
      | none =>
        dsimp only [optV]
        walk_at "go"
        refine iteF (iteF ?_)
        walk_at "go"
        cases m with
        | none =>
          refine iteT ?_
          walk_at "go"
          exact last _ rfl
        | some x =>
          refine iteF ?_
          dsimp only [optV]
          walk_at "go"
          exact last _ rfl
      | some y =>
        dsimp only [optV]
        walk_at "go"
        refine iteT ?_
        walk_at "go"
        refine ite2 (fun h => ?_) (fun h => ?_)
        · walk_at "go"
          exact last _ (by have := of_decide_eq_true h; simp [lowD]; omega)
        · have hy : lowD i (some y) = true := by
            simp only [lowD, decide_eq_true_eq] at h ⊢
            omega
          walk_at "go"
          cases m with
          | none =>
            refine iteT ?_
            walk_at "go"
            exact last _ (by rw [hy]; rfl)
          | some x =>
            refine iteF ?_
            dsimp only [optV]
            walk_at "go"
            exact last _ (by rw [hy]; rfl)
    · have e : ndInt d = false := by cases d <;> first | rfl | exact absurd ⟨_, rfl⟩ hi
      have e2 : withinD d l m = false := by cases d <;> first | rfl | exact absurd ⟨_, rfl⟩ hi
      rw [e]
      rw [e2] at q'
      refine iteT ?_
      walk_at "go"
      exact q'
theorem ok_are_integers {f : Addr} {fd : FuncData} (F : Fun K "are_integers" "are_integers" s_are_integers f fd) (T : TxtC mg) (C_is_integer : Cal P w K mg base CX0 1 "is_integer" spIsInt) : FnG P w K mg base CX0 2 f fd ["value", "many"] spAreInts := by
  refine okG0 F sc_are_integers (fun vs H Q E h => ?_) (fun cdv A outer s H vs Q E hG hr h => ?_)
  · obtain ⟨r, v, d, k, rfl, _⟩ := h
    rfl
  · obtain ⟨r, v, d, k, rfl, hd, hz, q⟩ := h
    by_cases hT : isD "tuple" d = true
    · obtain ⟨ds, rfl⟩ : ∃ ds, d = .tuple ds := by cases d <;> first | exact ⟨_, rfl⟩ | cases hT
      refine ⟨_, (pss_cons (ps_if (PW.pt (pw_or (pt_not (pt_val (pe_callB (id := "isinstance") call_isiT (by rfl) T.m_isinstance (by decide +kernel) (pa_cons (pv 0) (pa_cons (pe_tup (pa_cons (pe_bltn (v := .ty "list") (u := .type "list") (by rfl) T.m_list (by decide +kernel) rfl) (pa_cons (pe_bltn (v := .ty "tuple") (u := .type "tuple") (by rfl) T.m_tuple (by decide +kernel) rfl) pa_nil))) pa_nil))))) (pw_or1 (pt_cmpR op_ne (pe_callB (id := "len") call_len_seq (by rfl) T.m_len PySem.boot_len (pa_cons (pv 0) pa_nil)) (pv 1) (nomark _))))) (pss_one (ps_ret pe_bl)) pss_nil)
      (pss_one (ps_ret (pe_callB (id := "all") (cr_all rfl) (by rfl) T.m_all (by decide +kernel) (pa_cons (pe_lc (own := [("item", 2)]) (g := gName 2) (tt := tYes) rfl sc_are_integers.nd (pi_tup (pv 0)) (blkOk_by (own := [("item", 2)]) (N := ["value", "many", "item"]) (sc := defScope s_are_integers) (by decide +kernel)) (fun _ _ _ _ _ => pg_name (i := 2) sc_are_integers.nd rfl (Or.inl rfl)) (fun _ _ _ _ _ => pts_nil) (fun _ _ _ _ _ => (pe_f C_is_integer hG (hr.mono (by decide)) (by rfl) pass0 (pa_cons (pv 2) pa_nil)))) pa_nil))))), ?_⟩
      try dsimp only [cxOf, Cx.nox, Cx.wish]
      have hd0 := hd
      cases hd with
      | @tup a xs _ na ea ha =>
      have hlen := ha.length
      have hz' := hz ds rfl
      walk_at "go"
      refine ⟨by show 2 ≤ sizeLine; decide, fun p hp => ?_⟩
      have s1 : Same H (upd H p (.tup [.ty "list", .ty "tuple"])) := Same.new hp
      have e1 := s1 _ _ ea
      walk_at "go"
      refine k_isi2 (hd0.same s1) upd_same (by decide) (by decide) ?_
      walk_at "go"
      refine iteF ?_
      walk_at "go"
      refine ⟨a, xs, rfl, .inr (.inl (.inl e1)), ?_⟩
      walk_at "go"
      by_cases hk : (xs.length : Int) = k
      · subst hk
        rw [show (!decide (V.int (xs.length : Int) = V.int (xs.length : Int))) = false by simp]
        refine iteF ?_
        walk_at "go"
        refine ⟨⟨_, .inl (.inl e1)⟩, ?_⟩
        refine lcIn_T (fun _ => true) (fun i => .bl (ndInt (ds.getD i .none))) (.inl (.inl e1)) (by omega) (fun x => rfl) (fun i x H2 hi s2 => ⟨fun QT k => k _ (Same.refl _), fun _ H3 s3 QE k => ?_⟩) (fun p' H' np s3 hp' => ?_)
        · obtain ⟨d, hd, hx⟩ := ha.get hi
          walk_at "go"
          refine ⟨r, x, d, rfl, hx.same (s1.trans (s2.trans s3)), fun H4 s4 => ?_⟩
          walk_at "go"
          have := k H4 s4
          rw [List.getD_eq_getElem?_getD, hd] at this
          exact this
        · have e2 : given xs.length (fun _ => true) (fun i => V.bl (ndInt (ds.getD i .none))) = (ds.map ndInt).map V.bl := by
            refine given_all (by simp [hlen]) fun i x hi => ?_
            simp only [List.getElem?_map, Option.map_map] at hi
            obtain ⟨d, h1, h2⟩ := Option.map_eq_some_iff.mp hi
            rw [List.getD_eq_getElem?_getD, h1]
            exact h2
          rw [e2] at hp'
          walk_at "go"
          refine ⟨p', ds.map ndInt, rfl, .inl (.inl hp'), ?_⟩
          walk_at "go"
          have q' := q H' (s1.trans s3)
          simpa [areIntsD, itemsD, hlen, List.all_map] using q'
      · rw [show (!decide (V.int (xs.length : Int) = V.int k)) = true by simp [hk]]
        refine iteT ?_
        walk_at "go"
        have q' := q _ s1
        simpa [areIntsD, itemsD, ← hlen, hk] using q'
    by_cases hL : isD "list" d = true
    · obtain ⟨ds, rfl⟩ : ∃ ds, d = .list ds := by cases d <;> first | exact ⟨_, rfl⟩ | cases hL
      refine ⟨_, (pss_cons (ps_if (PW.pt (pw_or (pt_not (pt_val (pe_callB (id := "isinstance") call_isiT (by rfl) T.m_isinstance (by decide +kernel) (pa_cons (pv 0) (pa_cons (pe_tup (pa_cons (pe_bltn (v := .ty "list") (u := .type "list") (by rfl) T.m_list (by decide +kernel) rfl) (pa_cons (pe_bltn (v := .ty "tuple") (u := .type "tuple") (by rfl) T.m_tuple (by decide +kernel) rfl) pa_nil))) pa_nil))))) (pw_or1 (pt_cmpR op_ne (pe_callB (id := "len") call_len_seq (by rfl) T.m_len PySem.boot_len (pa_cons (pv 0) pa_nil)) (pv 1) (nomark _))))) (pss_one (ps_ret pe_bl)) pss_nil)
      (pss_one (ps_ret (pe_callB (id := "all") (cr_all rfl) (by rfl) T.m_all (by decide +kernel) (pa_cons (pe_lc (own := [("item", 2)]) (g := gName 2) (tt := tYes) rfl sc_are_integers.nd (pi_list (pv 0)) (blkOk_by (own := [("item", 2)]) (N := ["value", "many", "item"]) (sc := defScope s_are_integers) (by decide +kernel)) (fun _ _ _ _ _ => pg_name (i := 2) sc_are_integers.nd rfl (Or.inl rfl)) (fun _ _ _ _ _ => pts_nil) (fun _ _ _ _ _ => (pe_f C_is_integer hG (hr.mono (by decide)) (by rfl) pass0 (pa_cons (pv 2) pa_nil)))) pa_nil))))), ?_⟩
      try dsimp only [cxOf, Cx.nox, Cx.wish]
      have hd0 := hd
      cases hd with
      | @lst a xs _ na ea ha =>
      have hlen := ha.length
      have hz' := hz ds rfl
      walk_at "go"
      refine ⟨by show 2 ≤ sizeLine; decide, fun p hp => ?_⟩
      have s1 : Same H (upd H p (.tup [.ty "list", .ty "tuple"])) := Same.new hp
      have e1 := s1 _ _ ea
      walk_at "go"
      refine k_isi2 (hd0.same s1) upd_same (by decide) (by decide) ?_
      walk_at "go"
      refine iteF ?_
      walk_at "go"
      refine ⟨a, xs, rfl, .inl (.inl (.inl e1)), ?_⟩
      walk_at "go"
      by_cases hk : (xs.length : Int) = k
      · subst hk
        rw [show (!decide (V.int (xs.length : Int) = V.int (xs.length : Int))) = false by simp]
        refine iteF ?_
        walk_at "go"
        refine ⟨⟨_, .inl (.inl e1)⟩, ?_⟩
        refine lcIn_L (fun _ => true) (fun i => .bl (ndInt (ds.getD i .none))) (.inl (.inl e1)) (by omega) (fun x => rfl) (fun i x H2 hi s2 => ⟨fun QT k => k _ (Same.refl _), fun _ H3 s3 QE k => ?_⟩) (fun p' H' np s3 hp' => ?_)
        · obtain ⟨d, hd, hx⟩ := ha.get hi
          walk_at "go"
          refine ⟨r, x, d, rfl, hx.same (s1.trans (s2.trans s3)), fun H4 s4 => ?_⟩
          walk_at "go"
          have := k H4 s4
          rw [List.getD_eq_getElem?_getD, hd] at this
          exact this
        · have e2 : given xs.length (fun _ => true) (fun i => V.bl (ndInt (ds.getD i .none))) = (ds.map ndInt).map V.bl := by
            refine given_all (by simp [hlen]) fun i x hi => ?_
            simp only [List.getElem?_map, Option.map_map] at hi
            obtain ⟨d, h1, h2⟩ := Option.map_eq_some_iff.mp hi
            rw [List.getD_eq_getElem?_getD, h1]
            exact h2
          rw [e2] at hp'
          walk_at "go"
          refine ⟨p', ds.map ndInt, rfl, .inl (.inl hp'), ?_⟩
          walk_at "go"
          have q' := q H' (s1.trans s3)
          simpa [areIntsD, itemsD, hlen, List.all_map] using q'
      · rw [show (!decide (V.int (xs.length : Int) = V.int k)) = true by simp [hk]]
        refine iteT ?_
        walk_at "go"
        have q' := q _ s1
        simpa [areIntsD, itemsD, ← hlen, hk] using q'
    · refine ⟨_, (pss_cons (ps_if (PW.pt (pw_or (pt_not (pt_val (pe_callB (id := "isinstance") call_isiT (by rfl) T.m_isinstance (by decide +kernel) (pa_cons (pv 0) (pa_cons (pe_tup (pa_cons (pe_bltn (v := .ty "list") (u := .type "list") (by rfl) T.m_list (by decide +kernel) rfl) (pa_cons (pe_bltn (v := .ty "tuple") (u := .type "tuple") (by rfl) T.m_tuple (by decide +kernel) rfl) pa_nil))) pa_nil))))) (pw_or1 (pt_cmpR op_ne (pe_callB (id := "len") call_len_seq (by rfl) T.m_len PySem.boot_len (pa_cons (pv 0) pa_nil)) (pv 1) (nomark _))))) (pss_one (ps_ret pe_bl)) pss_nil)
      (pss_one (ps_ret (pe_callB (id := "all") (cr_all rfl) (by rfl) T.m_all (by decide +kernel) (pa_cons (pe_lc (own := [("item", 2)]) (g := gName 2) (tt := tYes) rfl sc_are_integers.nd (pi_list (pv 0)) (blkOk_by (own := [("item", 2)]) (N := ["value", "many", "item"]) (sc := defScope s_are_integers) (by decide +kernel)) (fun _ _ _ _ _ => pg_name (i := 2) sc_are_integers.nd rfl (Or.inl rfl)) (fun _ _ _ _ _ => pts_nil) (fun _ _ _ _ _ => (pe_f C_is_integer hG (hr.mono (by decide)) (by rfl) pass0 (pa_cons (pv 2) pa_nil)))) pa_nil))))), ?_⟩
      try dsimp only [cxOf, Cx.nox, Cx.wish]
      walk_at "go"
      refine ⟨by show 2 ≤ sizeLine; decide, fun p hp => ?_⟩
      have s1 : Same H (upd H p (.tup [.ty "list", .ty "tuple"])) := Same.new hp
      walk_at "go"
      refine k_isi2 (hd.same s1) upd_same (by decide) (by decide) ?_
      walk_at "go"
      rw [show (isD "list" d || isD "tuple" d) = false by simp [hL, hT]]
      refine iteT ?_
      refine iteT ?_
      walk_at "go"
      have q' := q _ s1
      have e : areIntsD d k = false := by cases d <;> first | rfl | exact absurd rfl hL | exact absurd rfl hT
      rw [e] at q'
      exact q'
theorem ok_is_fraction {f : Addr} {fd : FuncData} (F : Fun K "is_fraction" "is_fraction" s_is_fraction f fd) (T : TxtC mg) (C_are_integers : Cal P w K mg base CX0 2 "are_integers" spAreInts) : FnG P w K mg base CX0 3 f fd ["value"] spFrac := by
  refine okG0 F sc_is_fraction (fun vs H Q E h => ?_) (fun cdv A outer s H vs Q E hG hr h => ?_)
  · obtain ⟨r, v, d, rfl, _⟩ := h
    rfl
  · obtain ⟨r, v, d, rfl, hd, hz, q⟩ := h
    by_cases hT : isD "tuple" d = true
    · obtain ⟨ds, rfl⟩ : ∃ ds, d = .tuple ds := by cases d <;> first | exact ⟨_, rfl⟩ | cases hT
      refine ⟨_, (pss_cons (ps_if (pt_not (pt_val (pe_f C_are_integers hG (hr.mono (by decide)) (by rfl) pass0 (pa_cons (pv 0) (pa_cons pe_int pa_nil))))) (pss_one (ps_ret pe_bl)) pss_nil)
      (pss_cons (ps_asg (pv 0) (pg_tup (by rfl) (pgs_cons (pg_name (i := 1) sc_is_fraction.nd rfl (.inl rfl)) (pgs_cons (pg_name (i := 2) sc_is_fraction.nd rfl (.inl rfl)) pgs_nil))))
      (pss_one (ps_ret (pe_and (pe_cmpR op_gt (pv 2) pe_int (nomark _)) (pe_one (pe_cmpR op_eq (pe_callBfun cr_gcd (by rfl) T.m_gcd (pa_cons (pv 1) (pa_cons (pv 2) pa_nil))) pe_int (nomark _)))))))), ?_⟩
      try dsimp only [cxOf, Cx.nox, Cx.wish]
      walk_at "go"
      refine ⟨r, v, _, 2, rfl, hd, hz, fun H1 s1 => ?_⟩
      have q' := q H1 s1
      cases hk : areIntsD (.tuple ds) 2 with
      | false =>
        walk_at "go"
        rw [fracD_no hk] at q'
        refine iteT ?_
        walk_at "go"
        exact q'
      | true =>
        obtain ⟨u, z, hds⟩ := two_ints hk
        cases (show ds = [.int u, .int z] from Option.some.inj hds)
        walk_at "go"
        refine iteF ?_
        cases hd with
        | @tup a xs _ na ea ha =>
        cases ha with
        | cons h1 h2 =>
        cases h2 with
        | cons h2 h3 =>
        cases h1
        cases h2
        cases h3
        walk_at "go"
        refine k_gtup (.inl (.inl (s1 _ _ ea))) rfl ?_
        walk_at "go"
        have e : fracD (.tuple [.int u, .int z]) = (decide (0 < z) && decide (Nat.gcd u.natAbs z.natAbs = 1)) := rfl
        rw [e] at q'
        by_cases hz0 : (0 : Int) < z
        · rw [decide_eq_true hz0] at q' ⊢
          refine iteT ?_
          walk_at "go"
          simpa [V.int.injEq, gcd_one] using q'
        · rw [decide_eq_false hz0] at q' ⊢
          refine iteF ?_
          walk_at "go"
          exact q'
    by_cases hL : isD "list" d = true
    · obtain ⟨ds, rfl⟩ : ∃ ds, d = .list ds := by cases d <;> first | exact ⟨_, rfl⟩ | cases hL
      refine ⟨_, (pss_cons (ps_if (pt_not (pt_val (pe_f C_are_integers hG (hr.mono (by decide)) (by rfl) pass0 (pa_cons (pv 0) (pa_cons pe_int pa_nil))))) (pss_one (ps_ret pe_bl)) pss_nil)
      (pss_cons (ps_asg (pv 0) (pg_unl (by rfl) (pgs_cons (pg_name (i := 1) sc_is_fraction.nd rfl (.inl rfl)) (pgs_cons (pg_name (i := 2) sc_is_fraction.nd rfl (.inl rfl)) pgs_nil))))
      (pss_one (ps_ret (pe_and (pe_cmpR op_gt (pv 2) pe_int (nomark _)) (pe_one (pe_cmpR op_eq (pe_callBfun cr_gcd (by rfl) T.m_gcd (pa_cons (pv 1) (pa_cons (pv 2) pa_nil))) pe_int (nomark _)))))))), ?_⟩
      try dsimp only [cxOf, Cx.nox, Cx.wish]
      walk_at "go"
      refine ⟨r, v, _, 2, rfl, hd, hz, fun H1 s1 => ?_⟩
      have q' := q H1 s1
      cases hk : areIntsD (.list ds) 2 with
      | false =>
        walk_at "go"
        rw [fracD_no hk] at q'
        refine iteT ?_
        walk_at "go"
        exact q'
      | true =>
        obtain ⟨u, z, hds⟩ := two_ints hk
        cases (show ds = [.int u, .int z] from Option.some.inj hds)
        walk_at "go"
        refine iteF ?_
        cases hd with
        | @lst a xs _ na ea ha =>
        cases ha with
        | cons h1 h2 =>
        cases h2 with
        | cons h2 h3 =>
        cases h1
        cases h2
        cases h3
        walk_at "go"
        refine k_gunl (.inl (.inl (s1 _ _ ea))) rfl ?_
        walk_at "go"
        have e : fracD (.list [.int u, .int z]) = (decide (0 < z) && decide (Nat.gcd u.natAbs z.natAbs = 1)) := rfl
        rw [e] at q'
        by_cases hz0 : (0 : Int) < z
        · rw [decide_eq_true hz0] at q' ⊢
          refine iteT ?_
          walk_at "go"
          simpa [V.int.injEq, gcd_one] using q'
        · rw [decide_eq_false hz0] at q' ⊢
          refine iteF ?_
          walk_at "go"
          exact q'
    · refine ⟨_, (pss_cons (ps_if (pt_not (pt_val (pe_f C_are_integers hG (hr.mono (by decide)) (by rfl) pass0 (pa_cons (pv 0) (pa_cons pe_int pa_nil))))) (pss_one (ps_ret pe_bl)) pss_nil)
      (pss_cons (ps_asg (pv 0) (pg_tup (by rfl) (pgs_cons (pg_name (i := 1) sc_is_fraction.nd rfl (.inl rfl)) (pgs_cons (pg_name (i := 2) sc_is_fraction.nd rfl (.inl rfl)) pgs_nil))))
      (pss_one (ps_ret (pe_and (pe_cmpR op_gt (pv 2) pe_int (nomark _)) (pe_one (pe_cmpR op_eq (pe_callBfun cr_gcd (by rfl) T.m_gcd (pa_cons (pv 1) (pa_cons (pv 2) pa_nil))) pe_int (nomark _)))))))), ?_⟩
      try dsimp only [cxOf, Cx.nox, Cx.wish]
      walk_at "go"
      refine ⟨r, v, d, 2, rfl, hd, hz, fun H1 s1 => ?_⟩
      have q' := q H1 s1
      have e : itemsD d = none := by cases d <;> first | rfl | exact absurd rfl hL | exact absurd rfl hT
      rw [show areIntsD d 2 = false by simp [areIntsD, e]]
      rw [show fracD d = false by simp [fracD, e]] at q'
      walk_at "go"
      exact q'
end
end K04

namespace K04
open PySem PySem.Spec PyProof.Rows L2 Nd
abbrev s_need_integer : Stmt := top 10
theorem sc_need_integer : FnScope ["value", "part", "least", "most"] ["value", "part", "least", "most"] (defScope s_need_integer) := ⟨rfl, rfl, rfl, by decide +kernel, rfl, by decide +kernel, by decide +kernel⟩
abbrev s__need_two : Stmt := top 17
theorem sc__need_two : FnScope ["one", "other"] ["one", "other"] (defScope s__need_two) := ⟨rfl, rfl, rfl, by decide +kernel, rfl, by decide +kernel, by decide +kernel⟩
abbrev s_reduced : Stmt := top 12
theorem sc_reduced : FnScope ["up", "down", "common"] ["up", "down"] (defScope s_reduced) := ⟨rfl, rfl, rfl, by decide +kernel, rfl, by decide +kernel, by decide +kernel⟩
abbrev s_added : Stmt := top 13
theorem sc_added : FnScope ["one", "other"] ["one", "other"] (defScope s_added) := ⟨rfl, rfl, rfl, by decide +kernel, rfl, by decide +kernel, by decide +kernel⟩
abbrev s_less : Stmt := top 14
theorem sc_less : FnScope ["one", "other"] ["one", "other"] (defScope s_less) := ⟨rfl, rfl, rfl, by decide +kernel, rfl, by decide +kernel, by decide +kernel⟩
abbrev s_multiplied : Stmt := top 15
theorem sc_multiplied : FnScope ["one", "other"] ["one", "other"] (defScope s_multiplied) := ⟨rfl, rfl, rfl, by decide +kernel, rfl, by decide +kernel, by decide +kernel⟩
abbrev s_below : Stmt := top 16
theorem sc_below : FnScope ["one", "other"] ["one", "other"] (defScope s_below) := ⟨rfl, rfl, rfl, by decide +kernel, rfl, by decide +kernel, by decide +kernel⟩
section
variable {P : Program} {w : World} {K : PySem.W.Frag} {mg : Str → Option Value} {base : Heap}
theorem ok_need_integer {f : Addr} {fd : FuncData} (F : Fun K "need_integer" "need_integer" s_need_integer f fd) (C_is_within : Cal P w K mg base CX0 2 "is_within" spWithin) : FnG P w K mg base CX0 3 f fd ["value", "part", "least", "most"] spNeed := by
  refine okG0 F sc_need_integer (fun vs H Q E h => ?_) (fun cdv A outer s H vs Q E hG hr h => ?_)
  · obtain ⟨r, v, x, d, l, m, rfl, _⟩ := h
    rfl
  · obtain ⟨r, v, x, d, l, m, rfl, hd, hw, q⟩ := h
    refine ⟨_, (pss_one (ps_if (pt_not (pt_val (pe_f C_is_within hG (hr.mono (by decide)) (by rfl) pass0 (pa_cons (pv 0) (pa_cons (pv 2) (pa_cons (pv 3) pa_nil)))))) (pss_one ps_never) pss_nil)), ?_⟩
    try dsimp only [cxOf, Cx.nox, Cx.wish]
    walk_at "go"
    refine ⟨r, v, d, l, m, rfl, hd, fun H' s1 => ?_⟩
    walk_at "go"
    rw [hw]
    refine iteF ?_
    walk_at "go"
    exact q _ s1
theorem ok_need_two {f : Addr} {fd : FuncData} (F : Fun K "_need_two" "_need_two" s__need_two f fd) (C_is_fraction : Cal P w K mg base CX0 3 "is_fraction" spFrac) : FnG P w K mg base CX0 4 f fd ["one", "other"] spTwo := by
  refine okG0 F sc__need_two (fun vs H Q E h => ?_) (fun cdv A outer s H vs Q E hG hr h => ?_)
  · obtain ⟨r, v, w, p, q, rfl, _⟩ := h
    rfl
  · obtain ⟨r, v, w, p, q, rfl, hp, hq, k⟩ := h
    refine ⟨_, (pss_cons (ps_if (pt_not (pt_val (pe_f C_is_fraction hG (hr.mono (by decide)) (by rfl) pass0 (pa_cons (pv 0) pa_nil)))) (pss_one ps_never) pss_nil)
      (pss_one (ps_if (pt_not (pt_val (pe_f C_is_fraction hG (hr.mono (by decide)) (by rfl) pass0 (pa_cons (pv 1) pa_nil)))) (pss_one ps_never) pss_nil))), ?_⟩
    try dsimp only [cxOf, Cx.nox, Cx.wish]
    walk_at "go"
    refine ⟨r, v, fq p, rfl, hp.dr, fun xs e => by cases e; simp, fun H1 s1 => ?_⟩
    walk_at "go"
    rw [fracD_fq]
    refine iteF ?_
    walk_at "go"
    refine ⟨r, w, fq q, rfl, (hq.same s1).dr, fun xs e => by cases e; simp, fun H2 s2 => ?_⟩
    walk_at "go"
    rw [fracD_fq]
    refine iteF ?_
    walk_at "go"
    exact k _ (s1.trans s2)
theorem ok_reduced {f : Addr} {fd : FuncData} (F : Fun K "reduced" "reduced" s_reduced f fd) (T : TxtC mg) (C_need_integer : Cal P w K mg base CX0 3 "need_integer" spNeed) : FnG P w K mg base CX0 4 f fd ["up", "down"] spRed := by
  refine okG0 F sc_reduced (fun vs H Q E h => ?_) (fun cdv A outer s H vs Q E hG hr h => ?_)
  · obtain ⟨u, w, rfl, _⟩ := h
    rfl
  · obtain ⟨u, w, rfl, h0, hw, q⟩ := h
    refine ⟨_, (pss_cons (ps_expr (pe_f C_need_integer hG (hr.mono (by decide)) (by rfl) pass0 (pa_cons (pv 0) (pa_cons pe_str (pa_cons pe_non (pa_cons pe_non pa_nil))))))
      (pss_cons (ps_expr (pe_f C_need_integer hG (hr.mono (by decide)) (by rfl) pass0 (pa_cons (pv 1) (pa_cons pe_str (pa_cons pe_non (pa_cons pe_non pa_nil))))))
      (pss_cons (ps_if (pt_cmpR op_eq (pv 1) pe_int (nomark _)) (pss_one ps_never) pss_nil)
      (pss_cons (ps_set (i := 2) sc_reduced.nd rfl (.inl rfl) (pe_callBfun cr_gcd (by rfl) T.m_gcd (pa_cons (pv 0) (pa_cons (pv 1) pa_nil))))
      (pss_cons (ps_if (pt_cmpR op_lt (pv 1) pe_int (nomark _)) (pss_one (ps_set (i := 2) sc_reduced.nd rfl (.inl rfl) (pe_un un_neg (pv 2)))) pss_nil)
      (pss_one (ps_ret (pe_tup (pa_cons (pe_op op_fdivZ (pv 0) (pv 2)) (pa_cons (pe_op op_fdivZ (pv 1) (pv 2)) pa_nil)))))))))), ?_⟩
    try dsimp only [cxOf, Cx.nox, Cx.wish]
    walk_at "go"
    refine ⟨0, .int u, _, .int u, none, none, rfl, .int u, rfl, fun H1 s1 => ?_⟩
    walk_at "go"
    refine ⟨0, .int w, _, .int w, none, none, rfl, .int w, rfl, fun H2 s2 => ?_⟩
    walk_at "go"
    refine ite_f (decide_eq_false fun e => h0 (V.int.inj e)) ?_
    walk_at "go"
    have ok := redG_ok (u := u) h0 hw (by decide) (by decide)
    refine ite2 (fun h => ?_) (fun h => ?_)
    · walk_at "go"
      rw [show (-((Nat.gcd u.natAbs w.natAbs : Nat) : Int)) = redG u w by unfold redG; rw [if_pos (of_decide_eq_true h)]]
      refine k_I ok ?_
      walk_at "go"
      refine k_I ok ?_
      walk_at "go"
      refine ⟨small64 (by simp), fun p hp => ?_⟩
      have s3 : Same H2 (upd H2 p (.tup [.int (u.fdiv (redG u w)), .int (w.fdiv (redG u w))])) := Same.new hp
      refine q _ _ (s1.trans (s2.trans s3)) (FrN.from (s1.trans s2) ⟨p, rfl, hp, ?_⟩)
      rw [upd_same, red_up h0, red_down h0]
    · walk_at "go"
      rw [show ((Nat.gcd u.natAbs w.natAbs : Nat) : Int) = redG u w by unfold redG; rw [if_neg (fun z => h (decide_eq_true z))]]
      refine k_I ok ?_
      walk_at "go"
      refine k_I ok ?_
      walk_at "go"
      refine ⟨small64 (by simp), fun p hp => ?_⟩
      have s3 : Same H2 (upd H2 p (.tup [.int (u.fdiv (redG u w)), .int (w.fdiv (redG u w))])) := Same.new hp
      refine q _ _ (s1.trans (s2.trans s3)) (FrN.from (s1.trans s2) ⟨p, rfl, hp, ?_⟩)
      rw [upd_same, red_up h0, red_down h0]
theorem ok_added {f : Addr} {fd : FuncData} (F : Fun K "added" "added" s_added f fd) (C__need_two : Cal P w K mg base CX0 4 "_need_two" spTwo) (C_reduced : Cal P w K mg base CX0 4 "reduced" spRed) : FnG P w K mg base CX0 5 f fd ["one", "other"] (spBin (· + ·)) := by
  refine okG0 F sc_added (fun vs H Q E h => ?_) (fun cdv A outer s H vs Q E hG hr h => ?_)
  · obtain ⟨r, v, w, p, q, rfl, _⟩ := h
    rfl
  · obtain ⟨r, v, w, p, q, rfl, hp, hq, zp, zq, k⟩ := h
    refine ⟨_, (pss_cons (ps_expr (pe_f C__need_two hG (hr.mono (by decide)) (by rfl) pass0 (pa_cons (pv 0) (pa_cons (pv 1) pa_nil))))
      (pss_one (ps_ret (pe_f C_reduced hG (hr.mono (by decide)) (by rfl) pass0 (pa_cons (pe_op op_add (pe_op op_mulW (pe_ix ix_tup (pv 0) pe_int (fun _ _ => rfl)) (pe_ix ix_tup (pv 1) pe_int (fun _ _ => rfl))) (pe_op op_mulW (pe_ix ix_tup (pv 1) pe_int (fun _ _ => rfl)) (pe_ix ix_tup (pv 0) pe_int (fun _ _ => rfl)))) (pa_cons (pe_op op_mulW (pe_ix ix_tup (pv 0) pe_int (fun _ _ => rfl)) (pe_ix ix_tup (pv 1) pe_int (fun _ _ => rfl))) pa_nil)))))), ?_⟩
    try dsimp only [cxOf, Cx.nox, Cx.wish]
    walk_at "go"
    refine ⟨r, v, w, p, q, rfl, hp, hq, fun H1 s1 => ?_⟩
    replace hp := hp.same s1
    replace hq := hq.same s1
    walk_at "go"
    refine k_ix0 hp ?_
    walk_at "go"
    refine k_ix1 hq ?_
    refine k_I (wide_mul zp.1 (lt_two _ zq.2) (by decide) (by decide) (by decide)) ?_
    walk_at "go"
    refine k_ix0 hq ?_
    walk_at "go"
    refine k_ix1 hp ?_
    refine k_I (wide_mul zq.1 (lt_two _ zp.2) (by decide) (by decide) (by decide)) ?_
    walk_at "go"
    refine k_ix1 hp ?_
    walk_at "go"
    refine k_ix1 hq ?_
    refine k_I (wide_mul (lt_two _ zp.2) (lt_two _ zq.2) (by decide) (by decide) (by decide)) ?_
    walk_at "go"
    refine ⟨_, _, rfl, den_ne p q, up_lt (n := 3000 + 3000) (by decide) (wide_lt (lt_two _ zp.2) (lt_two _ zq.2)), fun H2 x s2 hx => ?_⟩
    rw [← add_divInt] at hx
    walk_at "go"
    exact k H2 x (s1.trans s2) (hx.from s1)
theorem ok_less {f : Addr} {fd : FuncData} (F : Fun K "less" "less" s_less f fd) (C__need_two : Cal P w K mg base CX0 4 "_need_two" spTwo) (C_reduced : Cal P w K mg base CX0 4 "reduced" spRed) : FnG P w K mg base CX0 5 f fd ["one", "other"] (spBin (· - ·)) := by
  refine okG0 F sc_less (fun vs H Q E h => ?_) (fun cdv A outer s H vs Q E hG hr h => ?_)
  · obtain ⟨r, v, w, p, q, rfl, _⟩ := h
    rfl
  · obtain ⟨r, v, w, p, q, rfl, hp, hq, zp, zq, k⟩ := h
    refine ⟨_, (pss_cons (ps_expr (pe_f C__need_two hG (hr.mono (by decide)) (by rfl) pass0 (pa_cons (pv 0) (pa_cons (pv 1) pa_nil))))
      (pss_one (ps_ret (pe_f C_reduced hG (hr.mono (by decide)) (by rfl) pass0 (pa_cons (pe_op op_sub (pe_op op_mulW (pe_ix ix_tup (pv 0) pe_int (fun _ _ => rfl)) (pe_ix ix_tup (pv 1) pe_int (fun _ _ => rfl))) (pe_op op_mulW (pe_ix ix_tup (pv 1) pe_int (fun _ _ => rfl)) (pe_ix ix_tup (pv 0) pe_int (fun _ _ => rfl)))) (pa_cons (pe_op op_mulW (pe_ix ix_tup (pv 0) pe_int (fun _ _ => rfl)) (pe_ix ix_tup (pv 1) pe_int (fun _ _ => rfl))) pa_nil)))))), ?_⟩
    try dsimp only [cxOf, Cx.nox, Cx.wish]
    walk_at "go"
    refine ⟨r, v, w, p, q, rfl, hp, hq, fun H1 s1 => ?_⟩
    replace hp := hp.same s1
    replace hq := hq.same s1
    walk_at "go"
    refine k_ix0 hp ?_
    walk_at "go"
    refine k_ix1 hq ?_
    refine k_I (wide_mul zp.1 (lt_two _ zq.2) (by decide) (by decide) (by decide)) ?_
    walk_at "go"
    refine k_ix0 hq ?_
    walk_at "go"
    refine k_ix1 hp ?_
    refine k_I (wide_mul zq.1 (lt_two _ zp.2) (by decide) (by decide) (by decide)) ?_
    walk_at "go"
    refine k_ix1 hp ?_
    walk_at "go"
    refine k_ix1 hq ?_
    refine k_I (wide_mul (lt_two _ zp.2) (lt_two _ zq.2) (by decide) (by decide) (by decide)) ?_
    walk_at "go"
    refine ⟨_, _, rfl, den_ne p q, up_lt (n := 3000 + 3000) (by decide) (wide_lt (lt_two _ zp.2) (lt_two _ zq.2)), fun H2 x s2 hx => ?_⟩
    rw [← sub_divInt] at hx
    walk_at "go"
    exact k H2 x (s1.trans s2) (hx.from s1)
theorem ok_multiplied {f : Addr} {fd : FuncData} (F : Fun K "multiplied" "multiplied" s_multiplied f fd) (C__need_two : Cal P w K mg base CX0 4 "_need_two" spTwo) (C_reduced : Cal P w K mg base CX0 4 "reduced" spRed) : FnG P w K mg base CX0 5 f fd ["one", "other"] (spBin (· * ·)) := by
  refine okG0 F sc_multiplied (fun vs H Q E h => ?_) (fun cdv A outer s H vs Q E hG hr h => ?_)
  · obtain ⟨r, v, w, p, q, rfl, _⟩ := h
    rfl
  · obtain ⟨r, v, w, p, q, rfl, hp, hq, zp, zq, k⟩ := h
    refine ⟨_, (pss_cons (ps_expr (pe_f C__need_two hG (hr.mono (by decide)) (by rfl) pass0 (pa_cons (pv 0) (pa_cons (pv 1) pa_nil))))
      (pss_one (ps_ret (pe_f C_reduced hG (hr.mono (by decide)) (by rfl) pass0 (pa_cons (pe_op op_mulW (pe_ix ix_tup (pv 0) pe_int (fun _ _ => rfl)) (pe_ix ix_tup (pv 1) pe_int (fun _ _ => rfl))) (pa_cons (pe_op op_mulW (pe_ix ix_tup (pv 0) pe_int (fun _ _ => rfl)) (pe_ix ix_tup (pv 1) pe_int (fun _ _ => rfl))) pa_nil)))))), ?_⟩
    try dsimp only [cxOf, Cx.nox, Cx.wish]
    walk_at "go"
    refine ⟨r, v, w, p, q, rfl, hp, hq, fun H1 s1 => ?_⟩
    replace hp := hp.same s1
    replace hq := hq.same s1
    walk_at "go"
    refine k_ix0 hp ?_
    walk_at "go"
    refine k_ix0 hq ?_
    refine k_I (wide_mul zp.1 zq.1 (by decide) (by decide) (by decide)) ?_
    walk_at "go"
    refine k_ix1 hp ?_
    walk_at "go"
    refine k_ix1 hq ?_
    refine k_I (wide_mul (lt_two _ zp.2) (lt_two _ zq.2) (by decide) (by decide) (by decide)) ?_
    walk_at "go"
    refine ⟨_, _, rfl, den_ne p q, up_lt (n := 3000 + 3000) (by decide) (wide_lt (lt_two _ zp.2) (lt_two _ zq.2)), fun H2 x s2 hx => ?_⟩
    rw [← mul_divInt] at hx
    walk_at "go"
    exact k H2 x (s1.trans s2) (hx.from s1)
theorem ok_below {f : Addr} {fd : FuncData} (F : Fun K "below" "below" s_below f fd) (C__need_two : Cal P w K mg base CX0 4 "_need_two" spTwo) : FnG P w K mg base CX0 5 f fd ["one", "other"] spBelow := by
  refine okG0 F sc_below (fun vs H Q E h => ?_) (fun cdv A outer s H vs Q E hG hr h => ?_)
  · obtain ⟨r, v, w, p, q, rfl, _⟩ := h
    rfl
  · obtain ⟨r, v, w, p, q, rfl, hp, hq, zp, zq, k⟩ := h
    refine ⟨_, (pss_cons (ps_expr (pe_f C__need_two hG (hr.mono (by decide)) (by rfl) pass0 (pa_cons (pv 0) (pa_cons (pv 1) pa_nil))))
      (pss_one (ps_ret (pe_cmpR op_lt (pe_op op_mulW (pe_ix ix_tup (pv 0) pe_int (fun _ _ => rfl)) (pe_ix ix_tup (pv 1) pe_int (fun _ _ => rfl))) (pe_op op_mulW (pe_ix ix_tup (pv 1) pe_int (fun _ _ => rfl)) (pe_ix ix_tup (pv 0) pe_int (fun _ _ => rfl))) (nomark _))))), ?_⟩
    try dsimp only [cxOf, Cx.nox, Cx.wish]
    walk_at "go"
    refine ⟨r, v, w, p, q, rfl, hp, hq, fun H1 s1 => ?_⟩
    replace hp := hp.same s1
    replace hq := hq.same s1
    walk_at "go"
    refine k_ix0 hp ?_
    walk_at "go"
    refine k_ix1 hq ?_
    refine k_I (wide_mul zp.1 (lt_two _ zq.2) (by decide) (by decide) (by decide)) ?_
    walk_at "go"
    refine k_ix0 hq ?_
    walk_at "go"
    refine k_ix1 hp ?_
    refine k_I (wide_mul zq.1 (lt_two _ zp.2) (by decide) (by decide) (by decide)) ?_
    walk_at "go"
    rw [← decide_eq_decide.mpr (Rat.lt_iff p q)]
    exact k H1 s1
end
end K04

namespace K04
open PySem PySem.Spec PyProof.Rows L2 Nd
abbrev s__law_fraction : Stmt := top 22
theorem sc__law_fraction : FnScope ["cooper", "up"] ["cooper"] (defScope s__law_fraction) := ⟨rfl, rfl, rfl, by decide +kernel, rfl, by decide +kernel, by decide +kernel⟩
abbrev s__law_order_right : Stmt := top 23
theorem sc__law_order_right : FnScope ["one", "other", "third", "by"] ["one", "other", "third"] (defScope s__law_order_right) := ⟨rfl, rfl, rfl, by decide +kernel, rfl, by decide +kernel, by decide +kernel⟩
structure TxtE (mg : Str → Option Value) : Prop extends TxtC mg where
  m_abs : mg "abs" = none
  m_range : mg "range" = none
def spFq : Sp := fun vs H Q _ => ∃ (r : Addr) (n : Nat), vs = [.ref r] ∧ Rid r n H ∧ n + 5 < 1000000 ∧ ∀ H' v q, Gr r H H' → Rid r (n + 5) H' → Fr r H' v q → Sz 128 q → Q v H'
def spOrd : Sp := fun vs H Q _ => ∃ (r : Addr) (n : Nat) (u v x : V) (a b c : Rat), vs = [u, v, x] ∧ Rid r n H ∧ Fr r H u a ∧ Fr r H v b ∧ Fr r H x c ∧ Sz 128 a ∧ Sz 128 b ∧ Sz 128 c ∧ ∀ H', Same H H' → Q (.bl true) H'
theorem sq_pos {c : Rat} (h : c ≠ 0) : 0 < c * c := by
  rcases Rat.le_total (a := c) (b := 0) with z | z
  · have : c < 0 := Rat.lt_of_le_of_ne z h
    have h2 : 0 < -c := by rw [← Rat.neg_zero]; exact Rat.neg_lt_neg this
    have := Rat.mul_pos h2 h2
    rwa [Rat.neg_mul, Rat.mul_neg, Rat.neg_neg] at this
  · have : 0 < c := Rat.lt_of_le_of_ne z (Ne.symm h)
    exact Rat.mul_pos this this
theorem by_lt (a b c : Rat) : decide (a * (c * c) < b * (c * c)) = (decide (a < b) && !decide (c = 0)) := by
  by_cases h : c = 0
  · subst h
    simp [Rat.lt_irrefl, Rat.mul_zero]
  · rw [decide_eq_false h]
    simp only [Bool.not_false, Bool.and_true]
    exact decide_eq_decide.mpr (Rat.mul_lt_mul_right (sq_pos h))
section
variable {P : Program} {w : World} {K : PySem.W.Frag} {mg : Str → Option Value} {base : Heap}
theorem ok_fraction {f : Addr} {fd : FuncData} (F : Fun K "_law_fraction" "_law_fraction" s__law_fraction f fd) (T : TxtE mg) (C__law_hoop : Cal P w K mg base CX0 1 "_law_hoop" spDraw) (C__law_stave : Cal P w K mg base CX0 2 "_law_stave" spPick) (C_reduced : Cal P w K mg base CX0 4 "reduced" spRed) : FnG P w K mg base CX0 5 f fd ["cooper"] spFq := by
  refine okG0 F sc__law_fraction (fun vs H Q E h => ?_) (fun cdv A outer s H vs Q E hG hr h => ?_)
  · obtain ⟨r, n, rfl, _⟩ := h
    rfl
  · obtain ⟨r, n, rfl, R, hn, q⟩ := h
    refine ⟨_, (pss_cons (ps_set (i := 1) sc__law_fraction.nd rfl (.inl rfl) (pe_f C__law_stave hG (hr.mono (by decide)) (by rfl) pass0 (pa_cons (pv 0) (pa_cons (pe_lst (pa_cons pe_int (pa_cons pe_int (pa_cons (pe_un un_neg pe_int) (pa_cons (pe_op op_sub (pe_f C__law_hoop hG (hr.mono (by decide)) (by rfl) pass0 (pa_cons (pv 0) (pa_cons pe_int pa_nil))) pe_int) (pa_cons (pe_op op_sub (pe_op op_pow pe_int pe_int) (pe_f C__law_hoop hG (hr.mono (by decide)) (by rfl) pass0 (pa_cons (pv 0) (pa_cons pe_int pa_nil)))) (pa_cons (pe_un un_neg (pe_op op_pow pe_int pe_int)) pa_nil))))))) pa_nil))))
      (pss_one (ps_ret (pe_f C_reduced hG (hr.mono (by decide)) (by rfl) pass0 (pa_cons (pv 1) (pa_cons (pe_f C__law_stave hG (hr.mono (by decide)) (by rfl) pass0 (pa_cons (pv 0) (pa_cons (pe_lst (pa_cons pe_int (pa_cons pe_int (pa_cons (pe_un un_neg pe_int) (pa_cons (pe_op op_add pe_int (pe_f C__law_hoop hG (hr.mono (by decide)) (by rfl) pass0 (pa_cons (pv 0) (pa_cons pe_int pa_nil)))) (pa_cons (pe_op op_pow pe_int pe_int) pa_nil)))))) pa_nil))) pa_nil)))))), ?_⟩
    try dsimp only [cxOf, Cx.nox, Cx.wish]
    walk_at "go"
    refine ⟨r, n, 40, rfl, R, by omega, by decide, by decide, fun H1 v1 g1 R1 v1a v1b => ?_⟩
    walk_at "go"
    refine k_I ⟨by decide, by decide, by decide⟩ ?_
    walk_at "go"
    refine ⟨r, n + 1, 5, rfl, R1, by omega, by decide, by decide, fun H2 v2 g2 R2 v2a v2b => ?_⟩
    walk_at "go"
    refine k_I ⟨by decide, by decide, by decide⟩ ?_
    walk_at "go"
    refine ⟨small64 (by simp), fun p hp => ?_⟩
    generalize hU : upd _ p _ = H3
    obtain ⟨s3, e3⟩ := upd_facts hU hp
    clear hU
    have np := R2.ne hp
    walk_at "go"
    refine ⟨r, p, n + 2, _, rfl, R2.same s3, by omega, np, e3, by simp, by simp, fun H4 v g4 R4 hv => ?_⟩
    have g : Gr r H H4 := g1.trans (g2.trans ((Gr.same s3).trans g4))
    have p30 : (10 : Int) ^ Int.toNat 30 = 1000000000000000000000000000000 := by decide
    have p7 : (7 : Int) ^ Int.toNat 20 = 79792266297612001 := by decide
    have p20 : (10 : Int) ^ Int.toNat 20 = 100000000000000000000 := by decide
    rw [p30, p7] at hv
    have b128 : (2 : Nat) ^ 128 = 340282366920938463463374607431768211456 := by decide
    obtain ⟨u, rfl, hu⟩ : ∃ u : Int, v = .int u ∧ u.natAbs < 2 ^ 128 := by
      rw [b128]
      simp only [List.mem_cons, List.not_mem_nil, or_false] at hv
      rcases hv with e | e | e | e | e | e <;> exact ⟨_, e, by omega⟩
    clear hv
    walk_at "go"
    refine ⟨r, n + 3, 60, rfl, R4, by omega, by decide, by decide, fun H5 v5 g5 R5 v5a v5b => ?_⟩
    walk_at "go"
    refine k_I ⟨by decide, by decide, by decide⟩ ?_
    walk_at "go"
    refine ⟨small64 (by simp), fun p6 hp6 => ?_⟩
    generalize hU : upd _ p6 _ = H6
    obtain ⟨s6, e6⟩ := upd_facts hU hp6
    clear hU
    have np6 := R5.ne hp6
    walk_at "go"
    refine ⟨r, p6, n + 4, _, rfl, R5.same s6, by omega, np6, e6, by simp, by simp, fun H7 x g7 R7 hx => ?_⟩
    rw [p20] at hx
    obtain ⟨d, rfl, hd0, hd⟩ : ∃ d : Int, x = .int d ∧ d ≠ 0 ∧ d.natAbs < 2 ^ 128 := by
      rw [b128]
      simp only [List.mem_cons, List.not_mem_nil, or_false] at hx
      rcases hx with e | e | e | e | e <;> exact ⟨_, e, by omega, by omega⟩
    clear hx
    walk_at "go"
    refine ⟨u, d, rfl, hd0, up_lt (n := 128) (by decide) hd, fun H8 y s8 hy => ?_⟩
    walk_at "go"
    exact q H8 y _ (g.trans (g5.trans ((Gr.same s6).trans (g7.trans (Gr.same s8))))) (R7.same s8) (hy.fr R7) (sz_divInt hd0 hu hd)
theorem ok_order_right {f : Addr} {fd : FuncData} (F : Fun K "_law_order_right" "_law_order_right" s__law_order_right f fd) (C_added : Cal P w K mg base CX0 5 "added" (spBin (· + ·))) (C_less : Cal P w K mg base CX0 5 "less" (spBin (· - ·))) (C_multiplied : Cal P w K mg base CX0 5 "multiplied" (spBin (· * ·))) (C_below : Cal P w K mg base CX0 5 "below" spBelow) : FnG P w K mg base CX0 6 f fd ["one", "other", "third"] spOrd := by
  refine okG0 F sc__law_order_right (fun vs H Q E h => ?_) (fun cdv A outer s H vs Q E hG hr h => ?_)
  · obtain ⟨r, n, u, v, x, a, b, c, rfl, _⟩ := h
    rfl
  · obtain ⟨r, n, u, v, x, a, b, c, rfl, R, fa, fb, fc, za, zb, zc, q⟩ := h
    refine ⟨_, (pss_cons (ps_if (PW.pt (pw_or (pt_cmpR op_ne (pe_bm PySem.F.plainAttrs_list PySem.F.slot_list_count PySem.F.type_list_count mt_lcountB (pe_lst (pa_cons (pe_f C_below hG (hr.mono (by decide)) (by rfl) pass0 (pa_cons (pv 0) (pa_cons (pv 1) pa_nil))) (pa_cons (pe_f C_below hG (hr.mono (by decide)) (by rfl) pass0 (pa_cons (pv 1) (pa_cons (pv 0) pa_nil))) (pa_cons (pe_cmpR (op_eqD hr.units) (pv 0) (pv 1) (nomark _)) pa_nil)))) (pa_cons pe_bl pa_nil)) pe_int (nomark _)) (pw_or1 (pt_val (pe_f C_below hG (hr.mono (by decide)) (by rfl) pass0 (pa_cons (pv 0) (pa_cons (pv 0) pa_nil))))))) (pss_one (ps_ret pe_bl)) pss_nil)
      (pss_cons (ps_if (PW.pt (pw_or (pt_cmpR op_ne (pe_f C_below hG (hr.mono (by decide)) (by rfl) pass0 (pa_cons (pe_f C_added hG (hr.mono (by decide)) (by rfl) pass0 (pa_cons (pv 0) (pa_cons (pv 2) pa_nil))) (pa_cons (pe_f C_added hG (hr.mono (by decide)) (by rfl) pass0 (pa_cons (pv 1) (pa_cons (pv 2) pa_nil))) pa_nil))) (pe_f C_below hG (hr.mono (by decide)) (by rfl) pass0 (pa_cons (pv 0) (pa_cons (pv 1) pa_nil))) (nomark _)) (pw_or1 (pt_cmpR op_ne (pe_f C_below hG (hr.mono (by decide)) (by rfl) pass0 (pa_cons (pe_f C_less hG (hr.mono (by decide)) (by rfl) pass0 (pa_cons (pe_tup (pa_cons pe_int (pa_cons pe_int pa_nil))) (pa_cons (pv 1) pa_nil))) (pa_cons (pe_f C_less hG (hr.mono (by decide)) (by rfl) pass0 (pa_cons (pe_tup (pa_cons pe_int (pa_cons pe_int pa_nil))) (pa_cons (pv 0) pa_nil))) pa_nil))) (pe_f C_below hG (hr.mono (by decide)) (by rfl) pass0 (pa_cons (pv 0) (pa_cons (pv 1) pa_nil))) (nomark _))))) (pss_one (ps_ret pe_bl)) pss_nil)
      (pss_cons (ps_if (PW.pt (pw_and (pt_val (pe_f C_below hG (hr.mono (by decide)) (by rfl) pass0 (pa_cons (pv 0) (pa_cons (pv 1) pa_nil)))) (pw_and (pt_val (pe_f C_below hG (hr.mono (by decide)) (by rfl) pass0 (pa_cons (pv 1) (pa_cons (pv 2) pa_nil)))) (pw_and1 (pt_not (pt_val (pe_f C_below hG (hr.mono (by decide)) (by rfl) pass0 (pa_cons (pv 0) (pa_cons (pv 2) pa_nil))))))))) (pss_one (ps_ret pe_bl)) pss_nil)
      (pss_cons (ps_set (i := 3) sc__law_order_right.nd rfl (.inl rfl) (pe_f C_multiplied hG (hr.mono (by decide)) (by rfl) pass0 (pa_cons (pv 2) (pa_cons (pv 2) pa_nil))))
      (pss_one (ps_ret (pe_cmpR op_eq (pe_f C_below hG (hr.mono (by decide)) (by rfl) pass0 (pa_cons (pe_f C_multiplied hG (hr.mono (by decide)) (by rfl) pass0 (pa_cons (pv 0) (pa_cons (pv 3) pa_nil))) (pa_cons (pe_f C_multiplied hG (hr.mono (by decide)) (by rfl) pass0 (pa_cons (pv 1) (pa_cons (pv 3) pa_nil))) pa_nil))) (pe_and (pe_f C_below hG (hr.mono (by decide)) (by rfl) pass0 (pa_cons (pv 0) (pa_cons (pv 1) pa_nil))) (pe_one (pe_cmpR (op_neD hr.units) (pv 2) (pe_tup (pa_cons pe_int (pa_cons pe_int pa_nil))) (nomark _)))) (nomark _)))))))), ?_⟩
    try dsimp only [cxOf, Cx.nox, Cx.wish]
    have S := Same.refl H
    walk_at "go"
    refine ⟨r, _, _, _, _, rfl, fa, fb, Sz.le za (by decide), Sz.le zb (by decide), fun H1 s1 => ?_⟩
    replace R := R.same s1
    replace fa := fa.same s1
    replace fb := fb.same s1
    replace fc := fc.same s1
    replace S := S.trans s1
    walk_at "go"
    refine ⟨r, _, _, _, _, rfl, fb, fa, Sz.le zb (by decide), Sz.le za (by decide), fun H2 s2 => ?_⟩
    replace R := R.same s2
    replace fa := fa.same s2
    replace fb := fb.same s2
    replace fc := fc.same s2
    replace S := S.trans s2
    walk_at "go"
    refine k_eqD fa.dp fb.dp (sh_fq _) (sh_fq _) ?_
    rw [eqv_fq]
    walk_at "go"
    refine ⟨small64 (by simp), fun pc hpc => ?_⟩
    generalize hU : upd _ pc _ = HC
    obtain ⟨sc, ec⟩ := upd_facts hU hpc
    clear hU
    replace R := R.same sc
    replace fa := fa.same sc
    replace fb := fb.same sc
    replace fc := fc.same sc
    replace S := S.trans sc
    walk_at "go"
    refine ⟨.inl ⟨rfl, _, .inl (.inl ec)⟩, ?_⟩
    walk_at "go"
    refine k_cntB (bs := [decide (a < b), decide (b < a), decide (a = b)]) (.inl (.inl ec)) ?_
    walk_at "go"
    refine ite_f (by rw [cnt3]; rfl) ?_
    walk_at "go"
    refine ⟨r, _, _, _, _, rfl, fa, fa, Sz.le za (by decide), Sz.le za (by decide), fun H3 s3 => ?_⟩
    replace R := R.same s3
    replace fa := fa.same s3
    replace fb := fb.same s3
    replace fc := fc.same s3
    replace S := S.trans s3
    walk_at "go"
    refine ite_f (decide_eq_false Rat.lt_irrefl) ?_
    walk_at "go"
    refine ⟨r, _, _, _, _, rfl, fa, fc, Sz.le za (by decide), Sz.le zc (by decide), fun H4 x4 s4 hx4 => ?_⟩
    have f4 : Fr r H4 x4 (a + c) := hx4.fr R
    clear hx4
    replace R := R.same s4
    replace fa := fa.same s4
    replace fb := fb.same s4
    replace fc := fc.same s4
    replace S := S.trans s4
    walk_at "go"
    refine ⟨r, _, _, _, _, rfl, fb, fc, Sz.le zb (by decide), Sz.le zc (by decide), fun H5 x5 s5 hx5 => ?_⟩
    have f5 : Fr r H5 x5 (b + c) := hx5.fr R
    clear hx5
    replace R := R.same s5
    replace fa := fa.same s5
    replace fb := fb.same s5
    replace fc := fc.same s5
    replace f4 := f4.same s5
    replace S := S.trans s5
    walk_at "go"
    refine ⟨r, _, _, _, _, rfl, f4, f5, Sz.le (Sz.add za zc) (by decide), Sz.le (Sz.add zb zc) (by decide), fun H6 s6 => ?_⟩
    replace R := R.same s6
    replace fa := fa.same s6
    replace fb := fb.same s6
    replace fc := fc.same s6
    replace S := S.trans s6
    walk_at "go"
    refine ⟨r, _, _, _, _, rfl, fa, fb, Sz.le za (by decide), Sz.le zb (by decide), fun H7 s7 => ?_⟩
    replace R := R.same s7
    replace fa := fa.same s7
    replace fb := fb.same s7
    replace fc := fc.same s7
    replace S := S.trans s7
    walk_at "go"
    refine ite_f (ne_bl (decide_eq_decide.mpr (show ((a + c) < (b + c)) ↔ (a < b) from Rat.add_lt_add_right))) ?_
    walk_at "go"
    refine ⟨small64 (by simp), fun p8 hp8 => ?_⟩
    generalize hU : upd _ p8 _ = H8
    obtain ⟨s8, e8⟩ := upd_facts hU hp8
    clear hU
    have f8 : Fr r H8 (.ref p8) 0 := Fr.two (R.ne hp8) e8 rfl rfl
    clear hp8
    replace R := R.same s8
    replace fa := fa.same s8
    replace fb := fb.same s8
    replace fc := fc.same s8
    replace S := S.trans s8
    walk_at "go"
    refine ⟨r, _, _, _, _, rfl, f8, fb, Sz.le sz0 (by decide), Sz.le zb (by decide), fun H9 x9 s9 hx9 => ?_⟩
    have f9 : Fr r H9 x9 (0 - b) := hx9.fr R
    clear hx9
    replace R := R.same s9
    replace fa := fa.same s9
    replace fb := fb.same s9
    replace fc := fc.same s9
    replace S := S.trans s9
    walk_at "go"
    refine ⟨small64 (by simp), fun p10 hp10 => ?_⟩
    generalize hU : upd _ p10 _ = H10
    obtain ⟨s10, e10⟩ := upd_facts hU hp10
    clear hU
    have f10 : Fr r H10 (.ref p10) 0 := Fr.two (R.ne hp10) e10 rfl rfl
    clear hp10
    replace R := R.same s10
    replace fa := fa.same s10
    replace fb := fb.same s10
    replace fc := fc.same s10
    replace f9 := f9.same s10
    replace S := S.trans s10
    walk_at "go"
    refine ⟨r, _, _, _, _, rfl, f10, fa, Sz.le sz0 (by decide), Sz.le za (by decide), fun H11 x11 s11 hx11 => ?_⟩
    have f11 : Fr r H11 x11 (0 - a) := hx11.fr R
    clear hx11
    replace R := R.same s11
    replace fa := fa.same s11
    replace fb := fb.same s11
    replace fc := fc.same s11
    replace f9 := f9.same s11
    replace S := S.trans s11
    walk_at "go"
    refine ⟨r, _, _, _, _, rfl, f9, f11, Sz.le (Sz.sub sz0 zb) (by decide), Sz.le (Sz.sub sz0 za) (by decide), fun H12 s12 => ?_⟩
    replace R := R.same s12
    replace fa := fa.same s12
    replace fb := fb.same s12
    replace fc := fc.same s12
    replace S := S.trans s12
    walk_at "go"
    refine ⟨r, _, _, _, _, rfl, fa, fb, Sz.le za (by decide), Sz.le zb (by decide), fun H13 s13 => ?_⟩
    replace R := R.same s13
    replace fa := fa.same s13
    replace fb := fb.same s13
    replace fc := fc.same s13
    replace S := S.trans s13
    walk_at "go"
    refine ite_f (ne_bl (decide_eq_decide.mpr (show ((0 - b) < (0 - a)) ↔ (a < b) from by rw [Rat.sub_eq_add_neg, Rat.sub_eq_add_neg, Rat.zero_add, Rat.zero_add]; exact Rat.neg_lt_neg_iff))) ?_
    walk_at "ga"
    refine k_cutT false (fun Q' k => ?_) (fun HT sT => ?_)
    · walk_at "go"
      refine ⟨r, _, _, _, _, rfl, fa, fb, Sz.le za (by decide), Sz.le zb (by decide), fun H1 s1 => ?_⟩
      walk_at "go"
      refine ite2 (fun h1 => ?_) (fun h1 => k _ s1)
      walk_at "go"
      refine ⟨r, _, _, _, _, rfl, fb.same s1, fc.same s1, Sz.le zb (by decide), Sz.le zc (by decide), fun H2 s2 => ?_⟩
      walk_at "go"
      refine ite2 (fun h2 => ?_) (fun h2 => k _ (s1.trans s2))
      walk_at "go"
      refine ⟨r, _, _, _, _, rfl, (fa.same s1).same s2, (fc.same s1).same s2, Sz.le za (by decide), Sz.le zc (by decide), fun H3 s3 => ?_⟩
      walk_at "go"
      have h3 : a < c := Rat.lt_iff_le_and_not_ge.mpr ⟨Rat.le_trans (Rat.le_of_lt (of_decide_eq_true h1)) (Rat.le_of_lt (of_decide_eq_true h2)), fun z => absurd (of_decide_eq_true h1) (Rat.not_lt.mpr (Rat.le_trans (Rat.le_of_lt (of_decide_eq_true h2)) z))⟩
      rw [decide_eq_true h3]
      exact k _ (s1.trans (s2.trans s3))
    replace R := R.same sT
    replace fa := fa.same sT
    replace fb := fb.same sT
    replace fc := fc.same sT
    replace S := S.trans sT
    refine iteF ?_
    walk_at "go"
    refine ⟨r, _, _, _, _, rfl, fc, fc, Sz.le zc (by decide), Sz.le zc (by decide), fun H14 x14 s14 hx14 => ?_⟩
    have f14 : Fr r H14 x14 (c * c) := hx14.fr R
    clear hx14
    replace R := R.same s14
    replace fa := fa.same s14
    replace fb := fb.same s14
    replace fc := fc.same s14
    replace S := S.trans s14
    walk_at "go"
    refine ⟨r, _, _, _, _, rfl, fa, f14, Sz.le za (by decide), Sz.le (Sz.mul zc zc) (by decide), fun H15 x15 s15 hx15 => ?_⟩
    have f15 : Fr r H15 x15 (a * (c * c)) := hx15.fr R
    clear hx15
    replace R := R.same s15
    replace fa := fa.same s15
    replace fb := fb.same s15
    replace fc := fc.same s15
    replace f14 := f14.same s15
    replace S := S.trans s15
    walk_at "go"
    refine ⟨r, _, _, _, _, rfl, fb, f14, Sz.le zb (by decide), Sz.le (Sz.mul zc zc) (by decide), fun H16 x16 s16 hx16 => ?_⟩
    have f16 : Fr r H16 x16 (b * (c * c)) := hx16.fr R
    clear hx16
    replace R := R.same s16
    replace fa := fa.same s16
    replace fb := fb.same s16
    replace fc := fc.same s16
    replace f14 := f14.same s16
    replace f15 := f15.same s16
    replace S := S.trans s16
    walk_at "go"
    refine ⟨r, _, _, _, _, rfl, f15, f16, Sz.le (Sz.mul za (Sz.mul zc zc)) (by decide), Sz.le (Sz.mul zb (Sz.mul zc zc)) (by decide), fun H17 s17 => ?_⟩
    replace R := R.same s17
    replace fa := fa.same s17
    replace fb := fb.same s17
    replace fc := fc.same s17
    replace f14 := f14.same s17
    replace S := S.trans s17
    walk_at "ga"
    dsimp only
    refine k_cutE (.bl (decide (a < b) && !decide (c = 0))) (fun Q' k => ?_) (fun HT2 sT2 => ?_)
    · walk_at "go"
      refine ⟨r, _, _, _, _, rfl, fa, fb, Sz.le za (by decide), Sz.le zb (by decide), fun H1 s1 => ?_⟩
      walk_at "go"
      by_cases h1 : a < b
      · rw [decide_eq_true h1] at k ⊢
        refine iteT ?_
        walk_at "go"
        refine ⟨small64 (by simp), fun p2 hp2 => ?_⟩
        generalize hU : upd _ p2 _ = H2
        obtain ⟨s2, e2⟩ := upd_facts hU hp2
        clear hU
        have f2 : Fr r H2 (.ref p2) 0 := Fr.two ((R.same s1).ne hp2) e2 rfl rfl
        refine k_neD ((fc.same s1).same s2).dp f2.dp (sh_fq _) (sh_fq _) ?_
        rw [eqv_fq]
        walk_at "go"
        exact k _ (s1.trans s2)
      · rw [decide_eq_false h1] at k ⊢
        exact iteF (k _ s1)
    replace R := R.same sT2
    replace fa := fa.same sT2
    replace fb := fb.same sT2
    replace fc := fc.same sT2
    replace f14 := f14.same sT2
    replace S := S.trans sT2
    walk_at "go"
    rw [by_lt]
    have := q _ S
    simpa using this
end
end K04

namespace K04
open PySem PySem.Spec PyProof.Rows L2 Nd
abbrev s_law : Stmt := top 24
theorem sc_law : FnScope ["script", "cooper", "turn", "one", "other", "third", "told", "part", "each"] ["script"] (defScope s_law) := ⟨rfl, rfl, rfl, by decide +kernel, rfl, by decide +kernel, by decide +kernel⟩
def spLaw (K : PySem.W.Frag) : Sp := fun vs H Q _ => ∃ (a : Addr) (ns : List Int), vs = [.ref a] ∧ SqL K H a (ns.map V.int) ∧ ns.length ≤ 63 ∧ ∀ H', Q (.bl true) H'
def PrF (r : Addr) (H : Hp) (v : V) : Prop := ∃ q, Fr r H v q ∧ Sz 128 q
theorem told_eq (a b : Rat) : [a + b, b + a, a + b - b, a - (a - b), a + 0, a * 1] = [a + b, a + b, a, b, a, a] := by
  simp only [List.cons.injEq, and_true, true_and]
  refine ⟨Rat.add_comm b a, Rat.add_sub_cancel, ?_, Rat.add_zero a, Rat.mul_one a⟩
  grind
theorem inv_le {a : Rat} (h : a.num ≠ 0) : Rat.divInt (a.den : Int) a.num = a⁻¹ := (Rat.inv_def a).symm
section
variable {P : Program} {w : World} {K : PySem.W.Frag} {mg : Str → Option Value} {base : Heap}
theorem ok_law {f : Addr} {fd : FuncData} (F : Fun K "law" "law" s_law f fd) (T : TxtE mg)
    (C__law_cooper : Cal P w K mg base CX0 1 "_law_cooper" (spRiddle K)) (C__law_fraction : Cal P w K mg base CX0 5 "_law_fraction" spFq) (C__law_order_right : Cal P w K mg base CX0 6 "_law_order_right" spOrd)
    (C_is_fraction : Cal P w K mg base CX0 3 "is_fraction" spFrac) (C_reduced : Cal P w K mg base CX0 4 "reduced" spRed)
    (C_added : Cal P w K mg base CX0 5 "added" (spBin (· + ·))) (C_less : Cal P w K mg base CX0 5 "less" (spBin (· - ·))) (C_multiplied : Cal P w K mg base CX0 5 "multiplied" (spBin (· * ·))) (C_below : Cal P w K mg base CX0 5 "below" spBelow) :
    FnG P w K mg base CX0 7 f fd ["script"] (spLaw K) := by
  refine okG0 F sc_law (fun vs H Q E h => ?_) (fun cdv A outer s H vs Q E hG hr h => ?_)
  · obtain ⟨a, ns, rfl, _⟩ := h
    rfl
  · obtain ⟨a, ns, rfl, hS, hlen, q⟩ := h
    refine ⟨_, (pss_cons (ps_set (i := 1) sc_law.nd rfl (.inr rfl) (pe_f C__law_cooper hG (hr.mono (by decide)) (by rfl) pass0 (pa_cons (pv 0) pa_nil)))
      (pss_cons (ps_for PassesOwn.never rfl (pi_range1 rfl T.m_range (pa_cons pe_int pa_nil)) (pg_name (i := 2) sc_law.nd rfl (.inl rfl)) (pss_cons (ps_asg (pe_lc (own := [("part", 7)]) (g := gName 7) (tt := tYes) rfl sc_law.nd (pi_range1 rfl T.m_range (pa_cons pe_int pa_nil)) (blkOk_by (own := [("part", 7)]) (N := ["script", "cooper", "turn", "one", "other", "third", "told", "part", "each"]) (sc := defScope s_law) (by decide +kernel)) (fun _ _ _ _ _ => pg_name (i := 7) sc_law.nd rfl (Or.inl rfl)) (fun _ _ _ _ _ => pts_nil) (fun _ _ _ _ _ => (pe_f C__law_fraction hG (hr.mono (by decide)) (by rfl) pass0 (pa_cons (pv 1) pa_nil)))) (pg_unl (by rfl) (pgs_cons (pg_name (i := 3) sc_law.nd rfl (.inl rfl)) (pgs_cons (pg_name (i := 4) sc_law.nd rfl (.inl rfl)) (pgs_cons (pg_name (i := 5) sc_law.nd rfl (.inl rfl)) pgs_nil)))))
      (pss_cons (ps_set (i := 6) sc_law.nd rfl (.inl rfl) (pe_lst (pa_cons (pe_f C_added hG (hr.mono (by decide)) (by rfl) pass0 (pa_cons (pv 3) (pa_cons (pv 4) pa_nil))) (pa_cons (pe_f C_added hG (hr.mono (by decide)) (by rfl) pass0 (pa_cons (pv 4) (pa_cons (pv 3) pa_nil))) (pa_cons (pe_f C_less hG (hr.mono (by decide)) (by rfl) pass0 (pa_cons (pe_f C_added hG (hr.mono (by decide)) (by rfl) pass0 (pa_cons (pv 3) (pa_cons (pv 4) pa_nil))) (pa_cons (pv 4) pa_nil))) (pa_cons (pe_f C_less hG (hr.mono (by decide)) (by rfl) pass0 (pa_cons (pv 3) (pa_cons (pe_f C_less hG (hr.mono (by decide)) (by rfl) pass0 (pa_cons (pv 3) (pa_cons (pv 4) pa_nil))) pa_nil))) (pa_cons (pe_f C_added hG (hr.mono (by decide)) (by rfl) pass0 (pa_cons (pv 3) (pa_cons (pe_tup (pa_cons pe_int (pa_cons pe_int pa_nil))) pa_nil))) (pa_cons (pe_f C_multiplied hG (hr.mono (by decide)) (by rfl) pass0 (pa_cons (pv 3) (pa_cons (pe_tup (pa_cons pe_int (pa_cons pe_int pa_nil))) pa_nil))) pa_nil))))))))
      (pss_cons (ps_if (PW.pt (pw_or (pt_cmpR (op_neD hr.units) (pv 6) (pe_lst (pa_cons (pe_ix ix_list (pv 6) pe_int (fun _ _ => rfl)) (pa_cons (pe_ix ix_list (pv 6) pe_int (fun _ _ => rfl)) (pa_cons (pv 3) (pa_cons (pv 4) (pa_cons (pv 3) (pa_cons (pv 3) pa_nil))))))) (nomark _)) (pw_or1 (pt_cmpR (op_neD hr.units) (pe_lc (own := [("each", 8)]) (g := gName 8) rfl sc_law.nd (pi_list (pv 6)) (blkOk_by (own := [("each", 8)]) (N := ["script", "cooper", "turn", "one", "other", "third", "told", "part", "each"]) (sc := defScope s_law) (by decide +kernel)) (fun _ _ _ _ _ => pg_name (i := 8) sc_law.nd rfl (Or.inl rfl)) (fun _ _ _ _ _ => pts_one (PW.pt (pw_or (pt_not (pt_val (pe_f C_is_fraction hG (hr.mono (by decide)) (by rfl) pass0 (pa_cons (pv 8) pa_nil)))) (pw_or1 (pt_not (pt_val (pe_callB (id := "isinstance") (show CallR _ _ (rIsi K) from call_isi) (by rfl) T.m_isinstance (by decide +kernel) (pa_cons (pv 8) (pa_cons (pe_bltn (v := .ty "tuple") (u := .type "tuple") (by rfl) T.m_tuple (by decide +kernel) rfl) pa_nil))))))))) (fun _ _ _ _ _ => (pv 8))) (pe_lst pa_nil) (nomark _))))) (pss_one (ps_ret pe_bl)) pss_nil)
      (pss_cons (ps_if (PW.pt (pw_or (pt_cmpR (op_neD hr.units) (pe_f C_added hG (hr.mono (by decide)) (by rfl) pass0 (pa_cons (pe_f C_added hG (hr.mono (by decide)) (by rfl) pass0 (pa_cons (pv 3) (pa_cons (pv 4) pa_nil))) (pa_cons (pv 5) pa_nil))) (pe_f C_added hG (hr.mono (by decide)) (by rfl) pass0 (pa_cons (pv 3) (pa_cons (pe_f C_added hG (hr.mono (by decide)) (by rfl) pass0 (pa_cons (pv 4) (pa_cons (pv 5) pa_nil))) pa_nil))) (nomark _)) (pw_or1 (pt_cmpR (op_neD hr.units) (pe_f C_multiplied hG (hr.mono (by decide)) (by rfl) pass0 (pa_cons (pe_f C_multiplied hG (hr.mono (by decide)) (by rfl) pass0 (pa_cons (pv 3) (pa_cons (pv 4) pa_nil))) (pa_cons (pv 5) pa_nil))) (pe_f C_multiplied hG (hr.mono (by decide)) (by rfl) pass0 (pa_cons (pv 3) (pa_cons (pe_f C_multiplied hG (hr.mono (by decide)) (by rfl) pass0 (pa_cons (pv 4) (pa_cons (pv 5) pa_nil))) pa_nil))) (nomark _))))) (pss_one (ps_ret pe_bl)) pss_nil)
      (pss_cons (ps_if (PW.pt (pw_or (pt_cmpR (op_neD hr.units) (pe_f C_multiplied hG (hr.mono (by decide)) (by rfl) pass0 (pa_cons (pv 3) (pa_cons (pe_f C_added hG (hr.mono (by decide)) (by rfl) pass0 (pa_cons (pv 4) (pa_cons (pv 5) pa_nil))) pa_nil))) (pe_f C_added hG (hr.mono (by decide)) (by rfl) pass0 (pa_cons (pe_f C_multiplied hG (hr.mono (by decide)) (by rfl) pass0 (pa_cons (pv 3) (pa_cons (pv 4) pa_nil))) (pa_cons (pe_f C_multiplied hG (hr.mono (by decide)) (by rfl) pass0 (pa_cons (pv 3) (pa_cons (pv 5) pa_nil))) pa_nil))) (nomark _)) (pw_or1 (pt_cmpR (op_neD hr.units) (pe_f C_multiplied hG (hr.mono (by decide)) (by rfl) pass0 (pa_cons (pv 3) (pa_cons (pv 4) pa_nil))) (pe_f C_multiplied hG (hr.mono (by decide)) (by rfl) pass0 (pa_cons (pv 4) (pa_cons (pv 3) pa_nil))) (nomark _))))) (pss_one (ps_ret pe_bl)) pss_nil)
      (pss_cons (ps_if (PW.pt (pw_or (pt_cmpR (op_neD hr.units) (pe_f C_less hG (hr.mono (by decide)) (by rfl) pass0 (pa_cons (pv 3) (pa_cons (pv 3) pa_nil))) (pe_tup (pa_cons pe_int (pa_cons pe_int pa_nil))) (nomark _)) (pw_or (pt_cmpR (op_neD hr.units) (pe_f C_multiplied hG (hr.mono (by decide)) (by rfl) pass0 (pa_cons (pv 3) (pa_cons (pe_tup (pa_cons pe_int (pa_cons pe_int pa_nil))) pa_nil))) (pe_tup (pa_cons pe_int (pa_cons pe_int pa_nil))) (nomark _)) (pw_or1 (pt_cmpR (op_neD hr.units) (pe_f C_added hG (hr.mono (by decide)) (by rfl) pass0 (pa_cons (pv 3) (pa_cons (pe_f C_multiplied hG (hr.mono (by decide)) (by rfl) pass0 (pa_cons (pe_tup (pa_cons (pe_un un_neg pe_int) (pa_cons pe_int pa_nil))) (pa_cons (pv 3) pa_nil))) pa_nil))) (pe_tup (pa_cons pe_int (pa_cons pe_int pa_nil))) (nomark _)))))) (pss_one (ps_ret pe_bl)) pss_nil)
      (pss_cons (ps_if (PW.pt (pw_and (pt_cmpR op_ne (pe_ix ix_tup (pv 3) pe_int (fun _ _ => rfl)) pe_int (nomark _)) (pw_and1 (pt_cmpR (op_neD hr.units) (pe_f C_multiplied hG (hr.mono (by decide)) (by rfl) pass0 (pa_cons (pv 3) (pa_cons (pe_f C_reduced hG (hr.mono (by decide)) (by rfl) pass0 (pa_cons (pe_ix ix_tup (pv 3) pe_int (fun _ _ => rfl)) (pa_cons (pe_ix ix_tup (pv 3) pe_int (fun _ _ => rfl)) pa_nil))) pa_nil))) (pe_tup (pa_cons pe_int (pa_cons pe_int pa_nil))) (nomark _))))) (pss_one (ps_ret pe_bl)) pss_nil)
      (pss_one (ps_if (pt_not (pt_val (pe_f C__law_order_right hG (hr.mono (by decide)) (by rfl) pass0 (pa_cons (pv 3) (pa_cons (pv 4) (pa_cons (pv 5) pa_nil)))))) (pss_one (ps_ret pe_bl)) pss_nil))))))))))
      (pss_one (ps_ret pe_bl)))), ?_⟩
    try dsimp only [cxOf, Cx.nox, Cx.wish]
    walk_at "ga"
    refine ⟨a, ns, rfl, hS, hlen, fun H1 r s1 nr R0 => ?_⟩
    walk_at "ga"
    refine ⟨by decide, by decide, ?_⟩
    refine forIn_R (fun i σ H' => Rid r (15 * i) H' ∧ ∃ x2 x3 x4 x5 x6 x7 x8, σ = [some (.ref a), some (.ref r), x2, x3, x4, x5, x6, x7, x8]) ⟨R0, _, _, _, _, _, _, _, rfl⟩ (fun i σ H2 hi hP => ?_) (fun σ H2 hP => ?_)
    · obtain ⟨R2, x2, x3, x4, x5, x6, x7, x8, rfl⟩ := hP
      have hi' : i < 4 := hi
      walk_at "ga"
      refine ⟨by decide, by decide, ?_⟩
      refine lcIn_draw (r := r) (m := 15 * i) (k := 5) (PrF r) (fun H H' v g ⟨q, h1, h2⟩ => ⟨q, h1.gr g, h2⟩) (fun H D xs ys v e ⟨q, h1, h2⟩ => ⟨q, h1.put e, h2⟩) (by decide) (fun x => rfl) R2 (fun k H3 hk R3 g3 QE kk => ?_) (fun p H3 ys hp g3 R3 np e3 hl hall => ?_)
      · walk_at "ga"
        refine ⟨r, _, rfl, R3, by have : k < 3 := hk; omega, fun H4 v q g4 R4 hf hz => ?_⟩
        exact kk H4 v g4 (by rw [Nat.mul_add, ← Nat.add_assoc]; exact R4) ⟨q, hf, hz⟩
      · obtain ⟨u, v, x, rfl⟩ : ∃ u v x, ys = [u, v, x] := by
          match ys, hl with
          | [u, v, x], _ => exact ⟨u, v, x, rfl⟩
        obtain ⟨qa, fa, za⟩ := hall u (by simp)
        obtain ⟨qb, fb, zb⟩ := hall v (by simp)
        obtain ⟨qc, fc, zc⟩ := hall x (by simp)
        have R : Rid r (15 * (i + 1)) H3 := by
          rw [Nat.mul_add]
          exact R3
        clear R2 R3 g3 hall R0
        walk_at "ga"
        refine k_gunl (.inl (.inl e3)) rfl ?_
        clear e3 hp
        walk_at "go"
        refine ⟨r, _, _, _, _, rfl, fa, fb, Sz.le za (by decide), Sz.le zb (by decide), fun H1 x1 s1 hx1 => ?_⟩
        have f1 : Fr r H1 x1 (qa + qb) := hx1.fr R
        clear hx1
        replace R := R.same s1
        replace fa := fa.same s1
        replace fb := fb.same s1
        replace fc := fc.same s1
        walk_at "go"
        refine ⟨r, _, _, _, _, rfl, fb, fa, Sz.le zb (by decide), Sz.le za (by decide), fun H2 x2 s2 hx2 => ?_⟩
        have f2 : Fr r H2 x2 (qb + qa) := hx2.fr R
        clear hx2
        replace R := R.same s2
        replace fa := fa.same s2
        replace fb := fb.same s2
        replace fc := fc.same s2
        replace f1 := f1.same s2
        walk_at "go"
        refine ⟨r, _, _, _, _, rfl, fa, fb, Sz.le za (by decide), Sz.le zb (by decide), fun H3 x3 s3 hx3 => ?_⟩
        have f3 : Fr r H3 x3 (qa + qb) := hx3.fr R
        clear hx3
        replace R := R.same s3
        replace fa := fa.same s3
        replace fb := fb.same s3
        replace fc := fc.same s3
        replace f1 := f1.same s3
        replace f2 := f2.same s3
        walk_at "go"
        refine ⟨r, _, _, _, _, rfl, f3, fb, Sz.le (Sz.add za zb) (by decide), Sz.le zb (by decide), fun H4 x4 s4 hx4 => ?_⟩
        have f4 : Fr r H4 x4 ((qa + qb) - qb) := hx4.fr R
        clear hx4
        replace R := R.same s4
        replace fa := fa.same s4
        replace fb := fb.same s4
        replace fc := fc.same s4
        replace f1 := f1.same s4
        replace f2 := f2.same s4
        walk_at "go"
        refine ⟨r, _, _, _, _, rfl, fa, fb, Sz.le za (by decide), Sz.le zb (by decide), fun H5 x5 s5 hx5 => ?_⟩
        have f5 : Fr r H5 x5 (qa - qb) := hx5.fr R
        clear hx5
        replace R := R.same s5
        replace fa := fa.same s5
        replace fb := fb.same s5
        replace fc := fc.same s5
        replace f1 := f1.same s5
        replace f2 := f2.same s5
        replace f4 := f4.same s5
        walk_at "go"
        refine ⟨r, _, _, _, _, rfl, fa, f5, Sz.le za (by decide), Sz.le (Sz.sub za zb) (by decide), fun H6 x6 s6 hx6 => ?_⟩
        have f6 : Fr r H6 x6 (qa - (qa - qb)) := hx6.fr R
        clear hx6
        replace R := R.same s6
        replace fa := fa.same s6
        replace fb := fb.same s6
        replace fc := fc.same s6
        replace f1 := f1.same s6
        replace f2 := f2.same s6
        replace f4 := f4.same s6
        walk_at "go"
        refine ⟨small64 (by simp), fun p7 hp7 => ?_⟩
        generalize hU : upd _ p7 _ = H7
        obtain ⟨s7, e7⟩ := upd_facts hU hp7
        clear hU
        have f7 : Fr r H7 (.ref p7) 0 := Fr.two (R.ne hp7) e7 rfl rfl
        clear hp7
        replace R := R.same s7
        replace fa := fa.same s7
        replace fb := fb.same s7
        replace fc := fc.same s7
        replace f1 := f1.same s7
        replace f2 := f2.same s7
        replace f4 := f4.same s7
        replace f6 := f6.same s7
        walk_at "go"
        refine ⟨r, _, _, _, _, rfl, fa, f7, Sz.le za (by decide), Sz.le sz0 (by decide), fun H8 x8 s8 hx8 => ?_⟩
        have f8 : Fr r H8 x8 (qa + 0) := hx8.fr R
        clear hx8
        replace R := R.same s8
        replace fa := fa.same s8
        replace fb := fb.same s8
        replace fc := fc.same s8
        replace f1 := f1.same s8
        replace f2 := f2.same s8
        replace f4 := f4.same s8
        replace f6 := f6.same s8
        walk_at "go"
        refine ⟨small64 (by simp), fun p9 hp9 => ?_⟩
        generalize hU : upd _ p9 _ = H9
        obtain ⟨s9, e9⟩ := upd_facts hU hp9
        clear hU
        have f9 : Fr r H9 (.ref p9) 1 := Fr.two (R.ne hp9) e9 rfl rfl
        clear hp9
        replace R := R.same s9
        replace fa := fa.same s9
        replace fb := fb.same s9
        replace fc := fc.same s9
        replace f1 := f1.same s9
        replace f2 := f2.same s9
        replace f4 := f4.same s9
        replace f6 := f6.same s9
        replace f8 := f8.same s9
        walk_at "go"
        refine ⟨r, _, _, _, _, rfl, fa, f9, Sz.le za (by decide), Sz.le sz1 (by decide), fun H10 x10 s10 hx10 => ?_⟩
        have f10 : Fr r H10 x10 (qa * 1) := hx10.fr R
        clear hx10
        replace R := R.same s10
        replace fa := fa.same s10
        replace fb := fb.same s10
        replace fc := fc.same s10
        replace f1 := f1.same s10
        replace f2 := f2.same s10
        replace f4 := f4.same s10
        replace f6 := f6.same s10
        replace f8 := f8.same s10
        walk_at "go"
        refine ⟨small64 (by simp), fun p_told hp_told => ?_⟩
        generalize hU : upd _ p_told _ = H_told
        obtain ⟨s_told, e_told⟩ := upd_facts hU hp_told
        clear hU
        replace e_told : Ls H_told p_told _ := e_told
        replace R := R.same s_told
        replace fa := fa.same s_told
        replace fb := fb.same s_told
        replace fc := fc.same s_told
        replace f1 := f1.same s_told
        replace f2 := f2.same s_told
        replace f4 := f4.same s_told
        replace f6 := f6.same s_told
        replace f8 := f8.same s_told
        replace f10 := f10.same s_told
        walk_at "go"
        refine k_ixL (.inl (.inl e_told)) rfl ?_
        walk_at "go"
        refine k_ixL (.inl (.inl e_told)) rfl ?_
        walk_at "go"
        refine ⟨small64 (by simp), fun p_want hp_want => ?_⟩
        generalize hU : upd _ p_want _ = H_want
        obtain ⟨s_want, e_want⟩ := upd_facts hU hp_want
        clear hU
        replace e_want : Ls H_want p_want _ := e_want
        replace R := R.same s_want
        replace fa := fa.same s_want
        replace fb := fb.same s_want
        replace fc := fc.same s_want
        replace f1 := f1.same s_want
        replace f2 := f2.same s_want
        replace f4 := f4.same s_want
        replace f6 := f6.same s_want
        replace f8 := f8.same s_want
        replace f10 := f10.same s_want
        replace e_told := e_told.same s_want
        walk_at "go"
        refine k_neD (Dp.lst (.inl (.inl e_told)) (.cons f1.dp (.cons f2.dp (.cons f4.dp (.cons f6.dp (.cons f8.dp (.cons f10.dp .nil))))))) (Dp.lst (.inl (.inl e_want)) (.cons f1.dp (.cons f1.dp (.cons fa.dp (.cons fb.dp (.cons fa.dp (.cons fa.dp .nil))))))) (sh_fqs [qa + qb, qb + qa, qa + qb - qb, qa - (qa - qb), qa + 0, qa * 1]) (sh_fqs [qa + qb, qa + qb, qa, qb, qa, qa]) ?_
        walk_at "go"
        refine ite_f (ne_lists (told_eq qa qb)) ?_
        walk_at "ga"
        refine ⟨⟨_, .inl (.inl e_told)⟩, ?_⟩
        have hall : ∀ x ∈ [x1, x2, x4, x6, x8, x10], ∃ q, Fr r H_want x q := fun x hx => by
          simp only [List.mem_cons, List.not_mem_nil, or_false] at hx
          rcases hx with e | e | e | e | e | e
          · exact ⟨_, e ▸ f1⟩
          · exact ⟨_, e ▸ f2⟩
          · exact ⟨_, e ▸ f4⟩
          · exact ⟨_, e ▸ f6⟩
          · exact ⟨_, e ▸ f8⟩
          · exact ⟨_, e ▸ f10⟩
        refine lcIn_L (fun _ => false) (fun _ => .non) (.inl (.inl e_told)) (by show (6 : Nat) ≤ 100000; decide) (fun x => rfl) (fun j y HL hj sL => ⟨fun QT kk => ?_, fun z => nomatch z⟩) (fun pn HN hpn sN eN => ?_)
        · obtain ⟨qy, fy⟩ := hall y (List.mem_of_getElem? hj)
          replace fy := fy.same sL
          walk_at "go"
          refine ⟨r, y, fq qy, rfl, fy.dr, fun xs e => by cases e; simp, fun HM sM => ?_⟩
          walk_at "go"
          refine ite_f (by rw [fracD_fq]; rfl) ?_
          walk_at "go"
          refine k_isi (fy.same sM).dr (by decide) ?_
          walk_at "go"
          exact kk _ sM
        clear hall
        replace R := R.same sN
        replace fa := fa.same sN
        replace fb := fb.same sN
        replace fc := fc.same sN
        replace f1 := f1.same sN
        replace f2 := f2.same sN
        replace f4 := f4.same sN
        replace f6 := f6.same sN
        replace f8 := f8.same sN
        replace f10 := f10.same sN
        replace e_told := e_told.same sN
        replace e_want := e_want.same sN
        rw [given_no] at eN
        replace eN : Ls _ pn [] := eN
        walk_at "go"
        refine ⟨small64 (by simp), fun p_nil hp_nil => ?_⟩
        generalize hU : upd _ p_nil _ = H_nil
        obtain ⟨s_nil, e_nil⟩ := upd_facts hU hp_nil
        clear hU
        replace e_nil : Ls H_nil p_nil _ := e_nil
        replace R := R.same s_nil
        replace fa := fa.same s_nil
        replace fb := fb.same s_nil
        replace fc := fc.same s_nil
        replace f1 := f1.same s_nil
        replace f2 := f2.same s_nil
        replace f4 := f4.same s_nil
        replace f6 := f6.same s_nil
        replace f8 := f8.same s_nil
        replace f10 := f10.same s_nil
        replace e_told := e_told.same s_nil
        replace e_want := e_want.same s_nil
        replace eN := eN.same s_nil
        walk_at "go"
        refine k_neD (Dp.lst (.inl (.inl eN)) .nil) (Dp.lst (.inl (.inl e_nil)) .nil) shNil shNil ?_
        walk_at "go"
        refine ite_f (by simp [PyData.eqv, PyData.eqvAll]) ?_
        clear e_nil eN e_want e_told
        clear f1 f2 f4 f6 f8 f10
        walk_at "go"
        refine ⟨r, _, _, _, _, rfl, fa, fb, Sz.le za (by decide), Sz.le zb (by decide), fun H11 x11 s11 hx11 => ?_⟩
        have f11 : Fr r H11 x11 (qa + qb) := hx11.fr R
        clear hx11
        replace R := R.same s11
        replace fa := fa.same s11
        replace fb := fb.same s11
        replace fc := fc.same s11
        walk_at "go"
        refine ⟨r, _, _, _, _, rfl, f11, fc, Sz.le (Sz.add za zb) (by decide), Sz.le zc (by decide), fun H12 x12 s12 hx12 => ?_⟩
        have f12 : Fr r H12 x12 ((qa + qb) + qc) := hx12.fr R
        clear hx12
        replace R := R.same s12
        replace fa := fa.same s12
        replace fb := fb.same s12
        replace fc := fc.same s12
        walk_at "go"
        refine ⟨r, _, _, _, _, rfl, fb, fc, Sz.le zb (by decide), Sz.le zc (by decide), fun H13 x13 s13 hx13 => ?_⟩
        have f13 : Fr r H13 x13 (qb + qc) := hx13.fr R
        clear hx13
        replace R := R.same s13
        replace fa := fa.same s13
        replace fb := fb.same s13
        replace fc := fc.same s13
        replace f12 := f12.same s13
        walk_at "go"
        refine ⟨r, _, _, _, _, rfl, fa, f13, Sz.le za (by decide), Sz.le (Sz.add zb zc) (by decide), fun H14 x14 s14 hx14 => ?_⟩
        have f14 : Fr r H14 x14 (qa + (qb + qc)) := hx14.fr R
        clear hx14
        replace R := R.same s14
        replace fa := fa.same s14
        replace fb := fb.same s14
        replace fc := fc.same s14
        replace f12 := f12.same s14
        walk_at "go"
        refine k_neD f12.dp f14.dp (sh_fq _) (sh_fq _) ?_
        rw [eqv_fq]
        walk_at "go"
        refine ite_f (ne_fq (show ((qa + qb) + qc) = (qa + (qb + qc)) from Rat.add_assoc ..)) ?_
        walk_at "go"
        refine ⟨r, _, _, _, _, rfl, fa, fb, Sz.le za (by decide), Sz.le zb (by decide), fun H15 x15 s15 hx15 => ?_⟩
        have f15 : Fr r H15 x15 (qa * qb) := hx15.fr R
        clear hx15
        replace R := R.same s15
        replace fa := fa.same s15
        replace fb := fb.same s15
        replace fc := fc.same s15
        walk_at "go"
        refine ⟨r, _, _, _, _, rfl, f15, fc, Sz.le (Sz.mul za zb) (by decide), Sz.le zc (by decide), fun H16 x16 s16 hx16 => ?_⟩
        have f16 : Fr r H16 x16 ((qa * qb) * qc) := hx16.fr R
        clear hx16
        replace R := R.same s16
        replace fa := fa.same s16
        replace fb := fb.same s16
        replace fc := fc.same s16
        walk_at "go"
        refine ⟨r, _, _, _, _, rfl, fb, fc, Sz.le zb (by decide), Sz.le zc (by decide), fun H17 x17 s17 hx17 => ?_⟩
        have f17 : Fr r H17 x17 (qb * qc) := hx17.fr R
        clear hx17
        replace R := R.same s17
        replace fa := fa.same s17
        replace fb := fb.same s17
        replace fc := fc.same s17
        replace f16 := f16.same s17
        walk_at "go"
        refine ⟨r, _, _, _, _, rfl, fa, f17, Sz.le za (by decide), Sz.le (Sz.mul zb zc) (by decide), fun H18 x18 s18 hx18 => ?_⟩
        have f18 : Fr r H18 x18 (qa * (qb * qc)) := hx18.fr R
        clear hx18
        replace R := R.same s18
        replace fa := fa.same s18
        replace fb := fb.same s18
        replace fc := fc.same s18
        replace f16 := f16.same s18
        walk_at "go"
        refine k_neD f16.dp f18.dp (sh_fq _) (sh_fq _) ?_
        rw [eqv_fq]
        walk_at "go"
        refine ite_f (ne_fq (show ((qa * qb) * qc) = (qa * (qb * qc)) from Rat.mul_assoc ..)) ?_
        walk_at "go"
        refine ⟨r, _, _, _, _, rfl, fb, fc, Sz.le zb (by decide), Sz.le zc (by decide), fun H19 x19 s19 hx19 => ?_⟩
        have f19 : Fr r H19 x19 (qb + qc) := hx19.fr R
        clear hx19
        replace R := R.same s19
        replace fa := fa.same s19
        replace fb := fb.same s19
        replace fc := fc.same s19
        walk_at "go"
        refine ⟨r, _, _, _, _, rfl, fa, f19, Sz.le za (by decide), Sz.le (Sz.add zb zc) (by decide), fun H20 x20 s20 hx20 => ?_⟩
        have f20 : Fr r H20 x20 (qa * (qb + qc)) := hx20.fr R
        clear hx20
        replace R := R.same s20
        replace fa := fa.same s20
        replace fb := fb.same s20
        replace fc := fc.same s20
        walk_at "go"
        refine ⟨r, _, _, _, _, rfl, fa, fb, Sz.le za (by decide), Sz.le zb (by decide), fun H21 x21 s21 hx21 => ?_⟩
        have f21 : Fr r H21 x21 (qa * qb) := hx21.fr R
        clear hx21
        replace R := R.same s21
        replace fa := fa.same s21
        replace fb := fb.same s21
        replace fc := fc.same s21
        replace f20 := f20.same s21
        walk_at "go"
        refine ⟨r, _, _, _, _, rfl, fa, fc, Sz.le za (by decide), Sz.le zc (by decide), fun H22 x22 s22 hx22 => ?_⟩
        have f22 : Fr r H22 x22 (qa * qc) := hx22.fr R
        clear hx22
        replace R := R.same s22
        replace fa := fa.same s22
        replace fb := fb.same s22
        replace fc := fc.same s22
        replace f20 := f20.same s22
        replace f21 := f21.same s22
        walk_at "go"
        refine ⟨r, _, _, _, _, rfl, f21, f22, Sz.le (Sz.mul za zb) (by decide), Sz.le (Sz.mul za zc) (by decide), fun H23 x23 s23 hx23 => ?_⟩
        have f23 : Fr r H23 x23 ((qa * qb) + (qa * qc)) := hx23.fr R
        clear hx23
        replace R := R.same s23
        replace fa := fa.same s23
        replace fb := fb.same s23
        replace fc := fc.same s23
        replace f20 := f20.same s23
        walk_at "go"
        refine k_neD f20.dp f23.dp (sh_fq _) (sh_fq _) ?_
        rw [eqv_fq]
        walk_at "go"
        refine ite_f (ne_fq (show (qa * (qb + qc)) = ((qa * qb) + (qa * qc)) from Rat.mul_add ..)) ?_
        walk_at "go"
        refine ⟨r, _, _, _, _, rfl, fa, fb, Sz.le za (by decide), Sz.le zb (by decide), fun H24 x24 s24 hx24 => ?_⟩
        have f24 : Fr r H24 x24 (qa * qb) := hx24.fr R
        clear hx24
        replace R := R.same s24
        replace fa := fa.same s24
        replace fb := fb.same s24
        replace fc := fc.same s24
        walk_at "go"
        refine ⟨r, _, _, _, _, rfl, fb, fa, Sz.le zb (by decide), Sz.le za (by decide), fun H25 x25 s25 hx25 => ?_⟩
        have f25 : Fr r H25 x25 (qb * qa) := hx25.fr R
        clear hx25
        replace R := R.same s25
        replace fa := fa.same s25
        replace fb := fb.same s25
        replace fc := fc.same s25
        replace f24 := f24.same s25
        walk_at "go"
        refine k_neD f24.dp f25.dp (sh_fq _) (sh_fq _) ?_
        rw [eqv_fq]
        walk_at "go"
        refine ite_f (ne_fq (show (qa * qb) = (qb * qa) from Rat.mul_comm ..)) ?_
        walk_at "go"
        refine ⟨r, _, _, _, _, rfl, fa, fa, Sz.le za (by decide), Sz.le za (by decide), fun H26 x26 s26 hx26 => ?_⟩
        have f26 : Fr r H26 x26 (qa - qa) := hx26.fr R
        clear hx26
        replace R := R.same s26
        replace fa := fa.same s26
        replace fb := fb.same s26
        replace fc := fc.same s26
        walk_at "go"
        refine ⟨small64 (by simp), fun p27 hp27 => ?_⟩
        generalize hU : upd _ p27 _ = H27
        obtain ⟨s27, e27⟩ := upd_facts hU hp27
        clear hU
        have f27 : Fr r H27 (.ref p27) 0 := Fr.two (R.ne hp27) e27 rfl rfl
        clear hp27
        replace R := R.same s27
        replace fa := fa.same s27
        replace fb := fb.same s27
        replace fc := fc.same s27
        replace f26 := f26.same s27
        walk_at "go"
        refine k_neD f26.dp f27.dp (sh_fq _) (sh_fq _) ?_
        rw [eqv_fq]
        walk_at "go"
        refine ite_f (ne_fq (show (qa - qa) = 0 from Rat.sub_self)) ?_
        walk_at "go"
        refine ⟨small64 (by simp), fun p28 hp28 => ?_⟩
        generalize hU : upd _ p28 _ = H28
        obtain ⟨s28, e28⟩ := upd_facts hU hp28
        clear hU
        have f28 : Fr r H28 (.ref p28) 0 := Fr.two (R.ne hp28) e28 rfl rfl
        clear hp28
        replace R := R.same s28
        replace fa := fa.same s28
        replace fb := fb.same s28
        replace fc := fc.same s28
        walk_at "go"
        refine ⟨r, _, _, _, _, rfl, fa, f28, Sz.le za (by decide), Sz.le sz0 (by decide), fun H29 x29 s29 hx29 => ?_⟩
        have f29 : Fr r H29 x29 (qa * 0) := hx29.fr R
        clear hx29
        replace R := R.same s29
        replace fa := fa.same s29
        replace fb := fb.same s29
        replace fc := fc.same s29
        walk_at "go"
        refine ⟨small64 (by simp), fun p30 hp30 => ?_⟩
        generalize hU : upd _ p30 _ = H30
        obtain ⟨s30, e30⟩ := upd_facts hU hp30
        clear hU
        have f30 : Fr r H30 (.ref p30) 0 := Fr.two (R.ne hp30) e30 rfl rfl
        clear hp30
        replace R := R.same s30
        replace fa := fa.same s30
        replace fb := fb.same s30
        replace fc := fc.same s30
        replace f29 := f29.same s30
        walk_at "go"
        refine k_neD f29.dp f30.dp (sh_fq _) (sh_fq _) ?_
        rw [eqv_fq]
        walk_at "go"
        refine ite_f (ne_fq (show (qa * 0) = 0 from Rat.mul_zero _)) ?_
        walk_at "go"
        refine ⟨small64 (by simp), fun p31 hp31 => ?_⟩
        generalize hU : upd _ p31 _ = H31
        obtain ⟨s31, e31⟩ := upd_facts hU hp31
        clear hU
        have f31 : Fr r H31 (.ref p31) (-1) := Fr.two (R.ne hp31) e31 rfl rfl
        clear hp31
        replace R := R.same s31
        replace fa := fa.same s31
        replace fb := fb.same s31
        replace fc := fc.same s31
        walk_at "go"
        refine ⟨r, _, _, _, _, rfl, f31, fa, Sz.le szm1 (by decide), Sz.le za (by decide), fun H32 x32 s32 hx32 => ?_⟩
        have f32 : Fr r H32 x32 ((-1) * qa) := hx32.fr R
        clear hx32
        replace R := R.same s32
        replace fa := fa.same s32
        replace fb := fb.same s32
        replace fc := fc.same s32
        walk_at "go"
        refine ⟨r, _, _, _, _, rfl, fa, f32, Sz.le za (by decide), Sz.le (Sz.mul szm1 za) (by decide), fun H33 x33 s33 hx33 => ?_⟩
        have f33 : Fr r H33 x33 (qa + ((-1) * qa)) := hx33.fr R
        clear hx33
        replace R := R.same s33
        replace fa := fa.same s33
        replace fb := fb.same s33
        replace fc := fc.same s33
        walk_at "go"
        refine ⟨small64 (by simp), fun p34 hp34 => ?_⟩
        generalize hU : upd _ p34 _ = H34
        obtain ⟨s34, e34⟩ := upd_facts hU hp34
        clear hU
        have f34 : Fr r H34 (.ref p34) 0 := Fr.two (R.ne hp34) e34 rfl rfl
        clear hp34
        replace R := R.same s34
        replace fa := fa.same s34
        replace fb := fb.same s34
        replace fc := fc.same s34
        replace f33 := f33.same s34
        walk_at "go"
        refine k_neD f33.dp f34.dp (sh_fq _) (sh_fq _) ?_
        rw [eqv_fq]
        walk_at "go"
        refine ite_f (ne_fq (show (qa + ((-1) * qa)) = 0 from by rw [Rat.neg_mul, Rat.one_mul]; exact Rat.add_neg_cancel qa)) ?_
        walk_at "ga"
        refine k_cutT false (fun Q' k => ?_) (fun HT sT => ?_)
        · walk_at "go"
          refine k_ix0 fa ?_
          walk_at "go"
          by_cases hz : qa.num = 0
          · rw [hz]
            exact ite_f (by simp) (k _ (Same.refl _))
          · refine ite_t (by simp [hz]) ?_
            walk_at "go"
            refine k_ix1 fa ?_
            walk_at "go"
            refine k_ix0 fa ?_
            walk_at "go"
            refine ⟨_, _, rfl, hz, up_lt (n := 128) (by decide) za.1, fun HA y sA hy => ?_⟩
            rw [inv_le hz] at hy
            have zy : Sz 128 qa⁻¹ := by rw [← inv_le hz]; exact sz_divInt hz (lt_two _ za.2) za.1
            have fy := hy.fr R
            walk_at "go"
            refine ⟨r, _, _, _, _, rfl, fa.same sA, fy, Sz.le za (by decide), Sz.le zy (by decide), fun HB x2 sB hx2 => ?_⟩
            have RB := (R.same sA).same sB
            have f2 := hx2.fr (R.same sA)
            walk_at "go"
            refine ⟨small64 (by simp), fun p3 hp3 => ?_⟩
            generalize hU : upd _ p3 _ = HC
            obtain ⟨sC, e3⟩ := upd_facts hU hp3
            clear hU
            have f3 : Fr r HC (.ref p3) 1 := Fr.two (RB.ne hp3) e3 rfl rfl
            refine k_neD (f2.same sC).dp f3.dp (sh_fq _) (sh_fq _) ?_
            rw [eqv_fq, ne_fq (Rat.mul_inv_cancel qa (fun e => hz (by rw [e]; rfl)))]
            exact ⟨_, rfl, k _ (sA.trans (sB.trans sC))⟩
        replace R := R.same sT
        replace fa := fa.same sT
        replace fb := fb.same sT
        replace fc := fc.same sT
        refine iteF ?_
        walk_at "go"
        refine ⟨r, _, _, _, _, _, _, _, rfl, R, fa, fb, fc, za, zb, zc, fun HO sO => ?_⟩
        walk_at "go"
        refine iteF ?_
        walk_at "go"
        exact ⟨R.same sO, _, _, _, _, _, _, _, rfl⟩
    · obtain ⟨R2, x2, x3, x4, x5, x6, x7, x8, rfl⟩ := hP
      walk_at "ga"
      exact q _
end
end K04

namespace K04
open PySem PySem.Spec PyProof.Rows L2 Nd
theorem all_mk {l : PySem.W.OpenLaw} {w : World} {K : PySem.W.Frag} {h : Heap} {mg : Str → Option Value} {fa f0 f1 f2 f3 f4 f5 f6 f7 f8 f9 f10 f11 f12 f13 f14 f15 f16 : Addr} (X : K.In h) (G : h.Ns mainGlobals mg) (hfa : mg "law" = some (.ref fa))
    {od0 an0 od1 an1 od2 an2 od3 an3 od4 an4 od5 an5 od6 an6 od7 an7 od8 an8 od9 an9 od10 an10 od11 an11 od12 an12 od13 an13 od14 an14 od15 an15 od16 an16 : Option Addr} {sl0 sl1 sl2 sl3 sl4 sl5 sl6 sl7 sl8 sl9 sl10 sl11 sl12 sl13 sl14 sl15 sl16 : Array (Option Value)} {oc0 kV0 dc0 pm0 cd0 ct0 oc1 kV1 dc1 pm1 cd1 ct1 oc2 kV2 dc2 pm2 cd2 ct2 oc3 kV3 dc3 pm3 cd3 ct3 oc4 kV4 dc4 pm4 cd4 ct4 oc5 kV5 dc5 pm5 cd5 ct5 oc6 kV6 dc6 pm6 cd6 ct6 oc7 kV7 dc7 pm7 cd7 ct7 oc8 kV8 dc8 pm8 cd8 ct8 oc9 kV9 dc9 pm9 cd9 ct9 oc10 kV10 dc10 pm10 cd10 ct10 oc11 kV11 dc11 pm11 cd11 ct11 oc12 kV12 dc12 pm12 cd12 ct12 oc13 kV13 dc13 pm13 cd13 ct13 oc14 kV14 dc14 pm14 cd14 ct14 oc15 kV15 dc15 pm15 cd15 ct15 oc16 kV16 dc16 pm16 cd16 ct16 : Value}
    (a0 : PySem.W.nsIn K mainGlobals "is_integer" = some (some (.ref f0))) (l0 : K.lookup f0 = some ⟨oc0, od0, .func (PySem.W.fnOf "is_integer" "is_integer" (defArgs s_is_integer) (defBody s_is_integer) (defScope s_is_integer) .none kV0 dc0 pm0 an0 cd0 ct0), sl0⟩) (c0 : PySem.W.codeIn K cd0 "is_integer" = true) (k0 : PySem.W.keepIn K (.ref f0) = true)
    (a1 : PySem.W.nsIn K mainGlobals "is_within" = some (some (.ref f1))) (l1 : K.lookup f1 = some ⟨oc1, od1, .func (PySem.W.fnOf "is_within" "is_within" (defArgs s_is_within) (defBody s_is_within) (defScope s_is_within) .none kV1 dc1 pm1 an1 cd1 ct1), sl1⟩) (c1 : PySem.W.codeIn K cd1 "is_within" = true) (k1 : PySem.W.keepIn K (.ref f1) = true)
    (a2 : PySem.W.nsIn K mainGlobals "are_integers" = some (some (.ref f2))) (l2 : K.lookup f2 = some ⟨oc2, od2, .func (PySem.W.fnOf "are_integers" "are_integers" (defArgs s_are_integers) (defBody s_are_integers) (defScope s_are_integers) .none kV2 dc2 pm2 an2 cd2 ct2), sl2⟩) (c2 : PySem.W.codeIn K cd2 "are_integers" = true) (k2 : PySem.W.keepIn K (.ref f2) = true)
    (a3 : PySem.W.nsIn K mainGlobals "is_fraction" = some (some (.ref f3))) (l3 : K.lookup f3 = some ⟨oc3, od3, .func (PySem.W.fnOf "is_fraction" "is_fraction" (defArgs s_is_fraction) (defBody s_is_fraction) (defScope s_is_fraction) .none kV3 dc3 pm3 an3 cd3 ct3), sl3⟩) (c3 : PySem.W.codeIn K cd3 "is_fraction" = true) (k3 : PySem.W.keepIn K (.ref f3) = true)
    (a4 : PySem.W.nsIn K mainGlobals "need_integer" = some (some (.ref f4))) (l4 : K.lookup f4 = some ⟨oc4, od4, .func (PySem.W.fnOf "need_integer" "need_integer" (defArgs s_need_integer) (defBody s_need_integer) (defScope s_need_integer) .none kV4 dc4 pm4 an4 cd4 ct4), sl4⟩) (c4 : PySem.W.codeIn K cd4 "need_integer" = true) (k4 : PySem.W.keepIn K (.ref f4) = true)
    (a5 : PySem.W.nsIn K mainGlobals "_need_two" = some (some (.ref f5))) (l5 : K.lookup f5 = some ⟨oc5, od5, .func (PySem.W.fnOf "_need_two" "_need_two" (defArgs s__need_two) (defBody s__need_two) (defScope s__need_two) .none kV5 dc5 pm5 an5 cd5 ct5), sl5⟩) (c5 : PySem.W.codeIn K cd5 "_need_two" = true) (k5 : PySem.W.keepIn K (.ref f5) = true)
    (a6 : PySem.W.nsIn K mainGlobals "reduced" = some (some (.ref f6))) (l6 : K.lookup f6 = some ⟨oc6, od6, .func (PySem.W.fnOf "reduced" "reduced" (defArgs s_reduced) (defBody s_reduced) (defScope s_reduced) .none kV6 dc6 pm6 an6 cd6 ct6), sl6⟩) (c6 : PySem.W.codeIn K cd6 "reduced" = true) (k6 : PySem.W.keepIn K (.ref f6) = true)
    (a7 : PySem.W.nsIn K mainGlobals "added" = some (some (.ref f7))) (l7 : K.lookup f7 = some ⟨oc7, od7, .func (PySem.W.fnOf "added" "added" (defArgs s_added) (defBody s_added) (defScope s_added) .none kV7 dc7 pm7 an7 cd7 ct7), sl7⟩) (c7 : PySem.W.codeIn K cd7 "added" = true) (k7 : PySem.W.keepIn K (.ref f7) = true)
    (a8 : PySem.W.nsIn K mainGlobals "less" = some (some (.ref f8))) (l8 : K.lookup f8 = some ⟨oc8, od8, .func (PySem.W.fnOf "less" "less" (defArgs s_less) (defBody s_less) (defScope s_less) .none kV8 dc8 pm8 an8 cd8 ct8), sl8⟩) (c8 : PySem.W.codeIn K cd8 "less" = true) (k8 : PySem.W.keepIn K (.ref f8) = true)
    (a9 : PySem.W.nsIn K mainGlobals "multiplied" = some (some (.ref f9))) (l9 : K.lookup f9 = some ⟨oc9, od9, .func (PySem.W.fnOf "multiplied" "multiplied" (defArgs s_multiplied) (defBody s_multiplied) (defScope s_multiplied) .none kV9 dc9 pm9 an9 cd9 ct9), sl9⟩) (c9 : PySem.W.codeIn K cd9 "multiplied" = true) (k9 : PySem.W.keepIn K (.ref f9) = true)
    (a10 : PySem.W.nsIn K mainGlobals "below" = some (some (.ref f10))) (l10 : K.lookup f10 = some ⟨oc10, od10, .func (PySem.W.fnOf "below" "below" (defArgs s_below) (defBody s_below) (defScope s_below) .none kV10 dc10 pm10 an10 cd10 ct10), sl10⟩) (c10 : PySem.W.codeIn K cd10 "below" = true) (k10 : PySem.W.keepIn K (.ref f10) = true)
    (a11 : PySem.W.nsIn K mainGlobals "_law_cooper" = some (some (.ref f11))) (l11 : K.lookup f11 = some ⟨oc11, od11, .func (PySem.W.fnOf "_law_cooper" "_law_cooper" (defArgs s__law_cooper) (defBody s__law_cooper) (defScope s__law_cooper) .none kV11 dc11 pm11 an11 cd11 ct11), sl11⟩) (c11 : PySem.W.codeIn K cd11 "_law_cooper" = true) (k11 : PySem.W.keepIn K (.ref f11) = true)
    (a12 : PySem.W.nsIn K mainGlobals "_law_hoop" = some (some (.ref f12))) (l12 : K.lookup f12 = some ⟨oc12, od12, .func (PySem.W.fnOf "_law_hoop" "_law_hoop" (defArgs s__law_hoop) (defBody s__law_hoop) (defScope s__law_hoop) .none kV12 dc12 pm12 an12 cd12 ct12), sl12⟩) (c12 : PySem.W.codeIn K cd12 "_law_hoop" = true) (k12 : PySem.W.keepIn K (.ref f12) = true)
    (a13 : PySem.W.nsIn K mainGlobals "_law_stave" = some (some (.ref f13))) (l13 : K.lookup f13 = some ⟨oc13, od13, .func (PySem.W.fnOf "_law_stave" "_law_stave" (defArgs s__law_stave) (defBody s__law_stave) (defScope s__law_stave) .none kV13 dc13 pm13 an13 cd13 ct13), sl13⟩) (c13 : PySem.W.codeIn K cd13 "_law_stave" = true) (k13 : PySem.W.keepIn K (.ref f13) = true)
    (a14 : PySem.W.nsIn K mainGlobals "_law_fraction" = some (some (.ref f14))) (l14 : K.lookup f14 = some ⟨oc14, od14, .func (PySem.W.fnOf "_law_fraction" "_law_fraction" (defArgs s__law_fraction) (defBody s__law_fraction) (defScope s__law_fraction) .none kV14 dc14 pm14 an14 cd14 ct14), sl14⟩) (c14 : PySem.W.codeIn K cd14 "_law_fraction" = true) (k14 : PySem.W.keepIn K (.ref f14) = true)
    (a15 : PySem.W.nsIn K mainGlobals "_law_order_right" = some (some (.ref f15))) (l15 : K.lookup f15 = some ⟨oc15, od15, .func (PySem.W.fnOf "_law_order_right" "_law_order_right" (defArgs s__law_order_right) (defBody s__law_order_right) (defScope s__law_order_right) .none kV15 dc15 pm15 an15 cd15 ct15), sl15⟩) (c15 : PySem.W.codeIn K cd15 "_law_order_right" = true) (k15 : PySem.W.keepIn K (.ref f15) = true)
    (a16 : PySem.W.nsIn K mainGlobals "law" = some (some (.ref f16))) (l16 : K.lookup f16 = some ⟨oc16, od16, .func (PySem.W.fnOf "law" "law" (defArgs s_law) (defBody s_law) (defScope s_law) .none kV16 dc16 pm16 an16 cd16 ct16), sl16⟩) (c16 : PySem.W.codeIn K cd16 "law" = true) (k16 : PySem.W.keepIn K (.ref f16) = true)
    (z_int : PySem.W.nsIn K mainGlobals "int" = some none)
    (z_len : PySem.W.nsIn K mainGlobals "len" = some none)
    (z_abs : PySem.W.nsIn K mainGlobals "abs" = some none)
    (z_bool : PySem.W.nsIn K mainGlobals "bool" = some none)
    (z_all : PySem.W.nsIn K mainGlobals "all" = some none)
    (z_list : PySem.W.nsIn K mainGlobals "list" = some none)
    (z_tuple : PySem.W.nsIn K mainGlobals "tuple" = some none)
    (z_isinstance : PySem.W.nsIn K mainGlobals "isinstance" = some none)
    (z_range : PySem.W.nsIn K mainGlobals "range" = some none)
    (z_gcd : PySem.W.nsIn K mainGlobals "gcd" = some (some (.builtin "math.gcd")))
    : ∃ fd : FuncData, (∀ (s : Shared) (v : Value), BindsTo s fd ⟨[v], []⟩ [("script", v)]) ∧ ∀ base : Heap, K.In base → base.Ns mainGlobals mg → FnG l.prog w K mg base CX0 7 fa fd ["script"] (spLaw K) := by
  have e := hfa.symm.trans (PySem.W.mg_of X G a16)
  cases e
  have F0 := fun_mk (st := s_is_integer) l0 c0 k0
  have b0 := F0.binds (ps := ["value"]) fun _ _ _ _ _ _ us hl => match us, hl with | [_], _ => rfl
  have g0 := PySem.W.mg_of X G a0
  have F1 := fun_mk (st := s_is_within) l1 c1 k1
  have b1 := F1.binds (ps := ["value", "least", "most"]) fun _ _ _ _ _ _ us hl => match us, hl with | [_, _, _], _ => rfl
  have g1 := PySem.W.mg_of X G a1
  have F2 := fun_mk (st := s_are_integers) l2 c2 k2
  have b2 := F2.binds (ps := ["value", "many"]) fun _ _ _ _ _ _ us hl => match us, hl with | [_, _], _ => rfl
  have g2 := PySem.W.mg_of X G a2
  have F3 := fun_mk (st := s_is_fraction) l3 c3 k3
  have b3 := F3.binds (ps := ["value"]) fun _ _ _ _ _ _ us hl => match us, hl with | [_], _ => rfl
  have g3 := PySem.W.mg_of X G a3
  have F4 := fun_mk (st := s_need_integer) l4 c4 k4
  have b4 := F4.binds (ps := ["value", "part", "least", "most"]) fun _ _ _ _ _ _ us hl => match us, hl with | [_, _, _, _], _ => rfl
  have g4 := PySem.W.mg_of X G a4
  have F5 := fun_mk (st := s__need_two) l5 c5 k5
  have b5 := F5.binds (ps := ["one", "other"]) fun _ _ _ _ _ _ us hl => match us, hl with | [_, _], _ => rfl
  have g5 := PySem.W.mg_of X G a5
  have F6 := fun_mk (st := s_reduced) l6 c6 k6
  have b6 := F6.binds (ps := ["up", "down"]) fun _ _ _ _ _ _ us hl => match us, hl with | [_, _], _ => rfl
  have g6 := PySem.W.mg_of X G a6
  have F7 := fun_mk (st := s_added) l7 c7 k7
  have b7 := F7.binds (ps := ["one", "other"]) fun _ _ _ _ _ _ us hl => match us, hl with | [_, _], _ => rfl
  have g7 := PySem.W.mg_of X G a7
  have F8 := fun_mk (st := s_less) l8 c8 k8
  have b8 := F8.binds (ps := ["one", "other"]) fun _ _ _ _ _ _ us hl => match us, hl with | [_, _], _ => rfl
  have g8 := PySem.W.mg_of X G a8
  have F9 := fun_mk (st := s_multiplied) l9 c9 k9
  have b9 := F9.binds (ps := ["one", "other"]) fun _ _ _ _ _ _ us hl => match us, hl with | [_, _], _ => rfl
  have g9 := PySem.W.mg_of X G a9
  have F10 := fun_mk (st := s_below) l10 c10 k10
  have b10 := F10.binds (ps := ["one", "other"]) fun _ _ _ _ _ _ us hl => match us, hl with | [_, _], _ => rfl
  have g10 := PySem.W.mg_of X G a10
  have F11 := fun_mk (st := s__law_cooper) l11 c11 k11
  have b11 := F11.binds (ps := ["script"]) fun _ _ _ _ _ _ us hl => match us, hl with | [_], _ => rfl
  have g11 := PySem.W.mg_of X G a11
  have F12 := fun_mk (st := s__law_hoop) l12 c12 k12
  have b12 := F12.binds (ps := ["cooper", "many"]) fun _ _ _ _ _ _ us hl => match us, hl with | [_, _], _ => rfl
  have g12 := PySem.W.mg_of X G a12
  have F13 := fun_mk (st := s__law_stave) l13 c13 k13
  have b13 := F13.binds (ps := ["cooper", "some"]) fun _ _ _ _ _ _ us hl => match us, hl with | [_, _], _ => rfl
  have g13 := PySem.W.mg_of X G a13
  have F14 := fun_mk (st := s__law_fraction) l14 c14 k14
  have b14 := F14.binds (ps := ["cooper"]) fun _ _ _ _ _ _ us hl => match us, hl with | [_], _ => rfl
  have g14 := PySem.W.mg_of X G a14
  have F15 := fun_mk (st := s__law_order_right) l15 c15 k15
  have b15 := F15.binds (ps := ["one", "other", "third"]) fun _ _ _ _ _ _ us hl => match us, hl with | [_, _, _], _ => rfl
  have g15 := PySem.W.mg_of X G a15
  have F16 := fun_mk (st := s_law) l16 c16 k16
  have T : TxtE mg := { m_gcd := PySem.W.mg_of X G z_gcd, m_int := PySem.W.mg_none_of X G z_int, m_len := PySem.W.mg_none_of X G z_len, m_abs := PySem.W.mg_none_of X G z_abs, m_bool := PySem.W.mg_none_of X G z_bool, m_all := PySem.W.mg_none_of X G z_all, m_list := PySem.W.mg_none_of X G z_list, m_tuple := PySem.W.mg_none_of X G z_tuple, m_isinstance := PySem.W.mg_none_of X G z_isinstance, m_range := PySem.W.mg_none_of X G z_range }
  have T0 : Txt mg := ⟨T.m_int, T.m_len, T.m_abs⟩
  refine ⟨PySem.W.fnOf "law" "law" (defArgs s_law) (defBody s_law) (defScope s_law) .none kV16 dc16 pm16 an16 cd16 ct16, fun s v => .of_eq rfl, fun base _ _ => ?_⟩
  have C_is_integer : Cal l.prog w K mg base CX0 1 "is_integer" spIsInt := ⟨f0, _, _, ok_is_integer F0 T.toTxtC, g0, k0, b0⟩
  have C_is_within : Cal l.prog w K mg base CX0 2 "is_within" spWithin := ⟨f1, _, _, ok_is_within F1 C_is_integer, g1, k1, b1⟩
  have C_are_integers : Cal l.prog w K mg base CX0 2 "are_integers" spAreInts := ⟨f2, _, _, ok_are_integers F2 T.toTxtC C_is_integer, g2, k2, b2⟩
  have C_is_fraction : Cal l.prog w K mg base CX0 3 "is_fraction" spFrac := ⟨f3, _, _, ok_is_fraction F3 T.toTxtC C_are_integers, g3, k3, b3⟩
  have C_need_integer : Cal l.prog w K mg base CX0 3 "need_integer" spNeed := ⟨f4, _, _, ok_need_integer F4 C_is_within, g4, k4, b4⟩
  have C__need_two : Cal l.prog w K mg base CX0 4 "_need_two" spTwo := ⟨f5, _, _, ok_need_two F5 C_is_fraction, g5, k5, b5⟩
  have C_reduced : Cal l.prog w K mg base CX0 4 "reduced" spRed := ⟨f6, _, _, ok_reduced F6 T.toTxtC C_need_integer, g6, k6, b6⟩
  have C_added : Cal l.prog w K mg base CX0 5 "added" (spBin (· + ·)) := ⟨f7, _, _, ok_added F7 C__need_two C_reduced, g7, k7, b7⟩
  have C_less : Cal l.prog w K mg base CX0 5 "less" (spBin (· - ·)) := ⟨f8, _, _, ok_less F8 C__need_two C_reduced, g8, k8, b8⟩
  have C_multiplied : Cal l.prog w K mg base CX0 5 "multiplied" (spBin (· * ·)) := ⟨f9, _, _, ok_multiplied F9 C__need_two C_reduced, g9, k9, b9⟩
  have C_below : Cal l.prog w K mg base CX0 5 "below" spBelow := ⟨f10, _, _, ok_below F10 C__need_two, g10, k10, b10⟩
  have C__law_cooper : Cal l.prog w K mg base CX0 1 "_law_cooper" (spRiddle K) := ⟨f11, _, _, ok_riddle F11 T0, g11, k11, b11⟩
  have C__law_hoop : Cal l.prog w K mg base CX0 1 "_law_hoop" spDraw := ⟨f12, _, _, ok_shake F12 T0, g12, k12, b12⟩
  have C__law_stave : Cal l.prog w K mg base CX0 2 "_law_stave" spPick := ⟨f13, _, _, ok_pick F13 T0 C__law_hoop, g13, k13, b13⟩
  have C__law_fraction : Cal l.prog w K mg base CX0 5 "_law_fraction" spFq := ⟨f14, _, _, ok_fraction F14 T C__law_hoop C__law_stave C_reduced, g14, k14, b14⟩
  have C__law_order_right : Cal l.prog w K mg base CX0 6 "_law_order_right" spOrd := ⟨f15, _, _, ok_order_right F15 C_added C_less C_multiplied C_below, g15, k15, b15⟩
  exact ok_law F16 T C__law_cooper C__law_fraction C__law_order_right C_is_fraction C_reduced C_added C_less C_multiplied C_below
end K04
open PySem PySem.W PyProof.Rows
set_option maxHeartbeats 0 in
theorem PySem.Challenge.cw_nodice_k04_whole_fractions_reckon_as_num_holds : PySem.Challenge.rw_nodice_k04_whole_fractions_reckon_as_num.Holds := by
  w_on; o_law; k_head; (case hw => w_witness2)
  k_fill
  refine Nd.walkG (l := PySem.Challenge.rw_nodice_k04_whole_fractions_reckon_as_num) (n := 63) (k := 7) (x := "script") (CX := fun _ => L2.CX0) (sp := fun w => K04.spLaw _) rfl (by decide) rfl ⟨rfl, by decide, by decide⟩ (fun w h Y => PySem.W.kIn_of Y) ?F (fun _ _ a ns hl _ hS => ⟨a, ns, rfl, hS, hl, fun _ => rfl⟩) (fun _ _ _ _ _ h => h)
  case F =>
    intro w mg fa h KX G hmg
    refine' K04.all_mk KX G hmg ?a0 ?l0 ?c0 ?k0 ?a1 ?l1 ?c1 ?k1 ?a2 ?l2 ?c2 ?k2 ?a3 ?l3 ?c3 ?k3 ?a4 ?l4 ?c4 ?k4 ?a5 ?l5 ?c5 ?k5 ?a6 ?l6 ?c6 ?k6 ?a7 ?l7 ?c7 ?k7 ?a8 ?l8 ?c8 ?k8 ?a9 ?l9 ?c9 ?k9 ?a10 ?l10 ?c10 ?k10 ?a11 ?l11 ?c11 ?k11 ?a12 ?l12 ?c12 ?k12 ?a13 ?l13 ?c13 ?k13 ?a14 ?l14 ?c14 ?k14 ?a15 ?l15 ?c15 ?k15 ?a16 ?l16 ?c16 ?k16 ?z_int ?z_len ?z_abs ?z_bool ?z_all ?z_list ?z_tuple ?z_isinstance ?z_range ?z_gcd
    (case a0 => k_is); (case l0 => k_is); (case c0 => k_is); (case k0 => k_is); (case a1 => k_is); (case l1 => k_is); (case c1 => k_is); (case k1 => k_is); (case a2 => k_is); (case l2 => k_is); (case c2 => k_is); (case k2 => k_is); (case a3 => k_is); (case l3 => k_is); (case c3 => k_is); (case k3 => k_is); (case a4 => k_is); (case l4 => k_is); (case c4 => k_is); (case k4 => k_is); (case a5 => k_is); (case l5 => k_is); (case c5 => k_is); (case k5 => k_is); (case a6 => k_is); (case l6 => k_is); (case c6 => k_is); (case k6 => k_is); (case a7 => k_is); (case l7 => k_is); (case c7 => k_is); (case k7 => k_is); (case a8 => k_is); (case l8 => k_is); (case c8 => k_is); (case k8 => k_is); (case a9 => k_is); (case l9 => k_is); (case c9 => k_is); (case k9 => k_is); (case a10 => k_is); (case l10 => k_is); (case c10 => k_is); (case k10 => k_is); (case a11 => k_is); (case l11 => k_is); (case c11 => k_is); (case k11 => k_is); (case a12 => k_is); (case l12 => k_is); (case c12 => k_is); (case k12 => k_is); (case a13 => k_is); (case l13 => k_is); (case c13 => k_is); (case k13 => k_is); (case a14 => k_is); (case l14 => k_is); (case c14 => k_is); (case k14 => k_is); (case a15 => k_is); (case l15 => k_is); (case c15 => k_is); (case k15 => k_is); (case a16 => k_is); (case l16 => k_is); (case c16 => k_is); (case k16 => k_is); (case z_int => k_is); (case z_len => k_is); (case z_abs => k_is); (case z_bool => k_is); (case z_all => k_is); (case z_list => k_is); (case z_tuple => k_is); (case z_isinstance => k_is); (case z_range => k_is); (case z_gcd => k_is)
