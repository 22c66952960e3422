import PyProof.Rows.All
import Wide.All
import OpenK.AllK
import Wide.FinOn
import HandS.ForMost
import HandS.Wide
import HandS.IsInst
import HandS.Gcd
import HandS.Style
import HandS.Flow
import HandS.NoneIn
import HandS.Defaults
import HandS.SetFor
import HandS.WideBits
import HandS.Codes
import HandS.Walk
import KE.KMathGC
import KE.KBits
import HandS.TupAny
import HandS.Zip
import KE.GoesMore
import HandS.ForExc
import HandS.ExcInit
import HandS.ExcIs
import HandS.ExcValue
import HandS.Lambda
import HandS.EndTab
import KE.KExcIs
import HandS.ExcField
import KE.KNestM
import HandS.EndBits
import HandS.WordsExc
import HandS.FStr
import HandS.TupLen
import HandS.SetBool
import HandS.Strs
import HandS.ListItems
import HandS.SortInts
import HandS.SortRule
import HandS.DictTup
import HandS.Star
import HandS.WordsDict
import HandS.DictComp
import HandS.Base
import HandS.Call
import HandS.List
import HandS.Comp
import HandS.Ends
import HandS.Words
import HandS.WordsList
import KE.KDictPairs
import HandS.TupSets
import PyProof.TupleOfSeq
import PyProof.ReprRoads
import PySem.Challenge.RW_nodice_k45_starts_that_grant_wishes
set_option Elab.async false
set_option linter.all false
set_option maxRecDepth 100000
set_option maxHeartbeats 4000000
namespace Nd
open PySem PySem.Spec PyProof.Rows L2

/-! ### defs that may only be called where nothing is being shown -/
structure FnG (P : Program) (w : World) (K : PySem.W.Frag) (mg : Str → Option Value) (base : Heap)
    (CX : CXT) (k : Nat) (f : Addr) (fd : FuncData) (ps : List Str) (sp : Sp) : Prop where
  many : ∀ vs H Q E, sp vs H Q E → vs.length = ps.length
  go : ∀ (A : Around) (fr : List Env) (s : Shared) (H : Hp) (args : Args) (us : List Value)
    (vs : List V) (Q : VK) (E : XK), A.guards = some [] → Room k A →
    Env0 P w K mg base A fr s H → BindsTo s fd args (ps.zip us) → Vals vs us → sp vs H Q E →
    codeAny (model P w) A (.call (.ref f) args) (CR CX fr P w H s Q E) s

section
variable {P : Program} {w : World} {K : PySem.W.Frag} {mg : Str → Option Value} {base : Heap}
theorem FnG.ofOk {CX : CXT} {k : Nat} {f : Addr} {fd : FuncData} {ps : List Str} {sp : Sp}
    (F : FnOk P w K mg base CX k f fd ps sp) : FnG P w K mg base CX k f fd ps sp :=
  ⟨F.len, fun A fr s H args us vs Q E _ hr => F.run A fr s H args us vs Q E hr⟩

theorem okG {CX : CXT} {x qual : Str} {st : Stmt} {f : Addr} {fd : FuncData} {N ps : List Str}
    {k : Nat} {sp : Sp} (F : Fun K x qual st f fd) (S : FnScope N ps (defScope st))
    (many : ∀ vs H Q E, sp vs H Q E → vs.length = ps.length)
    (body : ∀ (cdv : Value) (A : Around) (fr : List Env) (s : Shared) (H : Hp) (vs : List V)
      (Q : VK) (E : XK),
      (cxOf CX P w K mg base N qual (defScope st) f cdv A fr s H E).A.guards = some [] →
      Room k (cxOf CX P w K mg base N qual (defScope st) f cdv A fr s H E).A → sp vs H Q E →
      ∃ t, PSs (cxOf CX P w K mg base N qual (defScope st) f cdv A fr s H E) (defBody st) t ∧
        t { nx := fun _ H' => Q .non H', rt := Q } (start N vs) H) :
    FnG P w K mg base CX (k + 1) f fd ps sp := by
  obtain ⟨oc, od, kV, doc, pm, an, cdv, ct, osl, rfl, lk, hcd⟩ := F.ex
  refine ⟨many, ?_⟩
  intro A fr s H args us vs Q E hG room env bind rel want
  have inK := env.mod.kin.keeps fun b o e => (env.bs b o e).1
  have noL := env.mod.nolimit.keeps fun b o e => (env.bs b o e).1
  have kinds : ∀ y ∈ ps.zip us, (defScope st).names.lookup y.1 = some .local ∨
      ((defScope st).names.lookup y.1 = some .cell ∧
        ((cellsFrom (s.heap.objs.size + 1) (defScope st).names []).lookup y.1).isSome = true) := by
    rintro ⟨n, v⟩ hy
    cases S.par n (List.of_mem_zip hy).1 with
    | inl q => exact .inl q
    | inr q => exact .inr ⟨q, PySem.W.cellsFrom_some _ _ _ (.inl q)⟩
  apply codeAny_call_function room.depth (inK _ _ lk) rfl S.co S.gen rfl
    (PySem.W.codeRec_of inK hcd) (bind _ _ _ _ ?_)
  apply wpAny_newFunctionEnv_cells S.kind kinds
  rintro env' rfl s1 x
  refine ⟨noL.keeps x.toInCall.keep, codeAny_func ?_⟩
  obtain ⟨t, ht, hq⟩ := body cdv A fr s H vs Q E hG (room.deeper _) want
  have I := inv_start (CX := CX) (E := E) S room.hd env (many _ _ _ _ want) rel x
  refine wpAny_mono (ht.run [] s1 (start N vs) H _ I hq) ?_ fun e s' hs => hs
  intro fl s' hs
  cases fl with
  | brk => exact False.elim hs.choose_spec.choose_spec.2
  | cont => exact False.elim hs.choose_spec.choose_spec.2
  | next =>
    obtain ⟨σ', H', J, q⟩ := hs
    exact ⟨V.non, H', J.os, J.bare, J.base, J.hok, rfl, q⟩
  | ret u =>
    obtain ⟨v, σ', H', J, rv, q⟩ := hs
    exact ⟨v, H', J.os, J.bare, J.base, J.hok, rv, q⟩
end

section
variable {X : Cx} {CX : CXT} {k : Nat} {f : Addr} {fd : FuncData} {ps : List Str} {sp : Sp}
  {dvs : List V} {ds : List Value} {E : XK} {x : Str} {p pos : Pos} {e : Expr} {es : List Expr} {t : TA}
theorem goG {pins : List (Addr × Obj)} {σ : L2.St} {H : Hp} {s : Shared} {Q : VK} {us : List Value}
    {vs : List V} (F : FnG X.prog X.w X.K X.mg X.base CX k f fd ps sp) (hG : X.A.guards = some [])
    (hr : Room k X.A) (hb : Binds X.K fd ps ds) (hd : Vals dvs ds) (hx : Passes CX X E)
    (I : Inv X pins σ H s) (r : Vals vs us) (h : sp (vs ++ dvs) H Q E) :
    wpAny (model X.prog X.w) X.A (call (.ref f) us) (EP X pins σ Q) X.xe s := by
  have r2 := r.append hd
  have hl : (us ++ ds).length = ps.length := r2.length.symm.trans (F.many _ _ _ _ h)
  have run := F.go X.A X.stack s H ⟨us, []⟩ (us ++ ds) (vs ++ dvs) Q E hG hr I.env0
    (hb s us I.kIn hl) r2 h
  refine wpAny_call (codeAny_mono run ?_)
  rintro (e' | fl) s' hq
  · exact hx pins σ H s e' s' I hq
  · cases fl with
    | ret u => exact I.after hq
    | next => exact hq.elim
    | brk => exact hq.elim
    | cont => exact hq.elim

theorem pe_callG (F : FnG X.prog X.w X.K X.mg X.base CX k f fd ps sp) (hG : X.A.guards = some [])
    (hr : Room k X.A) (hg : Gl X x) (hm : X.mg x = some (.ref f))
    (hk : PySem.W.keepIn X.K (.ref f) = true) (hb : Binds X.K fd ps ds) (hd : Vals dvs ds)
    (hx : Passes CX X E) (ha : PA X (e :: es) t)
    (hdb : (x == ("__debug__" : Str)) = false := by decide)
    (he : starEach (e :: es) X.env = (false, eval e X.env) :: starEach es X.env := by rfl)
    (hpl : (backTo pos (starEach es X.env)).any (·.1) = false := by rfl) :
    PE X (.Call (.Name x p) (e :: es) [] pos) (tCall sp dvs E t) := by
  constructor
  intro pins s σ H Q I h
  apply wpAny_Call_Name_kw (ld_glob I hg hm ?_ hdb)
  apply PySem.W.callWith_K (h₀ := X.base) I.ok.mod.kin hk ?_ he hpl
  apply thn (ha.run pos pins s σ H _ I h)
  rintro us s1 ⟨vs, H1, I1, r, q⟩
  exact ⟨I1.kIn, goG F hG hr hb hd hx I1 r q⟩
end

/-! ### the law's own call -/
theorem entG {P : Program} {w : World} {K : PySem.W.Frag} {mg mb : Str → Option Value} {CX : CXT}
    {k : Nat} {fa a : Addr} {fd : FuncData} {x : Str} {sp : Sp} {s₁ : Shared} {vs : List Value}
    {ns : List Int} (KX : K.In s₁.heap) (hns : s₁.heap.Ns mainGlobals mg)
    (hb : s₁.heap.Ns builtinsNs mb) (hbb : ∀ y : Str, y ≠ "__name__" → mb y = bootBuiltins y)
    (hlim : s₁.heap.NoLimit) (hg : s₁.gens = #[])
    (ha : s₁.heap.get? a = some { cls := .type "list", data := .seq vs.toArray })
    (hi : IntsAre vs ns) (hl : ns.length ≤ sizeLine) (hr : Room k callerA)
    (F : ∀ base : Heap, K.In base → base.Ns mainGlobals mg → FnG P w K mg base CX k fa fd [x] sp)
    (hbind : ∀ (s : Shared) (u : Value), BindsTo s fd ⟨[u], []⟩ [(x, u)])
    (hsp : ∀ H : Hp, Only H → SqL K H a (ns.map V.int) → sp [.ref a] H (fun v _ => v = .bl true) E0)
    (hCX : ∀ H e s', CX [] H s₁ E0 e s' → False) :
    codeAny (model P w) callerA (.call (.ref fa) ⟨[.ref a], []⟩)
      (fun r s' => r = .ok (.ret (.bool true)) ∧ OldK s₁.heap s'.heap ∧ s'.os = s₁.os ∧
        AllBare s'.gens) s₁ := by
  have main : ∀ H : Hp, Only H → SqL K H a (ns.map V.int) → HOk P w H s₁.heap →
      (∀ b, H b ≠ none → b = a) → (H a ≠ none → K.lookup a = none) →
      codeAny (model P w) callerA (.call (.ref fa) ⟨[.ref a], []⟩)
        (fun r s' => r = .ok (.ret (.bool true)) ∧ OldK s₁.heap s'.heap ∧ s'.os = s₁.os ∧
          AllBare s'.gens) s₁ := by
    intro H only sq ok one off
    have cases' : ∀ b, H b = none ∨ b = a := fun b => by
      by_cases z : H b = none
      · exact .inl z
      · exact .inr (one b z)
    have dictFree : ∀ {b : Addr} {o : Obj} {es : Array DictEntry} {ep : Nat},
        s₁.heap.get? b = some o → o.data = .dict es ep → H b = none := by
      intro b o es ep e d
      rcases cases' b with z | z
      · exact z
      · subst z
        obtain rfl := Option.some.inj (e.symm.trans ha)
        cases (show Data.seq vs.toArray _ = Data.dict es ep from d)
    have keepNs : ∀ {b : Addr} {m : Str → Option Value}, s₁.heap.Ns b m →
        (hidT s₁.heap H).Ns b m := by
      rintro b m ⟨o, es, ep, e, d, r⟩
      exact ⟨o, es, ep, hidT_get e (dictFree e d), d, r⟩
    have inH : K.In (hidT s₁.heap H) := by
      intro b o e
      refine hidT_get (KX b o e) ?_
      rcases cases' b with z | z
      · exact z
      · subst z
        by_cases y : H b = none
        · exact y
        · cases (off y).symm.trans e
    obtain ⟨mc, l1, l2⟩ := hlim
    have md : Mod K mg (hidT s₁.heap H) :=
      ⟨inH, keepNs hns, ⟨mb, keepNs hb, hbb⟩, mc, keepNs l1, l2⟩
    have env : Env0 P w K mg (hidT s₁.heap H) callerA [] s₁ H :=
      { frames := rfl, mod := md, bs := fun b o e => of_hidT e
        bsz := Nat.le_of_eq (hidT_size _ _), funs := trivial
        frf := fun b hb => (List.not_mem_nil (show b ∈ ([] : List Addr) from hb)).elim
        hok := ok, bare := .of_eq hg }
    have run := (F _ inH (keepNs hns)).go callerA [] s₁ H ⟨[.ref a], []⟩ [.ref a] [.ref a] _ _ rfl hr
      env (hbind s₁ (.ref a)) (.cons rfl .nil) (hsp H only sq)
    refine codeAny_mono run ?_
    rintro (e | fl) s' h
    · exact (hCX H e s' h).elim
    cases fl with
    | next => exact h.elim
    | brk => exact h.elim
    | cont => exact h.elim
    | ret u =>
      obtain ⟨v, H', os, bare, un, ok', rv, rfl⟩ := h
      cases (show u = Value.bool true from rv)
      refine ⟨rfl, .of_keep fun b o e => ?_, os, bare⟩
      rcases only b with z | ⟨ob, xs, z⟩
      · exact un.keep b o e z (fun m => (List.not_mem_nil (show b ∈ ([] : List Addr) from m)).elim) (by simp)
      · have old := (ok b _ z).1
        have new := (ok' b _ (un.frzs b ob _ z)).1
        exact new.trans (old.symm.trans e)
  have rv := vals_ints hi
  by_cases hk : K.lookup a = none
  · let S : Obj := { cls := .type "list", data := .seq vs.toArray }
    let H : Hp := fun b => if b = a then some (.frz S (.lst (ns.map V.int))) else none
    have at' : H a = some (.frz S (.lst (ns.map V.int))) := if_pos rfl
    have off : ∀ b, b ≠ a → H b = none := fun b n => if_neg n
    refine main H (fun b => ?_) (.inl (.inr ⟨S, at'⟩)) (fun b u z => ?_) (fun b z => ?_) fun _ => hk
    · by_cases q : b = a
      · exact .inr ⟨_, _, q ▸ at'⟩
      · exact .inl (off b q)
    · by_cases q : b = a
      · subst q
        obtain rfl := Option.some.inj (at'.symm.trans z)
        exact ⟨ha, by rw [List.length_map]; exact hl, vs, _, rv, ha⟩
      · cases (off b q).symm.trans z
    · by_cases q : b = a
      · exact q
      · exact absurd (off b q) z
  · obtain ⟨o, e⟩ := Option.ne_none_iff_exists'.mp hk
    obtain rfl := Option.some.inj ((KX a o e).symm.trans ha)
    refine main (fun _ => none) (fun _ => .inl rfl) (.inr ⟨_, vs.toArray, _, e, rfl, rfl, rfl, ?_, ?_⟩)
      (fun b u z => nomatch (show (none : Option HO) = some u from z)) (fun b z => absurd rfl z) fun z => absurd rfl z
    · rw [List.size_toArray, hi.length]
      exact hl
    · simpa using rv

theorem walkG {l : PySem.W.OpenLaw} {n k : Nat} {q : Program} {loose : List Str}
    {XP : (Str → Option Value) → Heap → Prop} {YP : World → Heap → Prop} {d : DefRec}
    {K : Params → PySem.W.Frag} {CX : World → CXT} {sp : World → Sp} {x : Str}
    (hn : l.most = some n) (hn2 : n ≤ sizeLine) (hdf : d.params.defaults = []) (hr : Room k callerA)
    (hY : ∀ (w : World) (h : Heap), YP w h → (K w.params).In h)
    (F : ∀ (w : World) (mg : Str → Option Value) (fa : Addr) (h : Heap), (K w.params).In h →
      h.Ns mainGlobals mg → mg d.name = some (.ref fa) →
      ∃ fd : FuncData, (∀ (s : Shared) (u : Value), BindsTo s fd ⟨[u], []⟩ [(x, u)]) ∧
        ∀ base : Heap, (K w.params).In base → base.Ns mainGlobals mg →
          FnG l.prog w (K w.params) mg base (CX w) k fa fd [x] (sp w))
    (hsp : ∀ (w : World) (H : Hp) (a : Addr) (ns : List Int), ns.length ≤ n → Only H →
      SqL (K w.params) H a (ns.map V.int) → sp w [.ref a] H (fun v _ => v = .bl true) E0)
    (hCX : ∀ (w : World) (H : Hp) (s : Shared) (e : Value) (s' : Shared), CX w [] H s E0 e s' → False) :
    PySem.W.WalkO q loose XP YP l.row.toRowW d [] (fun f vs => PySem.call f vs) := by
  apply Att.attach_call hn hdf
  intro w s₀ s₁ mg mb fa o pm cd doc a vs ns G Y _ _ _ hmg hobj hints hlen hg
  obtain ⟨fd, hb, hF⟩ := F w mg fa _ (hY w _ Y) G.T.g hmg
  exact entG (hY w _ Y) G.T.g G.T.b G.T.builtins G.T.nolimit hg hobj hints (Nat.le_trans hlen hn2) hr hF hb
    (fun H hO hS => hsp w H a ns hlen hO hS) (fun H e s' => hCX w H s₁ e s')
end Nd
namespace Nd
open PySem PySem.Spec PyProof.Rows L2
/-! ### repr of data -/
mutual
theorem noDict {K : PySem.W.Frag} {H : Hp} : ∀ {d : PyData} {v : V}, Dp K H v d → d.hasDict = false
  | .none, _, _ => rfl
  | .bool _, _, _ => rfl
  | .int _, _, _ => rfl
  | .str _, _, _ => rfl
  | .list ds, _, h => by
    cases h with
    | lst _ ha => simpa [PyData.hasDict] using noDicts ha
  | .tuple ds, _, h => by
    cases h with
    | tup _ ha => simpa [PyData.hasDict] using noDicts ha
  | .dict _, _, h => by cases h
theorem noDicts {K : PySem.W.Frag} {H : Hp} : ∀ {ds : List PyData} {vs : List V}, DpAll K H vs ds → PyData.hasDictAll ds = false
  | [], _, _ => rfl
  | d :: ds, _, h => by
    cases h with
    | cons h1 h2 => simp [PyData.hasDictAll, noDict h1, noDicts h2]
end
def rRepr (K : PySem.W.Frag) : List V → Hp → VK → Prop := fun vs H Q => ∃ (v : V) (d : PyData), vs = [v] ∧
  Dp K H v d ∧ d.showable = true ∧ d.depth ≤ 60 ∧ d.shown.length ≤ sizeLine ∧ Q (.str d.shown) H
theorem repr_leaf_bool {P : Program} {w : World} {A : Around} {E : Value → Shared → Prop} {s : Shared} {b : Bool} {Q : Value → Shared → Prop}
    (h : Q (.str (PyData.bool b).shown s.toks) { s with toks := s.toks + 1 }) : wpAny (model P w) A (call (.builtin "repr") [.bool b]) Q E s := by
  refine PySem.P.repr_of_bool ?_
  rw [PyData.shown_bool] at h
  exact h
theorem cr_repr {X : Cx} (hG : X.A.guards = some []) {k : Nat} (hr : Room k X.A) : CallR X (.builtin "repr") (rRepr X.K) := by
  intro pins s σ H xs us Q I r h
  obtain ⟨v, d, rfl, hd, hs, hdep, hz, q⟩ := h
  obtain ⟨u, rfl, ru⟩ := vals1 r
  have nd := noDict hd
  obtain ⟨as, rd⟩ := Dp.reads I d v u hd ru
  have fin : ∀ t tk, EP X pins σ Q (.str d.shown t) { s with toks := tk } := fun t tk => ⟨.str d.shown, H, I.tok tk, ⟨t, rfl⟩, q⟩
  cases hd with
  | non =>
    cases ru
    refine P.repr_of_none ?_
    have e := fin s.toks (s.toks + 1)
    rw [PyData.shown_none] at e
    exact e
  | bl b =>
    cases ru
    exact repr_leaf_bool (fin _ _)
  | int i =>
    obtain ⟨t, rfl⟩ := ru
    refine P.repr_of_int (by simpa [PyData.showable] using hs) ?_
    have e := fin s.toks (s.toks + 1)
    rw [PyData.shown_int] at e
    exact e
  | str x =>
    obtain ⟨t, rfl⟩ := ru
    rw [PyData.shown_str] at hz
    refine P.repr_of_str ?_ hz
    have e := fin s.toks (s.toks + 1)
    rw [PyData.shown_str] at e
    exact e
  | lst hl ha =>
    cases ru
    exact repr_of_reads' rd hs (fun e => by rw [nd] at e; cases e) hG (by have := hr.un; omega) (fun _ _ e => e)
      (fun h' t tk keep => ⟨.str _, H, I.kept keep, ⟨t, rfl⟩, q⟩) hz
  | tup hl ha =>
    cases ru
    exact repr_of_reads' rd hs (fun e => by rw [nd] at e; cases e) hG (by have := hr.un; omega) (fun _ _ e => e)
      (fun h' t tk keep => ⟨.str _, H, I.kept keep, ⟨t, rfl⟩, q⟩) hz
end Nd

namespace Nd
open PySem PySem.Spec PyProof.Rows L2
section
variable {P : Program} {w : World} {K : PySem.W.Frag} {mg : Str → Option Value} {base : Heap}
/-- a def out of which no exception comes -/
theorem okG0 {x qual : Str} {st : Stmt} {f : Addr} {fd : FuncData} {N ps : List Str}
    {k : Nat} {sp : Sp} (F : Fun K x qual st f fd) (S : FnScope N ps (defScope st))
    (many : ∀ vs H Q E, sp vs H Q E → vs.length = ps.length)
    (body : ∀ (cdv : Value) (A : Around) (fr : List Env) (s : Shared) (H : Hp) (vs : List V) (Q : VK) (E : XK),
      (cxOf CX0 P w K mg base N qual (defScope st) f cdv A fr s H E).nox.A.guards = some [] →
      Room k (cxOf CX0 P w K mg base N qual (defScope st) f cdv A fr s H E).nox.A → sp vs H Q E →
      ∃ t, PSs (cxOf CX0 P w K mg base N qual (defScope st) f cdv A fr s H E).nox (defBody st) t ∧
        t { nx := fun _ H' => Q .non H', rt := Q } (start N vs) H) :
    FnG P w K mg base CX0 (k + 1) f fd ps sp := by
  refine okG F S many fun cdv A fr s H vs Q E hG hr h => ?_
  obtain ⟨t, h1, h2⟩ := body cdv A fr s H vs Q E hG hr h
  exact ⟨t, h1.nox, h2⟩
/-- what a caller knows of a def -/
structure Cal (P : Program) (w : World) (K : PySem.W.Frag) (mg : Str → Option Value) (base : Heap) (CX : CXT) (k : Nat) (x : Str) (sp : Sp) : Prop where
  ex : ∃ (f : Addr) (fd : FuncData) (ps : List Str), FnG P w K mg base CX k f fd ps sp ∧ mg x = some (.ref f) ∧
    PySem.W.keepIn K (.ref f) = true ∧ Binds K fd ps []
end
theorem pe_f {X : Cx} {CX : CXT} {k : Nat} {x : Str} {sp : Sp} {E : XK} {p pos : Pos} {e : Expr} {es : List Expr} {t : TA}
    (c : Cal X.prog X.w X.K X.mg X.base CX k x sp) (hG : X.A.guards = some []) (hr : Room k X.A) (hg : Gl X x) (hx : Passes CX X E)
    (ha : PA X (e :: es) t) (hdb : (x == ("__debug__" : Str)) = false := by decide)
    (he : starEach (e :: es) X.env = (false, eval e X.env) :: starEach es X.env := by rfl)
    (hpl : (backTo pos (starEach es X.env)).any (·.1) = false := by rfl) :
    PE X (.Call (.Name x p) (e :: es) [] pos) (tCall sp [] E t) := by
  obtain ⟨f, fd, ps, F, hm, hk, hb⟩ := c.ex
  exact pe_callG F hG hr hg hm hk hb .nil hx ha hdb he hpl
end Nd
namespace Nd
open PySem PySem.Spec PyProof.Rows L2
/-! ### what a law draws from: a list of its numbers, a place, a rest -/
/-- all that was tracked stays, but the one at r, a list whose first item stays -/
structure Gr (r : Addr) (H H' : Hp) : Prop where
  all : ∀ b o, b ≠ r → H b = some o → H' b = some o
  own : ∀ c t, H r = some (.lst (.ref c :: t)) → ∃ t', H' r = some (.lst (.ref c :: t'))
instance {r : Addr} {H H' : Hp} : CoeFun (Gr r H H') (fun _ => ∀ b o, b ≠ r → H b = some o → H' b = some o) := ⟨fun g => g.all⟩
theorem Gr.rfl' {r : Addr} {H : Hp} : Gr r H H := ⟨fun _ _ _ e => e, fun _ t e => ⟨t, e⟩⟩
theorem Gr.trans {r : Addr} {H H1 H2 : Hp} (a : Gr r H H1) (b : Gr r H1 H2) : Gr r H H2 := ⟨fun c o n e => b.all c o n (a.all c o n e), fun c t e => by
  obtain ⟨t1, e1⟩ := a.own c t e
  exact b.own c t1 e1⟩
theorem Gr.same {r : Addr} {H H' : Hp} (a : Same H H') : Gr r H H' := ⟨fun c o _ e => a c o e, fun c t e => ⟨t, a _ _ e⟩⟩
theorem Gr.new {r p : Addr} {H : Hp} {o : HO} (h : H p = none) : Gr r H (upd H p o) := Gr.same fun b u e => by
  rw [upd_ne (ne_of_none e h)]
  exact e
theorem Gr.put {r c : Addr} {H : Hp} {t t' : List V} (h : H r = some (.lst (.ref c :: t))) : Gr r H (upd H r (.lst (.ref c :: t'))) := ⟨fun b u n e => by
  rw [upd_ne n]
  exact e, fun c' _ e => by
  rw [h] at e
  cases e
  exact ⟨t', upd_same⟩⟩
theorem Same.new {p : Addr} {H : Hp} {o : HO} (h : H p = none) : Same H (upd H p o) := fun b u e => by
  rw [upd_ne (ne_of_none e h)]
  exact e
structure Rid (r : Addr) (n : Nat) (H : Hp) : Prop where
  ex : ∃ (c : Addr) (ns : List Int) (a z : Int), r ≠ c ∧ H r = some (.lst [.ref c, .int a, .int z]) ∧
    H c = some (.lst (ns.map V.int)) ∧ ns.length ≤ 60 ∧ 0 ≤ a ∧ a ≤ n ∧ 0 ≤ z
theorem Rid.mono {r : Addr} {n m : Nat} {H : Hp} (h : Rid r n H) (l : n ≤ m) : Rid r m H := by
  obtain ⟨c, ns, a, z, h1, h2, h3, h4, h5, h6, h7⟩ := h.ex
  exact ⟨c, ns, a, z, h1, h2, h3, h4, h5, by omega, h7⟩
theorem Rid.same {r : Addr} {n : Nat} {H H' : Hp} (h : Rid r n H) (s : Same H H') : Rid r n H' := by
  obtain ⟨c, ns, a, z, h1, h2, h3, h4⟩ := h.ex
  exact ⟨c, ns, a, z, h1, s _ _ h2, s _ _ h3, h4⟩
theorem Rid.new {r p : Addr} {n : Nat} {H : Hp} {o : HO} (h : Rid r n H) (hp : H p = none) : Rid r n (upd H p o) := h.same (Same.new hp)
/-- as Rid, and neither list of it is D -/
structure RidN (D r : Addr) (n : Nat) (H : Hp) : Prop where
  rid : Rid r n H
  ne : D ≠ r
  off : ∀ c t, H r = some (.lst (.ref c :: t)) → c ≠ D
theorem Rid.newN {D r : Addr} {n : Nat} {H : Hp} {o : HO} (h : Rid r n H) (hD : H D = none) : RidN D r n (upd H D o) := by
  obtain ⟨c, ns, a, z, h1, h2, h3, h4⟩ := h.ex
  have n1 : r ≠ D := ne_of_none h2 hD
  refine ⟨h.new hD, n1.symm, fun c' t e => ?_⟩
  rw [upd_ne n1, h2] at e
  cases e
  exact ne_of_none h3 hD
theorem RidN.gr {D r : Addr} {n m : Nat} {H H' : Hp} (h : RidN D r n H) (g : Gr r H H') (k : Rid r m H') : RidN D r m H' := by
  refine ⟨k, h.ne, fun c t e => ?_⟩
  obtain ⟨c0, ns, a, z, h1, h2, h3, h4⟩ := h.rid.ex
  obtain ⟨t', e'⟩ := g.own _ _ h2
  rw [e'] at e
  cases e
  exact h.off _ _ h2
theorem RidN.put {D r : Addr} {n : Nat} {H : Hp} {o : HO} (h : RidN D r n H) : RidN D r n (upd H D o) := by
  obtain ⟨c, ns, a, z, h1, h2, h3, h4⟩ := h.rid.ex
  have n1 : r ≠ D := h.ne.symm
  refine ⟨⟨c, ns, a, z, h1, (upd_ne n1).trans h2, (upd_ne (h.off _ _ h2)).trans h3, h4⟩, h.ne, fun c' t e => ?_⟩
  rw [upd_ne n1] at e
  exact h.off _ _ e
theorem RidN.same {D r : Addr} {n : Nat} {H H' : Hp} (h : RidN D r n H) (s : Same H H') : RidN D r n H' := h.gr (Gr.same s) (h.rid.same s)
def spDraw : Sp := fun vs H Q _ => ∃ (r : Addr) (n : Nat) (many : Int), vs = [.ref r, .int many] ∧ Rid r n H ∧ n < 1000000 ∧
  0 < many ∧ many < 1073741824 ∧ ∀ H' v, Gr r H H' → Rid r (n + 1) H' → 0 ≤ v → v < many → Q (.int v) H'
def spPick : Sp := fun vs H Q _ => ∃ (r l : Addr) (n : Nat) (xs : List V), vs = [.ref r, .ref l] ∧ Rid r n H ∧ n < 1000000 ∧
  l ≠ r ∧ H l = some (.lst xs) ∧ 0 < xs.length ∧ xs.length < 1000 ∧ ∀ H' v, Gr r H H' → Rid r (n + 1) H' → v ∈ xs → Q v H'
end Nd

namespace Nd
open PySem PySem.Spec PyProof.Rows L2
theorem dpInts {K : PySem.W.Frag} {H : Hp} : ∀ ns : List Int, DpAll K H (ns.map V.int) (ns.map PyData.int)
  | [] => .nil
  | n :: ns => .cons (.int n) (dpInts ns)
theorem canInts : ∀ ns : List Int, PyData.canLayAll0 (ns.map PyData.int) = true
  | [] => by simp only [List.map_nil, PyData.canLayAll0]
  | n :: ns => by simp only [List.map_cons, PyData.canLayAll0, PyData.canLay0, canInts ns, Bool.and_self]
theorem depInts : ∀ ns : List Int, PyData.depthAll (ns.map PyData.int) = 0
  | [] => by simp only [List.map_nil, PyData.depthAll]
  | n :: ns => by simp only [List.map_cons, PyData.depthAll, PyData.depth, depInts ns, Nat.max_self]
theorem shInts (ns : List Int) : SeqAt.shaped (.list (ns.map PyData.int)) = true := by
  simp [SeqAt.shaped, PyData.canLay0, PyData.depth, canInts ns, depInts ns]
theorem shNil : SeqAt.shaped (.list []) = true := by
  simp [SeqAt.shaped, PyData.canLay0, PyData.depth, PyData.canLayAll0, PyData.depthAll]
theorem eqvNil (ns : List Int) : PyData.eqv (.list (ns.map PyData.int)) (.list []) = ns.isEmpty := by
  cases ns with
  | nil => simp only [List.map_nil, PyData.eqv, PyData.eqvAll, List.isEmpty_nil]
  | cons n ns => simp only [List.map_cons, PyData.eqv, PyData.eqvAll, List.isEmpty_cons]
theorem atInts {ns : List Int} {i : Int} (h0 : 0 ≤ i) (h1 : i < ns.length) : ∃ v, ns[i.toNat]? = some v ∧ atI (ns.map V.int) i = some (V.int v) := by
  obtain ⟨j, rfl⟩ := Int.eq_ofNat_of_zero_le h0
  have hj : j < ns.length := by omega
  refine ⟨ns[j], by simp [hj], ?_⟩
  exact atI_nat (by simp [hj])
theorem mixBig {u a k l m : Int} (u0 : 0 ≤ u) (u1 : u < 2147483648) (a0 : 0 ≤ a) (a1 : a ≤ 1000000) (k0 : 0 ≤ k) (k1 : k < 1000000)
    (l0 : 0 ≤ l) (l1 : l < 1000000) (m0 : 0 ≤ m) (m1 : m < 1000000) : (u * (2 * a + k) + l * a * a + m).natAbs < 2 ^ 64 := by
  have h1 : u * (2 * a + k) ≤ 2147483648 * 3000000 := Int.mul_le_mul (by omega) (by omega) (by omega) (by omega)
  have h2 : l * a ≤ 1000000 * 1000000 := Int.mul_le_mul (by omega) (by omega) (by omega) (by omega)
  have h3 : 0 ≤ l * a := Int.mul_nonneg l0 a0
  have h4 : l * a * a ≤ 1000000000000 * 1000000 := Int.mul_le_mul (by omega) (by omega) (by omega) (by omega)
  have h5 : 0 ≤ u * (2 * a + k) := Int.mul_nonneg u0 (by omega)
  have h6 : 0 ≤ l * a * a := Int.mul_nonneg h3 a0
  omega
def spRiddle (K : PySem.W.Frag) : Sp := fun vs H Q _ => ∃ (a : Addr) (ns : List Int), vs = [.ref a] ∧ SqL K H a (ns.map V.int) ∧ ns.length ≤ 63 ∧
  ∀ H' r, Same H H' → H r = none → Rid r 0 H' → Q (.ref r) H'
end Nd


namespace Nd
open PySem PySem.Spec PyProof.Rows L2
/-! ### readings, a step each -/
theorem k_seq {t u : TS} {nx bk ct : L2.St → Hp → Prop} {rt : VK} {σ : L2.St} {H : Hp} (h : t (Ends.mk (u (Ends.mk nx rt bk ct)) rt bk ct) σ H) :
    tSeq t u (Ends.mk nx rt bk ct) σ H := h
theorem k_next {nx bk ct : L2.St → Hp → Prop} {rt : VK} {σ : L2.St} {H : Hp} (h : nx σ H) :
    tNext (Ends.mk nx rt bk ct) σ H := h
theorem k_brk {nx bk ct : L2.St → Hp → Prop} {rt : VK} {σ : L2.St} {H : Hp} (h : bk σ H) :
    tBreak (Ends.mk nx rt bk ct) σ H := h
theorem k_cont {nx bk ct : L2.St → Hp → Prop} {rt : VK} {σ : L2.St} {H : Hp} (h : ct σ H) :
    tCont (Ends.mk nx rt bk ct) σ H := h
theorem k_drop {te : TE} {nx bk ct : L2.St → Hp → Prop} {rt : VK} {σ : L2.St} {H : Hp} (h : te σ H fun _ H1 => nx σ H1) :
    tDrop te (Ends.mk nx rt bk ct) σ H := h
theorem k_ret {te : TE} {nx bk ct : L2.St → Hp → Prop} {rt : VK} {σ : L2.St} {H : Hp} (h : te σ H rt) :
    tRet te (Ends.mk nx rt bk ct) σ H := h
theorem k_retN {nx bk ct : L2.St → Hp → Prop} {rt : VK} {σ : L2.St} {H : Hp} (h : rt .non H) :
    tRetN (Ends.mk nx rt bk ct) σ H := h
theorem k_if {c : TT} {t u : TS} {D : Ends} {σ : L2.St} {H : Hp} (h : c σ H fun b H1 => if b = true then t D σ H1 else u D σ H1) :
    tIfS c t u D σ H := h
theorem k_asg {te : TE} {g : TG} {nx bk ct : L2.St → Hp → Prop} {rt : VK} {σ : L2.St} {H : Hp} (h : te σ H fun x H1 => g x σ H1 nx) :
    tAsg te g (Ends.mk nx rt bk ct) σ H := h
theorem k_gname {i : Nat} {v : V} {σ : L2.St} {H : Hp} {Q : L2.St → Hp → Prop} (h : Q (σ.set i (some v)) H) :
    gName i v σ H Q := h
theorem k_gsub {to ti : TE} {t : TSet} {v : V} {σ : L2.St} {H : Hp} {Q : L2.St → Hp → Prop} (h : to σ H fun o H1 => ti σ H1 fun i H2 => t o i v H2 fun H3 => Q σ H3) :
    gSub to ti t v σ H Q := h
theorem k_gtup {K : PySem.W.Frag} {n : Nat} {t : TGs} {a : Addr} {xs : List V} {σ : L2.St} {H : Hp} {Q : L2.St → Hp → Prop} (h1 : SqT K H a xs) (h2 : xs.length = n) (h : t xs σ H Q) :
    gTup K n t (.ref a) σ H Q := ⟨a, xs, rfl, h1, h2, h⟩
theorem k_gunl {K : PySem.W.Frag} {n : Nat} {t : TGs} {a : Addr} {xs : List V} {σ : L2.St} {H : Hp} {Q : L2.St → Hp → Prop} (h1 : SqL K H a xs) (h2 : xs.length = n) (h : t xs σ H Q) :
    gUnl K n t (.ref a) σ H Q := ⟨a, xs, rfl, h1, h2, h⟩
theorem k_gcons {t : TG} {u : TGs} {v : V} {vs : List V} {σ : L2.St} {H : Hp} {Q : L2.St → Hp → Prop} (h : t v σ H fun σ1 H1 => u vs σ1 H1 Q) :
    gCons t u (v :: vs) σ H Q := ⟨v, vs, rfl, h⟩
theorem k_gnil {σ : L2.St} {H : Hp} {Q : L2.St → Hp → Prop} (h : Q σ H) :
    gNil [] σ H Q := ⟨rfl, h⟩
theorem k_par {i j : Nat} {ta : TA} {nx bk ct : L2.St → Hp → Prop} {rt : VK} {σ : L2.St} {H : Hp} (h : ta σ H fun vs H1 => ∃ v w, vs = [v, w] ∧ nx ((σ.set i (some v)).set j (some w)) H1) :
    tPar i j ta (Ends.mk nx rt bk ct) σ H := h
theorem k_par3 {i j l : Nat} {ta : TA} {nx bk ct : L2.St → Hp → Prop} {rt : VK} {σ : L2.St} {H : Hp} (h : ta σ H fun vs H1 => ∃ u v w, vs = [u, v, w] ∧ nx (((σ.set i (some u)).set j (some v)).set l (some w)) H1) :
    tPar3 i j l ta (Ends.mk nx rt bk ct) σ H := h
theorem k_aug {i : Nat} {te : TE} {ti : TIp} {x : V} {nx bk ct : L2.St → Hp → Prop} {rt : VK} {σ : L2.St} {H : Hp} (hx : σ[i]? = some (some x)) (h : te σ H fun y H1 => ti x y H1 fun z H2 => nx (σ.set i (some z)) H2) :
    tAug i te ti (Ends.mk nx rt bk ct) σ H := ⟨x, hx, h⟩
theorem k_var {i : Nat} {v : V} {σ : L2.St} {H : Hp} {Q : VK} (h : σ[i]? = some (some v)) (q : Q v H) :
    tVar i σ H Q := ⟨v, h, q⟩
theorem k_c {v : V} {σ : L2.St} {H : Hp} {Q : VK} (q : Q v H) :
    tC v σ H Q := q
theorem k_op {r : R2} {ta tb : TE} {σ : L2.St} {H : Hp} {Q : VK} (h : ta σ H fun x H1 => tb σ H1 fun y H2 => r x y H2 Q) :
    tOp r ta tb σ H Q := h
theorem k_un {r : V → Hp → VK → Prop} {ta : TE} {σ : L2.St} {H : Hp} {Q : VK} (h : ta σ H fun x H1 => r x H1 Q) :
    tUn r ta σ H Q := h
theorem k_I0 {g : Int → Int → V} {i j : Int} {H : Hp} {Q : VK} (h : Q (g i j) H) :
    rI0 g (.int i) (.int j) H Q := ⟨i, j, rfl, rfl, h⟩
theorem k_I {C : Int → Int → Prop} {g : Int → Int → V} {i j : Int} {H : Hp} {Q : VK} (c : C i j) (h : Q (g i j) H) :
    rI C g (.int i) (.int j) H Q := ⟨i, j, rfl, rfl, c, h⟩
theorem k_U {g : Int → V} {i : Int} {H : Hp} {Q : VK} (h : Q (g i) H) :
    rU g (.int i) H Q := ⟨i, rfl, h⟩
theorem k_eq {x y : V} {H : Hp} {Q : VK} (c : scal x y = true) (h : Q (.bl (decide (x = y))) H) :
    rEq x y H Q := ⟨c, h⟩
theorem k_ne {x y : V} {H : Hp} {Q : VK} (c : scal x y = true) (h : Q (.bl (!decide (x = y))) H) :
    rNe x y H Q := ⟨c, h⟩
theorem k_cb {r : List V → Hp → VK → Prop} {t : TA} {σ : L2.St} {H : Hp} {Q : VK} (h : t σ H fun vs H1 => r vs H1 Q) :
    tCB r t σ H Q := h
theorem k_call {sp : Sp} {dvs : List V} {E : XK} {t : TA} {σ : L2.St} {H : Hp} {Q : VK} (h : t σ H fun vs H1 => sp (vs ++ dvs) H1 Q E) :
    tCall sp dvs E t σ H Q := h
theorem k_nil {σ : L2.St} {H : Hp} {Q : List V → Hp → Prop} (h : Q [] H) :
    tNil σ H Q := h
theorem k_cons {ta : TE} {tr : TA} {σ : L2.St} {H : Hp} {Q : List V → Hp → Prop} (h : ta σ H fun x H1 => tr σ H1 fun xs H2 => Q (x :: xs) H2) :
    tCons ta tr σ H Q := h
theorem k_tup {t : TA} {σ : L2.St} {H : Hp} {Q : VK} (h : t σ H fun xs H1 => xs.length ≤ sizeLine ∧ ∀ p, H1 p = none → Q (.ref p) (upd H1 p (.tup xs))) :
    tTup t σ H Q := h
theorem k_lst {t : TA} {σ : L2.St} {H : Hp} {Q : VK} (h : t σ H fun xs H1 => xs.length ≤ sizeLine ∧ ∀ p, H1 p = none → Q (.ref p) (upd H1 p (.lst xs))) :
    tLst t σ H Q := h
theorem k_ife {t : TT} {ta tb : TE} {σ : L2.St} {H : Hp} {Q : VK} (h : t σ H fun c H1 => if c = true then ta σ H1 Q else tb σ H1 Q) :
    tIf t ta tb σ H Q := h
theorem k_andV {ta tb : TE} {σ : L2.St} {H : Hp} {Q : VK} (h : ta σ H fun x H1 => ∃ c, x = .bl c ∧ if c = true then tb σ H1 Q else Q (.bl false) H1) :
    tAndV ta tb σ H Q := h
theorem k_orV {ta tb : TE} {σ : L2.St} {H : Hp} {Q : VK} (h : ta σ H fun x H1 => ∃ c, x = .bl c ∧ if c = true then Q (.bl true) H1 else tb σ H1 Q) :
    tOrV ta tb σ H Q := h
theorem k_notV {ta : TE} {σ : L2.St} {H : Hp} {Q : VK} (h : ta σ H fun x H1 => ∃ c, x = .bl c ∧ Q (.bl (!c)) H1) :
    tNotV ta σ H Q := h
theorem k_tB {t : TE} {σ : L2.St} {H : Hp} {Q : Bool → Hp → Prop} (h : t σ H fun x H1 => ∃ c, x = .bl c ∧ Q c H1) :
    tB t σ H Q := h
theorem k_test {t : TE} {σ : L2.St} {H : Hp} {Q : Bool → Hp → Prop} (h : t σ H fun x H1 => ∃ c, x = .bl c ∧ Q c H1) :
    tTest t σ H Q := h
theorem k_tAnd {t u : TT} {σ : L2.St} {H : Hp} {Q : Bool → Hp → Prop} (h : t σ H fun c H1 => if c = true then u σ H1 Q else Q false H1) :
    tAnd t u σ H Q := h
theorem k_tOr {t u : TT} {σ : L2.St} {H : Hp} {Q : Bool → Hp → Prop} (h : t σ H fun c H1 => if c = true then Q true H1 else u σ H1 Q) :
    tOr t u σ H Q := h
theorem k_tNot {t : TT} {σ : L2.St} {H : Hp} {Q : Bool → Hp → Prop} (h : t σ H fun c H1 => Q (!c) H1) :
    tNot t σ H Q := h
theorem k_tYes {σ : L2.St} {H : Hp} {Q : Bool → Hp → Prop} (h : Q true H) :
    tYes σ H Q := h
theorem k_ixL {K : PySem.W.Frag} {p : Addr} {xs : List V} {i : Int} {v : V} {H : Hp} {Q : VK} (h : SqL K H p xs) (ha : atI xs i = some v) (q : Q v H) :
    rIxL K (.ref p) (.int i) H Q := ⟨p, xs, i, v, rfl, rfl, h, ha, q⟩
theorem k_ixT {K : PySem.W.Frag} {p : Addr} {xs : List V} {i : Int} {v : V} {H : Hp} {Q : VK} (h : SqT K H p xs) (ha : atI xs i = some v) (q : Q v H) :
    rIxT K (.ref p) (.int i) H Q := ⟨p, xs, i, v, rfl, rfl, h, ha, q⟩
theorem k_setL {p : Addr} {xs : List V} {k : Int} {j : Nat} {v : V} {H : Hp} {Q : Hp → Prop} (h : H p = some (.lst xs)) (hj : ixN xs.length k = some j) (q : Q (upd H p (.lst (xs.set j v)))) :
    rSetL (.ref p) (.int k) v H Q := ⟨p, xs, k, j, rfl, rfl, h, hj, q⟩
theorem k_sl {r : V → Option Int → Option Int → Hp → VK → Prop} {te : TE} {tl th : TO} {σ : L2.St} {H : Hp} {Q : VK} (h : te σ H fun x H1 => tl σ H1 fun l H2 => th σ H2 fun u H3 => r x l u H3 Q) :
    tSl r te tl th σ H Q := h
theorem k_noPart {σ : L2.St} {H : Hp} {Q : Option Int → Hp → Prop} (h : Q none H) :
    tNoPart σ H Q := h
theorem k_part {t : TE} {σ : L2.St} {H : Hp} {Q : Option Int → Hp → Prop} (h : t σ H fun x H1 => ∃ i, x = .int i ∧ Q (some i) H1) :
    tPart t σ H Q := h
theorem k_slL {K : PySem.W.Frag} {a : Addr} {xs : List V} {lo hi : Option Int} {H : Hp} {Q : VK} (h : SqL K H a xs) (q : ∀ p, H p = none → Q (.ref p) (upd H p (.lst (cutV xs lo hi)))) :
    rSlL K (.ref a) lo hi H Q := ⟨a, xs, rfl, h, q⟩
theorem k_cat {l b : Addr} {xs zs : List V} {H : Hp} {Q : VK} (h1 : H l = some (.lst xs)) (h2 : H b = some (.lst zs)) (h3 : xs.length + zs.length ≤ sizeLine) (q : ∀ p, H p = none → Q (.ref p) (upd H p (.lst (xs ++ zs)))) :
    rCat (.ref l) (.ref b) H Q := ⟨l, b, xs, zs, rfl, rfl, h1, h2, h3, q⟩
theorem k_bm {K : PySem.W.Frag} {T : String} {r : V → List V → Hp → VK → Prop} {to : TE} {t : TA} {σ : L2.St} {H : Hp} {Q : VK} (h : to σ H fun x H1 => tyV K T x H1 ∧ t σ H1 fun xs H2 => r x xs H2 Q) :
    tBM K T r to t σ H Q := h
theorem k_app {l : Addr} {xs : List V} {y : V} {H : Hp} {Q : VK} (h : H l = some (.lst xs)) (hz : xs.length < sizeLine) (q : Q .non (upd H l (.lst (xs ++ [y])))) :
    rAppend (.ref l) [y] H Q := ⟨l, xs, y, rfl, rfl, h, hz, q⟩
theorem k_eqD {K : PySem.W.Frag} {x y : V} {d e : PyData} {H : Hp} {Q : VK} (h1 : Dp K H x d) (h2 : Dp K H y e) (s1 : SeqAt.shaped d = true) (s2 : SeqAt.shaped e = true) (q : Q (.bl (PyData.eqv d e)) H) :
    rEqD K x y H Q := ⟨d, e, h1, h2, s1, s2, q⟩
theorem k_neD {K : PySem.W.Frag} {x y : V} {d e : PyData} {H : Hp} {Q : VK} (h1 : Dp K H x d) (h2 : Dp K H y e) (s1 : SeqAt.shaped d = true) (s2 : SeqAt.shaped e = true) (q : Q (.bl (!PyData.eqv d e)) H) :
    rNeD K x y H Q := ⟨d, e, h1, h2, s1, s2, q⟩
theorem k_repr {K : PySem.W.Frag} {v : V} {d : PyData} {H : Hp} {Q : VK} (h : Dp K H v d) (h1 : d.showable = true) (h2 : d.depth ≤ 60) (h3 : d.shown.length ≤ sizeLine) (q : Q (.str d.shown) H) :
    rRepr K [v] H Q := ⟨v, d, rfl, h, h1, h2, h3, q⟩
theorem k_gcd {a b : Int} {H : Hp} {Q : VK} (q : Q (.int ((Nat.gcd a.natAbs b.natAbs : Nat) : Int)) H) :
    rGcd [.int a, .int b] H Q := ⟨a, b, rfl, q⟩
theorem k_rt {nx bk ct : L2.St → Hp → Prop} {rt : VK} {v : V} {H : Hp} (h : rt v H) :
    (Ends.mk nx rt bk ct).rt v H := h
theorem k_nx {nx bk ct : L2.St → Hp → Prop} {rt : VK} {σ : L2.St} {H : Hp} (h : nx σ H) :
    (Ends.mk nx rt bk ct).nx σ H := h
theorem k_bk {nx bk ct : L2.St → Hp → Prop} {rt : VK} {σ : L2.St} {H : Hp} (h : bk σ H) :
    (Ends.mk nx rt bk ct).bk σ H := h
theorem k_ct {nx bk ct : L2.St → Hp → Prop} {rt : VK} {σ : L2.St} {H : Hp} (h : ct σ H) :
    (Ends.mk nx rt bk ct).ct σ H := h
end Nd

namespace Nd
open PySem PySem.Spec PyProof.Rows L2
/-! ### comprehensions whose items are plain values: which turns give (f), and what (v) -/
def given (n : Nat) (f : Nat → Bool) (v : Nat → V) : List V := ((List.range n).filter f).map v
theorem given_so {n : Nat} {f : Nat → Bool} {v : Nat → V} (h : f n = true) : given (n + 1) f v = given n f v ++ [v n] := by
  simp [given, List.range_succ, List.filter_append, h]
theorem given_not {n : Nat} {f : Nat → Bool} {v : Nat → V} (h : f n = false) : given (n + 1) f v = given n f v := by
  simp [given, List.range_succ, List.filter_append, h]
theorem given_len (n : Nat) (f : Nat → Bool) (v : Nat → V) : (given n f v).length ≤ n := by
  unfold given
  rw [List.length_map]
  exact Nat.le_trans (List.length_filter_le _ _) (by rw [List.length_range]; exact Nat.le_refl _)
theorem given_all {n : Nat} {v : Nat → V} {xs : List V} (hn : xs.length = n) (h : ∀ i x, xs[i]? = some x → v i = x) : given n (fun _ => true) v = xs := by
  apply List.ext_getElem?
  intro i
  unfold given
  rw [List.filter_eq_self.mpr (by intros; rfl), List.getElem?_map]
  by_cases hi : i < n
  · rw [List.getElem?_range hi]
    have : xs[i]? = some xs[i] := by simp [hn ▸ hi]
    rw [this]
    exact congrArg some (h i _ this)
  · rw [List.getElem?_eq_none (by simpa using hi), List.getElem?_eq_none (by omega)]
    rfl
/-- D is new: what was before stays, D holds what is given so far -/
def Cw (H1 : Hp) (f : Nat → Bool) (v : Nat → V) (D : Addr) (i : Nat) (H : Hp) : Prop := Same H1 H ∧ H D = some (.lst (given i f v))
theorem cw_start {H1 : Hp} {f : Nat → Bool} {v : Nat → V} {D : Addr} (hD : H1 D = none) : Cw H1 f v D 0 (upd H1 D (.lst [])) := ⟨Same.new hD, upd_same⟩
theorem cw_step {H1 H3 H4 : Hp} {f : Nat → Bool} {v : Nat → V} {D : Addr} {i : Nat} (hD : H1 D = none) (s : Same H1 H3) (e : H3 D = some (.lst (given i f v))) (s4 : Same H3 H4)
    (hi : i ≤ 100000) (hf : f i = true) : ∃ acc, H4 D = some (.lst acc) ∧ acc.length < sizeLine ∧ Cw H1 f v D (i + 1) (upd H4 D (.lst (acc ++ [v i]))) := by
  refine ⟨given i f v, s4 _ _ e, Nat.lt_of_le_of_lt (Nat.le_trans (given_len i f v) hi) (by decide), fun b o z => ?_, ?_⟩
  · rw [upd_ne (ne_of_none z hD)]
    exact s4 _ _ (s _ _ z)
  · rw [given_so hf]
    exact upd_same
/-- the turns of a comprehension, over what J walks -/
def LcIn (J : It) (g : TG) (tt : TT) (te : TE) (vs : List Nat) (σ : L2.St) (H1 : Hp) (Q : VK) : Prop := tLc (fun _ H R => R J H) g tt te vs σ H1 Q
theorem k_lc {wi : TI} {g : TG} {tt : TT} {te : TE} {vs : List Nat} {σ : L2.St} {H : Hp} {Q : VK} (h : wi σ H fun J H1 => LcIn J g tt te vs σ H1 Q) :
    tLc wi g tt te vs σ H Q := h
theorem k_iList {K : PySem.W.Frag} {tl : TE} {σ : L2.St} {H : Hp} {R : It → Hp → Prop} (h : tl σ H fun x H1 => ∃ a, x = .ref a ∧ (∃ xs, SqL K H1 a xs) ∧ R (Itl K a) H1) :
    iList K tl σ H R := h
theorem k_iTup {K : PySem.W.Frag} {tl : TE} {σ : L2.St} {H : Hp} {R : It → Hp → Prop} (h : tl σ H fun x H1 => ∃ a, x = .ref a ∧ (∃ xs, SqT K H1 a xs) ∧ R (Itt K a) H1) :
    iTup K tl σ H R := h
theorem k_iR1 {ta : TA} {σ : L2.St} {H : Hp} {R : It → Hp → Prop} (h : ta σ H fun vs H1 => ∃ j : Int, vs = [.int j] ∧ -(2 ^ 62) ≤ j ∧ j < 2 ^ 62 ∧ R (Itr 0 j.toNat) H1) :
    iRng1 ta σ H R := h
theorem k_iR2 {ta : TA} {σ : L2.St} {H : Hp} {R : It → Hp → Prop}
    (h : ta σ H fun vs H1 => ∃ i j : Int, vs = [.int i, .int j] ∧ (-(2 ^ 62) ≤ i ∧ i < 2 ^ 62 ∧ -(2 ^ 62) ≤ j ∧ j < 2 ^ 62) ∧ R (Itr i (j - i).toNat) H1) : iRng2 ta σ H R := h
/-- one turn: the test, then the item, whatever follows -/
def Turn (tt : TT) (te : TE) (σ : L2.St) (H : Hp) (b : Bool) (y : V) : Prop :=
  (∀ QT : Bool → Hp → Prop, (∀ H3, Same H H3 → QT b H3) → tt σ H QT) ∧ (b = true → ∀ H3, Same H H3 → ∀ QE : VK, (∀ H4, Same H3 H4 → QE y H4) → te σ H3 QE)
theorem cw_turn {tt : TT} {te : TE} {σ2 σ : L2.St} {vs : List Nat} {H1 H : Hp} {f : Nat → Bool} {v : Nat → V} {D : Addr} {i : Nat} (hD : H1 D = none) (p : Cw H1 f v D i H) (hi : i ≤ 100000)
    (hw : wipe σ2 vs = wipe σ vs) (t : Turn tt te σ2 H (f i) (v i)) : wipe σ2 vs = wipe σ vs ∧ tt σ2 H fun b H3 =>
      if b = true then te σ2 H3 fun y H4 => ∃ acc, H4 D = some (.lst acc) ∧ acc.length < sizeLine ∧ Cw H1 f v D (i + 1) (upd H4 D (.lst (acc ++ [y]))) else Cw H1 f v D (i + 1) H3 := by
  refine ⟨hw, t.1 _ fun H3 s3 => ?_⟩
  cases hf : f i with
  | true =>
    rw [if_pos rfl]
    exact t.2 hf H3 s3 _ fun H4 s4 => cw_step hD (p.1.trans s3) (s3 _ _ p.2) s4 hi hf
  | false =>
    rw [if_neg (by decide)]
    refine ⟨p.1.trans s3, ?_⟩
    rw [given_not hf]
    exact s3 _ _ p.2
theorem lcIn_L {K : PySem.W.Frag} {a : Addr} {xs : List V} {j : Nat} {tt : TT} {te : TE} {vs : List Nat} {σ : L2.St} {H1 : Hp} {Q : VK} (f : Nat → Bool) (v : Nat → V)
    (hx : SqL K H1 a xs) (hz : xs.length ≤ 100000) (hw : ∀ x, wipe ((wipe σ vs).set j (some x)) vs = wipe σ vs)
    (step : ∀ i x H2, xs[i]? = some x → Same H1 H2 → Turn tt te ((wipe σ vs).set j (some x)) H2 (f i) (v i))
    (fin : ∀ p H', H1 p = none → Same H1 H' → H' p = some (.lst (given xs.length f v)) → Q (.ref p) H') : LcIn (Itl K a) (gName j) tt te vs σ H1 Q := fun D hD =>
  lc_list (xs := xs) (Cw H1 f v D) (cw_start hD) (fun i H' _ p => p.1.seq hx) (fun i x H' hi p =>
    cw_turn hD p (by have := (List.getElem?_eq_some_iff.mp hi).1; omega) (hw x) (step i x H' hi p.1)) (fun H' p => fin D H' hD p.1 p.2)
theorem Same.seqT {K : PySem.W.Frag} {H H' : Hp} {a : Addr} {xs : List V} (e : Same H H') (h : SqT K H a xs) : SqT K H' a xs := by
  rcases h with (h | ⟨o, h⟩) | h
  · exact .inl (.inl (e _ _ h))
  · exact .inl (.inr ⟨o, e _ _ h⟩)
  · exact .inr h
theorem lcIn_T {K : PySem.W.Frag} {a : Addr} {xs : List V} {j : Nat} {tt : TT} {te : TE} {vs : List Nat} {σ : L2.St} {H1 : Hp} {Q : VK} (f : Nat → Bool) (v : Nat → V)
    (hx : SqT K H1 a xs) (hz : xs.length ≤ 100000) (hw : ∀ x, wipe ((wipe σ vs).set j (some x)) vs = wipe σ vs)
    (step : ∀ i x H2, xs[i]? = some x → Same H1 H2 → Turn tt te ((wipe σ vs).set j (some x)) H2 (f i) (v i))
    (fin : ∀ p H', H1 p = none → Same H1 H' → H' p = some (.lst (given xs.length f v)) → Q (.ref p) H') : LcIn (Itt K a) (gName j) tt te vs σ H1 Q := fun D hD =>
  lc_tup (xs := xs) (Cw H1 f v D) (cw_start hD) (fun i H' _ p => Same.seqT p.1 hx) (fun i x H' hi p =>
    cw_turn hD p (by have := (List.getElem?_eq_some_iff.mp hi).1; omega) (hw x) (step i x H' hi p.1)) (fun H' p => fin D H' hD p.1 p.2)
theorem lcIn_R {lo : Int} {n : Nat} {j : Nat} {tt : TT} {te : TE} {vs : List Nat} {σ : L2.St} {H1 : Hp} {Q : VK} (f : Nat → Bool) (v : Nat → V)
    (hz : n ≤ 100000) (hw : ∀ x, wipe ((wipe σ vs).set j (some x)) vs = wipe σ vs)
    (step : ∀ i H2, i < n → Same H1 H2 → Turn tt te ((wipe σ vs).set j (some (.int (lo + i)))) H2 (f i) (v i))
    (fin : ∀ p H', H1 p = none → Same H1 H' → H' p = some (.lst (given n f v)) → Q (.ref p) H') : LcIn (Itr lo n) (gName j) tt te vs σ H1 Q := fun D hD =>
  lc_range (lo := lo) (n := n) (Cw H1 f v D) (cw_start hD) (fun i H' hi p => cw_turn hD p (by omega) (hw _) (step i H' hi p.1)) (fun H' p => fin D H' hD p.1 p.2)
theorem k_new {H : Hp} {o : HO} {Q : Addr → Hp → Prop} (h : ∀ p H', H p = none → Same H H' → H' p = some o → Q p H') : ∀ p, H p = none → Q p (upd H p o) :=
  fun p hp => h p _ hp (Same.new hp) upd_same
theorem k_while {c : TT} {tb : TS} {nx bk ct : L2.St → Hp → Prop} {rt : VK} {σ : L2.St} {H : Hp} (W : Nat → L2.St → Hp → Prop) (m0 : Nat) (h0 : W m0 σ H)
    (hs : ∀ m σ H, W m σ H → c σ H fun b H1 => if b = true then ∃ N : L2.St → Hp → Prop, (∀ σ' H', N σ' H' → ∃ m', m' < m ∧ W m' σ' H') ∧
      tb (Ends.mk N rt nx N) σ H1 else nx σ H1) : tWhile c tb (Ends.mk nx rt bk ct) σ H := ⟨W, ⟨m0, h0⟩, hs⟩
theorem upd_facts {H H' : Hp} {p : Addr} {o : HO} (e : upd H p o = H') (h : H p = none) : Same H H' ∧ H' p = some o := e ▸ ⟨Same.new h, upd_same⟩
theorem Rid.ne {r p : Addr} {n : Nat} {H : Hp} (R : Rid r n H) (h : H p = none) : p ≠ r := by
  obtain ⟨c, ns, a, z, _, h2, _⟩ := R.ex
  exact fun e => by rw [e, h2] at h; cases h
/-- new for a heap is new for what it came from -/
theorem Gr.ne {r p : Addr} {H H' : Hp} {a : Addr} {o : HO} (g : Gr r H H') (n : a ≠ r) (e : H a = some o) (h : H' p = none) : a ≠ p := fun z => by
  rw [← z, g _ _ n e] at h
  cases h
theorem k_disp1 {i j : Nat} {k : Int} {v : V} {σ : L2.St} {H : Hp} {Q : VK} (h1 : σ[i]? = some (some (.int k))) (h2 : σ[j]? = some (some v))
    (q : ∀ p H', H p = none → Same H H' → H' p = some (.dK [(.inl k, v)]) → Q (.ref p) H') : tDisp [(tVar i, tVar j)] σ H Q := fun p hp => by
  refine ⟨_, h1, _, h2, ?_⟩
  refine ⟨upd_same, [(.inl k, v)], rfl, by simp, ?_⟩
  refine q p _ hp ?_ upd_same
  rw [upd_upd]
  exact Same.new hp
end Nd

namespace Nd
open PySem PySem.Spec PyProof.Rows L2
/-! ### data that stands apart from r -/
def keyD : Key → PyData
  | .inl i => .int i
  | .inr x => .str x
/-- a tuple, or one that is known to have no dict of its own -/
def TupQ (H : Hp) (a : Addr) (xs : List V) : Prop := H a = some (.tup xs) ∨ ∃ ob : Obj, ob.dict = none ∧ H a = some (.frz ob (.tup xs))
instance {H : Hp} {a : Addr} {xs : List V} : Coe (H a = some (.tup xs)) (TupQ H a xs) := ⟨.inl⟩
theorem TupQ.to {H H' : Hp} {a : Addr} {xs : List V} (h : TupQ H a xs) (k : ∀ u, H a = some u → (∀ ys, u ≠ .lst ys) → H' a = some u) : TupQ H' a xs := by
  rcases h with e | ⟨ob, d, e⟩
  · exact .inl (k _ e fun _ z => nomatch z)
  · exact .inr ⟨ob, d, k _ e fun _ z => nomatch z⟩
theorem TupQ.toT {H H' : Hp} {a : Addr} {xs : List V} (h : TupQ H a xs) (k : ∀ u, H a = some u → (∀ ps, u ≠ .tbl ps) → H' a = some u) : TupQ H' a xs := by
  rcases h with e | ⟨ob, d, e⟩
  · exact .inl (k _ e fun _ z => nomatch z)
  · exact .inr ⟨ob, d, k _ e fun _ z => nomatch z⟩
theorem TupQ.sq {K : PySem.W.Frag} {H : Hp} {a : Addr} {xs : List V} (h : TupQ H a xs) : SqT K H a xs := by
  rcases h with e | ⟨ob, _, e⟩
  · exact .inl (.inl e)
  · exact .inl (.inr ⟨ob, e⟩)
theorem TupQ.ty {K : PySem.W.Frag} {H : Hp} {a : Addr} {xs : List V} (h : TupQ H a xs) : TyX K H (.ref a) (.type "tuple") := by
  rcases h with e | ⟨ob, _, e⟩
  · exact .base (.tup e)
  · exact .fTuple e
theorem TupQ.neL {H : Hp} {a b : Addr} {xs : List V} {o : HO} (h : TupQ H a xs) (e : H b = some o) (h1 : ∀ ys, o ≠ .tup ys) (h2 : ∀ ob ys, o ≠ .frz ob (.tup ys)) : a ≠ b := fun z => by
  subst z
  rcases h with h | ⟨ob, _, h⟩
  · exact h1 _ (Option.some.inj (e.symm.trans h))
  · exact h2 _ _ (Option.some.inj (e.symm.trans h))
theorem trTo {H H' : Hp} {a : Addr} {xs ys : List V} (h : TupQ H a xs ∨ H a = some (.lst ys)) (k : ∀ u, H a = some u → H' a = some u) : TupQ H' a xs ∨ H' a = some (.lst ys) := h.imp (fun e => e.to fun u eu _ => k u eu) (k _)
theorem TupQ.no {H : Hp} {a : Addr} {xs : List V} (h : TupQ H a xs) (n : H a = none) : False := by
  rcases h with e | ⟨_, _, e⟩ <;> rw [n] at e <;> cases e
theorem seqNo {H : Hp} {a : Addr} {xs ys : List V} (h : H a = some (.lst xs) ∨ TupQ H a ys) (n : H a = none) : False := h.elim (fun e => by rw [n] at e; cases e) fun e => e.no n
theorem trNo {H : Hp} {a : Addr} {xs ys : List V} (h : TupQ H a xs ∨ H a = some (.lst ys)) (n : H a = none) : False := h.elim (fun e => e.no n) fun e => by rw [n] at e; cases e
theorem TupQ.is {H : Hp} {a : Addr} {xs : List V} {o : HO} (h : TupQ H a xs) (e : H a = some o) : o = .tup xs ∨ ∃ ob, o = .frz ob (.tup xs) := by
  rcases h with h | ⟨ob, _, h⟩
  · exact .inl (Option.some.inj (e.symm.trans h))
  · exact .inr ⟨ob, Option.some.inj (e.symm.trans h)⟩
theorem TupQ.dk {H : Hp} {a : Addr} {xs : List V} {l : List (Key × V)} (h : TupQ H a xs) (e : H a = some (.dK l)) : False := by
  rcases h.is e with z | ⟨_, z⟩ <;> cases z
theorem trDk {H : Hp} {a : Addr} {xs ys : List V} {l : List (Key × V)} (h : TupQ H a xs ∨ H a = some (.lst ys)) (e : H a = some (.dK l)) : False := h.elim (fun h => h.dk e) fun h => by rw [h] at e; cases e
theorem seqDk {H : Hp} {a : Addr} {xs ys : List V} {l : List (Key × V)} (h : H a = some (.lst ys) ∨ TupQ H a xs) (e : H a = some (.dK l)) : False := h.elim (fun h => by rw [h] at e; cases e) fun h => h.dk e
theorem seqTo {H H' : Hp} {a : Addr} {xs : List V} (h : H a = some (.lst xs) ∨ TupQ H a xs) (k : ∀ u, H a = some u → H' a = some u) : H' a = some (.lst xs) ∨ TupQ H' a xs := h.imp (k _) fun e => e.to fun u eu _ => k u eu
mutual
inductive Dr (r : Addr) (H : Hp) : V → PyData → Prop
  | non : Dr r H .non .none
  | bl (b : Bool) : Dr r H (.bl b) (.bool b)
  | int (i : Int) : Dr r H (.int i) (.int i)
  | str (x : Str) : Dr r H (.str x) (.str x)
  | lst {a : Addr} {xs : List V} {ds : List PyData} : a ≠ r → H a = some (.lst xs) → DrAll r H xs ds → Dr r H (.ref a) (.list ds)
  | tup {a : Addr} {xs : List V} {ds : List PyData} : a ≠ r → TupQ H a xs → DrAll r H xs ds → Dr r H (.ref a) (.tuple ds)
  | dct {a : Addr} {kvs : List (Key × V)} {ds : List PyData} : a ≠ r → H a = some (.dK kvs) → DrAll r H (kvs.map (·.2)) ds →
      Dr r H (.ref a) (.dict ((kvs.map fun kv => keyD kv.1).zip ds))
inductive DrAll (r : Addr) (H : Hp) : List V → List PyData → Prop
  | nil : DrAll r H [] []
  | cons {v : V} {vs : List V} {d : PyData} {ds : List PyData} : Dr r H v d → DrAll r H vs ds → DrAll r H (v :: vs) (d :: ds)
end
mutual
theorem Dr.gr {r : Addr} {H H' : Hp} (g : Gr r H H') : ∀ {v : V} {d : PyData}, Dr r H v d → Dr r H' v d
  | _, _, .non => .non
  | _, _, .bl b => .bl b
  | _, _, .int i => .int i
  | _, _, .str x => .str x
  | _, _, .lst n e h => .lst n (g _ _ n e) (DrAll.gr g h)
  | _, _, .tup n e h => .tup n (e.to fun u eu _ => g _ u n eu) (DrAll.gr g h)
  | _, _, .dct n e h => .dct n (g _ _ n e) (DrAll.gr g h)
theorem DrAll.gr {r : Addr} {H H' : Hp} (g : Gr r H H') : ∀ {vs : List V} {ds : List PyData}, DrAll r H vs ds → DrAll r H' vs ds
  | _, _, .nil => .nil
  | _, _, .cons h t => .cons (Dr.gr g h) (DrAll.gr g t)
end
theorem Dr.same {r : Addr} {H H' : Hp} (s : Same H H') {v : V} {d : PyData} (h : Dr r H v d) : Dr r H' v d := h.gr (Gr.same s)
theorem DrAll.same {r : Addr} {H H' : Hp} (s : Same H H') {v : List V} {d : List PyData} (h : DrAll r H v d) : DrAll r H' v d := h.gr (Gr.same s)
theorem DrAll.length {r : Addr} {H : Hp} : ∀ {vs : List V} {ds : List PyData}, DrAll r H vs ds → vs.length = ds.length
  | _, _, .nil => rfl
  | _, _, .cons _ t => congrArg (· + 1) (DrAll.length t)
theorem DrAll.get {r : Addr} {H : Hp} : ∀ {vs : List V} {ds : List PyData} {i : Nat} {v : V}, DrAll r H vs ds → vs[i]? = some v → ∃ d, ds[i]? = some d ∧ Dr r H v d
  | _, _, 0, _, .cons h _, e => by cases e; exact ⟨_, rfl, h⟩
  | _, _, i + 1, _, .cons _ t, e => DrAll.get (i := i) t e
  | _, _, 0, _, .nil, e => nomatch e
  | _, _, _ + 1, _, .nil, e => nomatch e
theorem DrAll.mem {r : Addr} {H : Hp} : ∀ {vs : List V} {ds : List PyData} {v : V}, DrAll r H vs ds → v ∈ vs → ∃ d, d ∈ ds ∧ Dr r H v d
  | _, _, _, .nil, e => nomatch e
  | _, _, _, .cons h t, e => by
    rcases List.mem_cons.mp e with rfl | e
    · exact ⟨_, List.mem_cons_self, h⟩
    · obtain ⟨d, m, h2⟩ := DrAll.mem t e
      exact ⟨d, List.mem_cons_of_mem _ m, h2⟩
mutual
theorem Dr.dp {r : Addr} {H : Hp} {K : PySem.W.Frag} : ∀ {v : V} {d : PyData}, Dr r H v d → d.hasDict = false → Dp K H v d
  | _, _, .non, _ => .non
  | _, _, .bl b, _ => .bl b
  | _, _, .int i, _ => .int i
  | _, _, .str x, _ => .str x
  | _, _, .lst _ e h, z => .lst (.inl (.inl e)) (DrAll.dp h (by simpa [PyData.hasDict] using z))
  | _, _, .tup _ e h, z => .tup (e.sq) (DrAll.dp h (by simpa [PyData.hasDict] using z))
  | _, _, .dct _ _ _, z => by simp [PyData.hasDict] at z
theorem DrAll.dp {r : Addr} {H : Hp} {K : PySem.W.Frag} : ∀ {vs : List V} {ds : List PyData}, DrAll r H vs ds → PyData.hasDictAll ds = false → DpAll K H vs ds
  | _, _, .nil, _ => .nil
  | _, _, .cons h t, z => by
    simp only [PyData.hasDictAll, Bool.or_eq_false_iff] at z
    exact .cons (Dr.dp h z.1) (DrAll.dp t z.2)
end
/-! ### types -/
def tyD : PyData → String
  | .none => "NoneType"
  | .bool _ => "bool"
  | .int _ => "int"
  | .str _ => "str"
  | .list _ => "list"
  | .tuple _ => "tuple"
  | .dict _ => "dict"
theorem Dr.ty {r : Addr} {H : Hp} {K : PySem.W.Frag} {v : V} {d : PyData} (h : Dr r H v d) : TyX K H v (.type (tyD d)) := by
  cases h with
  | non => exact .base .non
  | bl b => exact .base (.bl b)
  | int i => exact .base (.int i)
  | str x => exact .base (.str x)
  | lst n e _ => exact .base (.lst e)
  | tup n e _ => exact e.ty
  | dct n e _ => exact .base (.dK e)
def isD (c : String) (d : PyData) : Bool := tyD d == c || (c == "int" && tyD d == "bool")
def cls6 : List String := ["int", "bool", "str", "list", "tuple", "dict"]
def tys7 : List String := ["NoneType", "bool", "int", "str", "list", "tuple", "dict"]
theorem kit42 : (tys7.all fun t => cls6.all fun c => decide (kitB t c = some (t == c || (c == "int" && t == "bool")))) = true := by decide +kernel
theorem kitD {K : PySem.W.Frag} {c : String} (d : PyData) (hc : c ∈ cls6) : PySem.W.kitOne K (.type (tyD d)) (.type c) = some (isD c d) := by
  have h := List.all_eq_true.mp kit42 (tyD d) (by cases d <;> simp [tyD, tys7])
  exact kit_ty (of_decide_eq_true (List.all_eq_true.mp h c hc))
theorem k_isi {r : Addr} {K : PySem.W.Frag} {H : Hp} {v : V} {d : PyData} {c : String} {Q : VK} (h : Dr r H v d) (hc : c ∈ cls6) (q : Q (.bl (isD c d)) H) : rIsi K [v, .ty c] H Q :=
  ⟨v, .ty c, _, _, _, rfl, .ty c, h.ty, kitD d hc, q⟩
theorem k_isi2 {r p : Addr} {K : PySem.W.Frag} {H : Hp} {v : V} {d : PyData} {c e : String} {Q : VK} (h : Dr r H v d) (hp : H p = some (.tup [.ty c, .ty e])) (hc : c ∈ cls6) (he : e ∈ cls6)
    (q : Q (.bl (isD c d || isD e d)) H) : rIsiT K [v, .ref p] H Q := by
  refine ⟨v, p, _, _, _, _, rfl, hp, .cons (.ty c) (.cons (.ty e) .nil), h.ty, ?_, q⟩
  refine kitAny_cons (kitD d hc) (fun z => ?_) (fun z => by rw [z]; rfl)
  rw [z, Bool.false_or]
  exact kitAny_cons (kitD d he) (fun z => by rw [z]; exact kitAny_nil) (fun z => z)
/-! ### == of any list with an empty one; is not True -/
def rEqNil (K : PySem.W.Frag) : R2 := fun x y H Q => ∃ a b xs, x = .ref a ∧ y = .ref b ∧ SqL K H a xs ∧ SqL K H b [] ∧ Q (.bl xs.isEmpty) H
theorem op_eqNil {X : Cx} (hu : X.A.units + 64 < cLine) : OpR X (compareOp .Eq) (rEqNil X.K) := by
  intro pins s σ H x y v u Q I rx ry h
  obtain ⟨a, b, xs, rfl, rfl, ha, hb, q⟩ := h
  cases xs with
  | nil => exact op_eqD hu pins s σ H _ _ v u Q I rx ry ⟨_, _, .lst ha .nil, .lst hb .nil, shNil, shNil, by simpa [PyData.eqv, PyData.eqvAll] using q⟩
  | cons z zs =>
    cases rx
    cases ry
    obtain ⟨i1, r1, l1, _⟩ := I.list ha
    obtain ⟨i2, r2, l2, _⟩ := I.list hb
    cases r2
    cases r1
    exact SeqAt.eq_list_lengthsAt l1.isList l2.isList (by simp) (by omega) ⟨.bl false, H, I, rfl, q⟩
theorem k_eqNil {K : PySem.W.Frag} {a b : Addr} {xs : List V} {H : Hp} {Q : VK} (ha : SqL K H a xs) (hb : SqL K H b []) (q : Q (.bl xs.isEmpty) H) : rEqNil K (.ref a) (.ref b) H Q := ⟨a, b, xs, rfl, rfl, ha, hb, q⟩
def rNotBl : R2 := fun x y H Q => ∃ b : Bool, y = .bl b ∧ ((∃ i, x = .int i ∧ Q (.bl true) H) ∨ ∃ c, x = .bl c ∧ Q (.bl (!decide (c = b))) H)
theorem op_notBl2 {X : Cx} : OpR X (compareOp .IsNot) rNotBl := by
  intro pins s σ H x y v u Q I rx ry h
  obtain ⟨b, rfl, h⟩ := h
  cases ry
  rcases h with ⟨i, rfl, q⟩ | ⟨c, rfl, q⟩
  · obtain ⟨t, rfl⟩ := rx
    exact wpAny_isNot_other (by rfl) (fun e => nomatch e) ⟨.bl true, H, I, rfl, q⟩
  · cases rx
    by_cases e : c = b
    · subst e
      exact wpAny_isNot_self (by cases c <;> rfl) ⟨.bl false, H, I, rfl, by simpa using q⟩
    · exact wpAny_isNot_other (by cases c <;> rfl) (fun z => e (by injection z)) ⟨.bl true, H, I, rfl, by simpa [e] using q⟩
/-! ### what the program's own looks say of data -/
def ndInt : PyData → Bool
  | .int _ => true
  | _ => false
def itemsD : PyData → Option (List PyData)
  | .list xs => some xs
  | .tuple xs => some xs
  | _ => none
def areIntsD (d : PyData) (k : Int) : Bool := match itemsD d with
  | some xs => decide ((xs.length : Int) = k) && xs.all ndInt
  | none => false
def fracD (d : PyData) : Bool := match itemsD d with
  | some [.int u, .int w] => decide (0 < w) && decide (Nat.gcd u.natAbs w.natAbs = 1)
  | _ => false
def lowD (i : Int) : Option Int → Bool
  | none => true
  | some x => decide (x ≤ i)
def highD (i : Int) : Option Int → Bool
  | none => true
  | some x => decide (i ≤ x)
def withinD (d : PyData) (l m : Option Int) : Bool := match d with
  | .int i => lowD i l && highD i m
  | _ => false
def optV : Option Int → V
  | none => .non
  | some i => .int i
theorem isInt_eq (d : PyData) : (isD "int" d && !isD "bool" d) = ndInt d := by cases d <;> rfl
def spIsInt : Sp := fun vs H Q _ => ∃ (r : Addr) (v : V) (d : PyData), vs = [v] ∧ Dr r H v d ∧ ∀ H', Same H H' → Q (.bl (ndInt d)) H'
def spWithin : Sp := fun vs H Q _ => ∃ (r : Addr) (v : V) (d : PyData) (l m : Option Int), vs = [v, optV l, optV m] ∧ Dr r H v d ∧ ∀ H', Same H H' → Q (.bl (withinD d l m)) H'
def spAreInts : Sp := fun vs H Q _ => ∃ (r : Addr) (v : V) (d : PyData) (k : Int), vs = [v, .int k] ∧ Dr r H v d ∧ (∀ xs, itemsD d = some xs → xs.length ≤ 1000) ∧ ∀ H', Same H H' → Q (.bl (areIntsD d k)) H'
def spFrac : Sp := fun vs H Q _ => ∃ (r : Addr) (v : V) (d : PyData), vs = [v] ∧ Dr r H v d ∧ (∀ xs, itemsD d = some xs → xs.length ≤ 1000) ∧ ∀ H', Same H H' → Q (.bl (fracD d)) H'
theorem ndInt_int : ∀ {d : PyData}, ndInt d = true → ∃ i, d = .int i
  | .int i, _ => ⟨i, rfl⟩
theorem two_ints {d : PyData} (h : areIntsD d 2 = true) : ∃ u z, itemsD d = some [.int u, .int z] := by
  unfold areIntsD at h
  cases hi : itemsD d with
  | none => rw [hi] at h; cases h
  | some xs =>
    rw [hi] at h
    simp only [Bool.and_eq_true, decide_eq_true_eq] at h
    obtain ⟨h1, h2⟩ := h
    match xs, h1, h2 with
    | [x, y], _, h2 =>
      simp only [List.all_cons, List.all_nil, Bool.and_true, Bool.and_eq_true] at h2
      obtain ⟨i, rfl⟩ := ndInt_int h2.1
      obtain ⟨j, rfl⟩ := ndInt_int h2.2
      exact ⟨i, j, rfl⟩
    | [], h1, _ => exact absurd h1 (by decide)
    | [_], h1, _ => exact absurd h1 (by simp)
    | _ :: _ :: _ :: _, h1, _ =>
      simp only [List.length_cons] at h1
      omega
theorem frac_of {d : PyData} (h : fracD d = true) : ∃ u z, itemsD d = some [.int u, .int z] := by
  unfold fracD at h
  split at h
  · exact ⟨_, _, by assumption⟩
  · cases h
theorem fracD_no {d : PyData} (h : areIntsD d 2 = false) : fracD d = false := by
  cases hf : fracD d with
  | false => rfl
  | true =>
    obtain ⟨u, z, e⟩ := frac_of hf
    rw [areIntsD, e] at h
    exact absurd h (by simp [ndInt])
theorem gcd_one (a : Nat) : (((a : Nat) : Int) = 1) ↔ a = 1 := by omega
def spDiv : Sp := fun vs H Q _ => ∃ a b : Int, vs = [.int a, .int b] ∧ ∀ H', Same H H' → Q (.int ((Nat.gcd a.natAbs b.natAbs : Nat) : Int)) H'
theorem gcd_turn {x y : Nat} : Nat.gcd y (x % y) = Nat.gcd x y := by
  rw [Nat.gcd_comm x y, Nat.gcd_rec y x, Nat.gcd_comm]
theorem given_none {n : Nat} {f : Nat → Bool} {v : Nat → V} : (given n f v).isEmpty = (List.range n).all fun i => !f i := by
  unfold given
  rw [List.isEmpty_map]
  induction (List.range n) with
  | nil => rfl
  | cons a r ih =>
    rw [List.filter_cons, List.all_cons]
    cases f a with
    | true => rfl
    | false => simpa using ih
theorem all_range_ds {p : PyData → Bool} {ds : List PyData} : (List.range ds.length).all (fun i => p (ds.getD i .none)) = ds.all p := by
  induction ds with
  | nil => rfl
  | cons d ds ih =>
    rw [List.length_cons, List.range_succ_eq_map, List.all_cons, List.all_map, List.all_cons, ← ih]
    rfl
def spNum (k : Nat) (B : Nat) : Sp := fun vs H Q _ => ∃ (r : Addr) (n : Nat), vs = [.ref r] ∧ Rid r n H ∧ n + k < 1000000 ∧
  ∀ H' (i : Int), Gr r H H' → Rid r (n + k) H' → i.natAbs ≤ B → Q (.int i) H'
/-- data of some form -/
def spDat (k : Nat) (G : PyData → Prop) : Sp := fun vs H Q _ => ∃ (r : Addr) (n : Nat), vs = [.ref r] ∧ Rid r n H ∧ n + k < 1000000 ∧
  ∀ H' v d, Gr r H H' → Rid r (n + k) H' → Dr r H' v d → G d → Q v H'
end Nd

namespace Nd
open PySem PySem.Spec PyProof.Rows L2
/-! ### calls by names alone -/
def byIx (ix : List Nat) {α : Type} (l : List α) : List α := ix.filterMap fun i => l[i]?
theorem byIx_vals {zs : List V} {ws : List Value} (r : Vals zs ws) : ∀ ix : List Nat, Vals (byIx ix zs) (byIx ix ws)
  | [] => .nil
  | i :: ix => by
    unfold byIx
    rw [List.filterMap_cons, List.filterMap_cons]
    cases h : zs[i]? with
    | none =>
      rw [r.none_of h]
      exact byIx_vals r ix
    | some x =>
      obtain ⟨u, h1, h2⟩ := r.get h
      rw [h1]
      exact .cons h2 (byIx_vals r ix)
structure CalK (P : Program) (w : World) (K : PySem.W.Frag) (mg : Str → Option Value) (base : Heap) (CX : CXT) (k : Nat) (x : Str) (ks : List Str) (ix : List Nat) (sp : Sp) : Prop where
  ex : ∃ (f : Addr) (fd : FuncData) (ps : List Str), FnG P w K mg base CX k f fd ps sp ∧ mg x = some (.ref f) ∧ PySem.W.keepIn K (.ref f) = true ∧
    ∀ (s : Shared) (ws : List Value), ws.length = ks.length → BindsTo s fd ⟨[], ks.zip ws⟩ (ps.zip (byIx ix ws))
theorem kwBinds {K : PySem.W.Frag} {x qual : Str} {st : Stmt} {f : Addr} {fd : FuncData} {ps ks : List Str} {ix : List Nat} (F : Fun K x qual st f fd)
    (h : ∀ (kV doc pm : Value) (an : Option Addr) (cdv ct : Value) (ws : List Value), ws.length = ks.length →
      bindArgs (PySem.W.fnOf x qual (defArgs st) (defBody st) (defScope st) .none kV doc pm an cdv ct) ⟨[], ks.zip ws⟩ = pure (ps.zip (byIx ix ws))) :
    ∀ (s : Shared) (ws : List Value), ws.length = ks.length → BindsTo s fd ⟨[], ks.zip ws⟩ (ps.zip (byIx ix ws)) := by
  obtain ⟨oc, od, kV, doc, pm, an, cdv, ct, osl, rfl, lk, hcd⟩ := F.ex
  exact fun s ws hl => .of_eq (h kV doc pm an cdv ct ws hl)
def tKw (n : Nat) (ix : List Nat) (sp : Sp) (E : XK) (tk : TA) : TE := fun σ H Q => tk σ H fun zs H2 => zs.length = n ∧ sp (byIx ix zs) H2 Q E
theorem pe_kw {X : Cx} {CX : CXT} {k : Nat} {x : Str} {ks : List Str} {ix : List Nat} {sp : Sp} {E : XK} {p pos : Pos} {kws : List Keyword} {tk : TA}
    (c : CalK X.prog X.w X.K X.mg X.base CX k x ks ix sp) (hG : X.A.guards = some []) (hr : Room k X.A) (hg : Gl X x) (hx : Passes CX X E) (hkw : PK X kws tk)
    (hall : (backToKw pos (keywordEach kws X.env)).all (·.1.isSome) = true := by rfl) (hks : (backToKw pos (keywordEach kws X.env)).filterMap (·.1) = ks := by rfl) (hdb : (x == ("__debug__" : Str)) = false := by decide)
    (hpl : ((backTo pos (starEach [] X.env)).any (·.1) || (backToKw pos (keywordEach kws X.env)).any (·.1.isNone)) = false := by rfl) :
    PE X (.Call (.Name x p) [] kws pos) (tKw ks.length ix sp E tk) := by
  obtain ⟨f, fd, ps, F, hm, hk, hb⟩ := c.ex
  constructor
  intro pins s σ H Q I h
  apply wpAny_Call_Name_kw (ld_glob I hg hm ?_ hdb)
  apply PySem.W.callWith_KW0 (h₀ := X.base) I.ok.mod.kin hk hall ?_ hpl
  apply thn (hkw.run pos pins s σ H _ I h)
  rintro ws s2 ⟨zs, H2, I2, rz, l2, q2⟩
  refine ⟨I2.kIn, ?_⟩
  rw [hks]
  have run := F.go X.A X.stack s2 H2 ⟨[], ks.zip ws⟩ (byIx ix ws) (byIx ix zs) Q E hG hr I2.env0 (hb s2 ws (rz.length.symm.trans l2)) (byIx_vals rz ix) q2
  refine wpAny_call (codeAny_mono run ?_)
  rintro (e' | fl) s' hq
  · exact hx pins σ H2 s2 e' s' I2 hq
  · cases fl with
    | ret u => exact I2.after hq
    | next => exact hq.elim
    | brk => exact hq.elim
    | cont => exact hq.elim
theorem k_kw {n : Nat} {ix : List Nat} {sp : Sp} {E : XK} {tk : TA} {σ : L2.St} {H : Hp} {Q : VK} (h : tk σ H fun zs H2 => zs.length = n ∧ sp (byIx ix zs) H2 Q E) : tKw n ix sp E tk σ H Q := h
/-! ### for loops -/
def ForIn (J : It) (g : TG) (tb : TS) (D : Ends) (σ : L2.St) (H : Hp) : Prop := tFor (fun _ H R => R J H) g tb D σ H
theorem k_for {wi : TI} {g : TG} {tb : TS} {D : Ends} {σ : L2.St} {H : Hp} (h : wi σ H fun J H1 => ForIn J g tb D σ H1) : tFor wi g tb D σ H := h
theorem forIn_R {lo : Int} {n : Nat} {g : TG} {tb : TS} {nx bk ct : L2.St → Hp → Prop} {rt : VK} {σ : L2.St} {H : Hp} (Pv : Nat → L2.St → Hp → Prop) (h0 : Pv 0 σ H)
    (hs : ∀ i σ H, i < n → Pv i σ H → g (.int (lo + i)) σ H fun σ2 H2 => tb (Ends.mk (Pv (i + 1)) rt nx (Pv (i + 1))) σ2 H2)
    (hd : ∀ σ H, Pv n σ H → nx σ H) : ForIn (Itr lo n) g tb (Ends.mk nx rt bk ct) σ H := for_range (lo := lo) (n := n) Pv h0 hs hd
theorem forIn_L {K : PySem.W.Frag} {a : Addr} {xs : List V} {g : TG} {tb : TS} {nx bk ct : L2.St → Hp → Prop} {rt : VK} {σ : L2.St} {H : Hp} (Pv : Nat → L2.St → Hp → Prop) (h0 : Pv 0 σ H)
    (hl : ∀ i σ H, i ≤ xs.length → Pv i σ H → SqL K H a xs)
    (hs : ∀ i x σ H, xs[i]? = some x → Pv i σ H → g x σ H fun σ2 H2 => tb (Ends.mk (Pv (i + 1)) rt nx (Pv (i + 1))) σ2 H2)
    (hd : ∀ σ H, Pv xs.length σ H → nx σ H) : ForIn (Itl K a) g tb (Ends.mk nx rt bk ct) σ H := for_list (K := K) (a := a) (xs := xs) Pv h0 hl hs hd
/-! ### an expression, a test, by what it gives, once for all that follows -/
theorem k_cutE {te : TE} {σ : L2.St} {H : Hp} {Q : VK} (v : V) (h : ∀ Q' : VK, (∀ H', Same H H' → Q' v H') → te σ H Q') (k : ∀ H', Same H H' → Q v H') : te σ H Q := h Q k
theorem k_cutT {tt : TT} {σ : L2.St} {H : Hp} {Q : Bool → Hp → Prop} (b : Bool) (h : ∀ Q' : Bool → Hp → Prop, (∀ H', Same H H' → Q' b H') → tt σ H Q') (k : ∀ H', Same H H' → Q b H') : tt σ H Q := h Q k
theorem k_andV' {ta tb : TE} {σ : L2.St} {H : Hp} {Q : VK} (h : tAndV ta tb σ H Q) : tAndV ta tb σ H Q := h
theorem withinD_no {d : PyData} {l m : Option Int} (h : ndInt d = false) : withinD d l m = false := by cases d <;> first | rfl | cases h
end Nd

namespace Nd
open PySem PySem.Spec PyProof.Rows L2
theorem mixBig2 {u a k l m : Int} (u0 : 0 ≤ u) (u1 : u < 2147483648) (a0 : 0 ≤ a) (a1 : a ≤ 1000000) (k0 : 0 ≤ k) (k1 : k < 1000000)
    (l0 : 0 ≤ l) (l1 : l < 2000000) (m0 : 0 ≤ m) (m1 : m < 1000000) : (u * (2 * a + k) + l * a * a + m).natAbs < 2 ^ 64 := by
  have h1 : u * (2 * a + k) ≤ 2147483648 * 3000000 := Int.mul_le_mul (by omega) (by omega) (by omega) (by omega)
  have h2 : l * a ≤ 2000000 * 1000000 := Int.mul_le_mul (by omega) (by omega) (by omega) (by omega)
  have h3 : 0 ≤ l * a := Int.mul_nonneg l0 a0
  have h4 : l * a * a ≤ 2000000000000 * 1000000 := Int.mul_le_mul (by omega) (by omega) (by omega) (by omega)
  have h5 : 0 ≤ u * (2 * a + k) := Int.mul_nonneg u0 (by omega)
  have h6 : 0 ≤ l * a * a := Int.mul_nonneg h3 a0
  omega
theorem k_stJ0 {t : TS} {nx bk ct : L2.St → Hp → Prop} {rt : VK} {σ : L2.St} {H : Hp} (R : L2.St → Hp → Prop) (h : ∀ nx' : L2.St → Hp → Prop, (∀ σ' H', R σ' H' → nx' σ' H') → t (Ends.mk nx' rt bk ct) σ H) (q : ∀ σ' H', R σ' H' → nx σ' H') : t (Ends.mk nx rt bk ct) σ H := h nx q
end Nd

namespace Nd
open PySem PySem.Spec PyProof.Rows L2
/-! ### fractions -/
def fq (q : Rat) : PyData := .tuple [.int q.num, .int (q.den : Int)]
def Fr (r : Addr) (H : Hp) (v : V) (q : Rat) : Prop := ∃ a, v = .ref a ∧ a ≠ r ∧ H a = some (.tup [.int q.num, .int (q.den : Int)])
/-- a new one -/
def FrN (H H' : Hp) (v : V) (q : Rat) : Prop := ∃ a, v = .ref a ∧ H a = none ∧ H' a = some (.tup [.int q.num, .int (q.den : Int)])
theorem FrN.fr {r : Addr} {n : Nat} {H H' : Hp} {v : V} {q : Rat} (h : FrN H H' v q) (R : Rid r n H) : Fr r H' v q := by
  obtain ⟨a, h1, h2, h3⟩ := h
  exact ⟨a, h1, R.ne h2, h3⟩
theorem Fr.gr {r : Addr} {H H' : Hp} {v : V} {q : Rat} (h : Fr r H v q) (g : Gr r H H') : Fr r H' v q := by
  obtain ⟨a, h1, h2, h3⟩ := h
  exact ⟨a, h1, h2, g.all _ _ h2 h3⟩
theorem Fr.same {r : Addr} {H H' : Hp} {v : V} {q : Rat} (h : Fr r H v q) (s : Same H H') : Fr r H' v q := h.gr (Gr.same s)
theorem Fr.put {r D : Addr} {H : Hp} {xs ys : List V} {v : V} {q : Rat} (h : Fr r H v q) (hD : H D = some (.lst xs)) : Fr r (upd H D (.lst ys)) v q := by
  obtain ⟨a, h1, h2, h3⟩ := h
  refine ⟨a, h1, h2, ?_⟩
  rw [upd_ne]
  · exact h3
  · rintro rfl
    rw [hD] at h3
    cases h3
theorem Fr.dr {r : Addr} {H : Hp} {v : V} {q : Rat} (h : Fr r H v q) : Dr r H v (fq q) := by
  obtain ⟨a, rfl, h2, h3⟩ := h
  exact .tup h2 h3 (.cons (.int _) (.cons (.int _) .nil))
theorem Fr.dp {r : Addr} {H : Hp} {K : PySem.W.Frag} {v : V} {q : Rat} (h : Fr r H v q) : Dp K H v (fq q) := by
  obtain ⟨a, rfl, h2, h3⟩ := h
  exact .tup (.inl (.inl h3)) (.cons (.int _) (.cons (.int _) .nil))
theorem k_ix0 {K : PySem.W.Frag} {r : Addr} {v : V} {q : Rat} {H : Hp} {Q : VK} (h : Fr r H v q) (k : Q (.int q.num) H) : rIxT K v (.int 0) H Q := by
  obtain ⟨a, rfl, h2, h3⟩ := h
  exact k_ixT (.inl (.inl h3)) rfl k
theorem k_ix1 {K : PySem.W.Frag} {r : Addr} {v : V} {q : Rat} {H : Hp} {Q : VK} (h : Fr r H v q) (k : Q (.int (q.den : Int)) H) : rIxT K v (.int 1) H Q := by
  obtain ⟨a, rfl, h2, h3⟩ := h
  exact k_ixT (.inl (.inl h3)) rfl k
theorem fq_inj {p q : Rat} (h : p.num = q.num ∧ p.den = q.den) : p = q := Rat.ext h.1 h.2
theorem eqv_fq (p q : Rat) : PyData.eqv (fq p) (fq q) = decide (p = q) := by
  unfold fq
  simp only [PyData.eqv, PyData.eqvAll, Bool.and_true]
  by_cases h : p = q
  · subst h
    simp
  · rw [decide_eq_false h]
    rw [Bool.eq_false_iff]
    intro z
    simp only [Bool.and_eq_true, beq_iff_eq, decide_eq_true_eq] at z
    exact h (fq_inj ⟨z.1, by have := z.2; omega⟩)
theorem sh_fq (q : Rat) : SeqAt.shaped (fq q) = true := by
  simp [fq, SeqAt.shaped, PyData.canLay0, PyData.depth, PyData.canLayAll0, PyData.depthAll]
def Sz (n : Nat) (q : Rat) : Prop := q.num.natAbs < 2 ^ n ∧ q.den < 2 ^ n
theorem Sz.le {n m : Nat} {q : Rat} (h : Sz n q) (l : n ≤ m) : Sz m q := ⟨Nat.lt_of_lt_of_le h.1 (Nat.pow_le_pow_right (by decide) l), Nat.lt_of_lt_of_le h.2 (Nat.pow_le_pow_right (by decide) l)⟩
theorem sz_divInt {u w : Int} {n : Nat} (h0 : w ≠ 0) (hu : u.natAbs < 2 ^ n) (hw : w.natAbs < 2 ^ n) : Sz n (Rat.divInt u w) := by
  constructor
  · rw [Rat.num_divInt]
    have : (w.sign * u / (w.gcd u : Int)).natAbs ≤ u.natAbs := by
      rw [Int.natAbs_ediv_of_dvd]
      · refine Nat.le_trans (Nat.div_le_self _ _) ?_
        rw [Int.natAbs_mul, Int.natAbs_sign_of_ne_zero h0, Nat.one_mul]
        exact Nat.le_refl _
      · exact Int.dvd_mul_of_dvd_right (Int.gcd_dvd_right ..)
    omega
  · rw [Rat.den_divInt, if_neg h0]
    exact Nat.lt_of_le_of_lt (Nat.div_le_self _ _) hw
theorem lt_two {n : Nat} (a : Nat) (h : a < 2 ^ n) : (a : Int).natAbs < 2 ^ n := by rw [Int.natAbs_natCast]; exact h
theorem lt_add {i j : Int} {n : Nat} (hi : i.natAbs < 2 ^ n) (hj : j.natAbs < 2 ^ n) : (i + j).natAbs < 2 ^ (n + 1) := by
  rw [Nat.pow_succ]
  omega
theorem lt_sub {i j : Int} {n : Nat} (hi : i.natAbs < 2 ^ n) (hj : j.natAbs < 2 ^ n) : (i - j).natAbs < 2 ^ (n + 1) := by
  rw [Nat.pow_succ]
  omega
theorem add_divInt (p q : Rat) : p + q = Rat.divInt (p.num * q.den + q.num * p.den) ((p.den : Int) * q.den) := by
  rw [Rat.add_def', ← Rat.divInt_ofNat, Int.natCast_mul]
theorem sub_divInt (p q : Rat) : p - q = Rat.divInt (p.num * q.den - q.num * p.den) ((p.den : Int) * q.den) := by
  rw [Rat.sub_def', ← Rat.divInt_ofNat, Int.natCast_mul]
theorem mul_divInt (p q : Rat) : p * q = Rat.divInt (p.num * q.num) ((p.den : Int) * q.den) := by
  rw [Rat.mul_def', ← Rat.divInt_ofNat, Int.natCast_mul]
theorem den_ne (p q : Rat) : (p.den : Int) * q.den ≠ 0 := Int.mul_ne_zero (by have := p.den_nz; omega) (by have := q.den_nz; omega)
theorem up_lt {i : Int} {n m : Nat} (l : n ≤ m) (h : i.natAbs < 2 ^ n) : i.natAbs < 2 ^ m := Nat.lt_of_lt_of_le h (Nat.pow_le_pow_right (by decide) l)
theorem Sz.add {n m : Nat} {p q : Rat} (hp : Sz n p) (hq : Sz m q) : Sz (n + m + 1) (p + q) := by
  rw [add_divInt]
  refine sz_divInt (den_ne p q) (lt_add (wide_lt hp.1 (lt_two _ hq.2)) ?_) (up_lt (Nat.le_succ _) (wide_lt (lt_two _ hp.2) (lt_two _ hq.2)))
  rw [Nat.add_comm n m]
  exact wide_lt hq.1 (lt_two _ hp.2)
theorem Sz.sub {n m : Nat} {p q : Rat} (hp : Sz n p) (hq : Sz m q) : Sz (n + m + 1) (p - q) := by
  rw [sub_divInt]
  refine sz_divInt (den_ne p q) (lt_sub (wide_lt hp.1 (lt_two _ hq.2)) ?_) (up_lt (Nat.le_succ _) (wide_lt (lt_two _ hp.2) (lt_two _ hq.2)))
  rw [Nat.add_comm n m]
  exact wide_lt hq.1 (lt_two _ hp.2)
theorem Sz.mul {n m : Nat} {p q : Rat} (hp : Sz n p) (hq : Sz m q) : Sz (n + m + 1) (p * q) := by
  rw [mul_divInt]
  exact sz_divInt (den_ne p q) (up_lt (Nat.le_succ _) (wide_lt hp.1 hq.1)) (up_lt (Nat.le_succ _) (wide_lt (lt_two _ hp.2) (lt_two _ hq.2)))
/-! ### the program's reckoning -/
/-- // by any divisor but 0, below 2 ^ 9000 -/
theorem op_fdivZ {X : Cx} : OpR X (binaryOp .FloorDiv) (rI (fun _ j => j ≠ 0 ∧ j.natAbs.log2 < 9000) fun i j => .int (i.fdiv j)) := opI fun i j _ _ _ _ _ hc q =>
  floordiv_int hc.1 q (.inl (PyProof.noPylong_of_log2 hc.2))
def redG (u w : Int) : Int := if w < 0 then -((Nat.gcd u.natAbs w.natAbs : Nat) : Int) else ((Nat.gcd u.natAbs w.natAbs : Nat) : Int)
theorem gcd_le {u w : Int} (h : w ≠ 0) : 0 < Nat.gcd u.natAbs w.natAbs ∧ Nat.gcd u.natAbs w.natAbs ≤ w.natAbs := ⟨Nat.gcd_pos_of_pos_right _ (by omega), Nat.gcd_le_right _ (by omega)⟩
theorem redG_ok {u w : Int} {n : Nat} (h : w ≠ 0) (hw : w.natAbs < 2 ^ n) (h0 : 0 < n) (h9 : n ≤ 9000) : redG u w ≠ 0 ∧ (redG u w).natAbs.log2 < 9000 := by
  have := gcd_le (u := u) h
  unfold redG
  split
  · exact ⟨by omega, Nat.lt_of_lt_of_le (PySem.Flt.log2_lt_of h0 (Nat.lt_of_le_of_lt (by omega) hw)) h9⟩
  · exact ⟨by omega, Nat.lt_of_lt_of_le (PySem.Flt.log2_lt_of h0 (Nat.lt_of_le_of_lt (by omega) hw)) h9⟩
theorem red_up {u w : Int} (h : w ≠ 0) : u.fdiv (redG u w) = (Rat.divInt u w).num := by
  rw [Rat.num_divInt]
  have d : ((Nat.gcd u.natAbs w.natAbs : Nat) : Int) ∣ u := Int.ofNat_dvd_left.mpr (Nat.gcd_dvd_left _ _)
  have e : (w.gcd u : Int) = ((Nat.gcd u.natAbs w.natAbs : Nat) : Int) := by rw [Int.gcd_comm]; rfl
  rw [e]
  unfold redG
  split
  · rw [Int.fdiv_eq_ediv_of_dvd (Int.neg_dvd.mpr d), Int.ediv_neg, Int.sign_eq_neg_one_of_neg (by omega), Int.neg_mul, Int.one_mul, Int.neg_ediv_of_dvd d]
  · rw [Int.fdiv_eq_ediv_of_dvd d, Int.sign_eq_one_of_pos (by omega), Int.one_mul]
theorem red_down {u w : Int} (h : w ≠ 0) : w.fdiv (redG u w) = ((Rat.divInt u w).den : Int) := by
  rw [Rat.den_divInt, if_neg h]
  have d : ((Nat.gcd u.natAbs w.natAbs : Nat) : Int) ∣ w := Int.ofNat_dvd_left.mpr (Nat.gcd_dvd_right _ _)
  have e : w.gcd u = Nat.gcd u.natAbs w.natAbs := by rw [Int.gcd_comm]; rfl
  rw [e, Int.natCast_ediv]
  unfold redG
  split
  · rw [Int.fdiv_eq_ediv_of_dvd (Int.neg_dvd.mpr d), Int.ediv_neg, ← Int.neg_ediv_of_dvd d]
    congr 1
    omega
  · rw [Int.fdiv_eq_ediv_of_dvd d]
    congr 1
    omega
def spNeed : Sp := fun vs H Q _ => ∃ (r : Addr) (v x : V) (d : PyData) (l m : Option Int), vs = [v, x, optV l, optV m] ∧ Dr r H v d ∧ withinD d l m = true ∧ ∀ H', Same H H' → Q .non H'
def spRed : Sp := fun vs H Q _ => ∃ u w : Int, vs = [.int u, .int w] ∧ w ≠ 0 ∧ w.natAbs < 2 ^ 8000 ∧ ∀ H' v, Same H H' → FrN H H' v (Rat.divInt u w) → Q v H'
def spTwo : Sp := fun vs H Q _ => ∃ (r : Addr) (v w : V) (p q : Rat), vs = [v, w] ∧ Fr r H v p ∧ Fr r H w q ∧ ∀ H', Same H H' → Q .non H'
def spBin (f : Rat → Rat → Rat) : Sp := fun vs H Q _ => ∃ (r : Addr) (v w : V) (p q : Rat), vs = [v, w] ∧ Fr r H v p ∧ Fr r H w q ∧ Sz 3000 p ∧ Sz 3000 q ∧
  ∀ H' x, Same H H' → FrN H H' x (f p q) → Q x H'
def spBelow : Sp := fun vs H Q _ => ∃ (r : Addr) (v w : V) (p q : Rat), vs = [v, w] ∧ Fr r H v p ∧ Fr r H w q ∧ Sz 3000 p ∧ Sz 3000 q ∧ ∀ H', Same H H' → Q (.bl (decide (p < q))) H'
theorem FrN.from {H H1 H' : Hp} {v : V} {q : Rat} (s : Same H H1) (h : FrN H1 H' v q) : FrN H H' v q := by
  obtain ⟨a, h1, h2, h3⟩ := h
  refine ⟨a, h1, ?_, h3⟩
  cases e : H a with
  | none => rfl
  | some o =>
    rw [s _ _ e] at h2
    cases h2
theorem fracD_fq (q : Rat) : fracD (fq q) = true := by
  have h1 : (0 : Int) < (q.den : Int) := by have := q.den_nz; omega
  have h2 : Nat.gcd q.num.natAbs (q.den : Int).natAbs = 1 := by rw [Int.natAbs_natCast]; exact q.reduced
  show (decide (0 < (q.den : Int)) && decide (Nat.gcd q.num.natAbs (q.den : Int).natAbs = 1)) = true
  rw [decide_eq_true h1, decide_eq_true h2]
  rfl
theorem ite_f {b : Bool} {A B : Prop} (h : b = false) (k : B) : if b = true then A else B := by rw [h]; exact k
theorem ite_t {b : Bool} {A B : Prop} (h : b = true) (k : A) : if b = true then A else B := by rw [h]; exact k
/-- a list at p -/
def Ls (H : Hp) (p : Addr) (xs : List V) : Prop := H p = some (.lst xs)
theorem Ls.same {H H' : Hp} {p : Addr} {xs : List V} (h : Ls H p xs) (s : Same H H') : Ls H' p xs := s _ _ h
end Nd

namespace Nd
open PySem PySem.Spec PyProof.Rows L2
/-! ### a list of drawn things -/
theorem Gr.over {r D : Addr} {H H1 : Hp} {o : HO} (g : Gr r H H1) (hD : H D = none) : Gr r H (upd H1 D o) := by
  refine ⟨fun b u n e => ?_, fun c t e => ?_⟩
  · rw [upd_ne (ne_of_none e hD)]
    exact g.all _ _ n e
  · rw [upd_ne (ne_of_none e hD)]
    exact g.own _ _ e
theorem lcIn_draw {lo : Int} {n j : Nat} {te : TE} {vs : List Nat} {σ : L2.St} {H1 : Hp} {Q : VK} {r : Addr} {m k : Nat} (Pr : Hp → V → Prop)
    (hgr : ∀ H H' v, Gr r H H' → Pr H v → Pr H' v) (hput : ∀ H D xs ys v, H D = some (.lst xs) → Pr H v → Pr (upd H D (.lst ys)) v) (hz : n ≤ 100000) (hw : ∀ x, wipe ((wipe σ vs).set j (some x)) vs = wipe σ vs)
    (R : Rid r m H1)
    (step : ∀ i H2, i < n → Rid r (m + k * i) H2 → Gr r H1 H2 → ∀ QE : VK, (∀ H4 y, Gr r H2 H4 → Rid r (m + k * (i + 1)) H4 → Pr H4 y → QE y H4) → te ((wipe σ vs).set j (some (.int (lo + i)))) H2 QE)
    (fin : ∀ p H' ys, H1 p = none → Gr r H1 H' → Rid r (m + k * n) H' → p ≠ r → H' p = some (.lst ys) → ys.length = n → (∀ y ∈ ys, Pr H' y) → Q (.ref p) H') :
    LcIn (Itr lo n) (gName j) tYes te vs σ H1 Q := fun D hD =>
  lc_range (lo := lo) (n := n) (fun i H => RidN D r (m + k * i) H ∧ Gr r H1 H ∧ ∃ ys, H D = some (.lst ys) ∧ ys.length = i ∧ ∀ y ∈ ys, Pr H y)
    ⟨R.newN hD, Gr.rfl'.over hD, [], upd_same, rfl, fun y hy => nomatch hy⟩
    (fun i H' hi p => by
      obtain ⟨R1, g1, ys, e1, l1, a1⟩ := p
      refine ⟨hw _, ?_⟩
      refine k_tYes ?_
      rw [if_pos rfl]
      refine step i H' hi R1.rid g1 _ fun H4 y g4 R4 p4 => ?_
      have e4 := g4.all _ _ R1.ne e1
      refine ⟨ys, e4, Nat.lt_of_lt_of_le (Nat.lt_of_lt_of_le (by omega) hz) (by decide), ((R1.gr g4 R4).put), (g1.trans g4).over hD, ys ++ [y], upd_same, by rw [List.length_append, l1]; rfl, fun x hx => ?_⟩
      rw [List.mem_append] at hx
      rcases hx with hx | hx
      · exact hput _ _ _ _ _ e4 (hgr _ _ _ g4 (a1 x hx))
      · obtain rfl := List.mem_singleton.mp hx
        exact hput _ _ _ _ _ e4 p4)
    (fun H' p => by
      obtain ⟨R1, g1, ys, e1, l1, a1⟩ := p
      exact fin D H' ys hD g1 R1.rid R1.ne e1 l1 a1)
theorem given_no {n : Nat} {v : Nat → V} : given n (fun _ => false) v = [] := by
  unfold given
  rw [List.filter_eq_nil_iff.mpr (by intros; decide)]
  rfl
/-! ### xs.count(True), of truths -/
def eqB (b : Bool) (v : Value) : Bool := match v with
  | .bool c => c == b
  | _ => false
theorem eqB_at {b : Bool} {A : Around} {s : Shared} : ∀ {bs : List Bool} {us : List Value}, Vals (bs.map V.bl) us → ∀ y ∈ us, SeqAt.EqAt A s y (.bool b) (eqB b y)
  | [], us, h, y, hy => by
    rw [List.map_nil] at h
    cases h
    cases hy
  | c :: bs, us, h, y, hy => by
    rw [List.map_cons] at h
    cases h with
    | cons h1 h2 =>
      cases h1
      rcases List.mem_cons.mp hy with e | e
      · rw [e]
        exact SeqAt.EqAt.bool_bool c b
      · exact eqB_at h2 y e
theorem eqB_count {b : Bool} : ∀ {bs : List Bool} {us : List Value}, Vals (bs.map V.bl) us → us.countP (eqB b) = bs.count b
  | [], us, h => by
    rw [List.map_nil] at h
    cases h
    rfl
  | c :: bs, us, h => by
    rw [List.map_cons] at h
    cases h with
    | cons h1 h2 =>
      cases h1
      rw [List.countP_cons, List.count_cons, eqB_count h2] <;> rfl
def rCntB (K : PySem.W.Frag) : V → List V → Hp → VK → Prop := fun x xs H Q => ∃ (p : Addr) (bs : List Bool) (b : Bool), x = .ref p ∧ xs = [.bl b] ∧ SqL K H p (bs.map V.bl) ∧ Q (.int (bs.count b : Nat)) H
theorem mt_lcountB {X : Cx} : MtR X "list.count" (rCntB X.K) := by
  intro pins s σ H x xs v us Q I rx rxs h
  obtain ⟨p, bs, b, rfl, rfl, hs, q⟩ := h
  cases rx
  obtain ⟨u, rfl, ru⟩ := rxs.one
  cases ru
  obtain ⟨its, rv, ⟨⟨cls, dd, data, sl⟩, n, ho, hc, hdn, hd⟩, hlen⟩ := I.list hs
  simp only at hc hd
  subst hc hd
  refine call_meets PySem.F.slot_list_count ⟨_, ho, rfl⟩ PySem.F.entry_list_count (PySem.F.args_list_count_2 _ _)
    (SeqAt.list_countAt p its.toArray n dd sl (.bool b) (eqB b)) ⟨ho, fun y hy => eqB_at rv y (by simpa using hy), ?_⟩
  have ec : its.toArray.toList.countP (eqB b) = bs.count b := eqB_count rv
  refine ⟨.int (bs.count b : Nat), H, I.tok _, ⟨s.toks, ?_⟩, q⟩
  show Value.int ((its.toArray.toList.countP (eqB b) : Nat) : Int) s.toks = Value.int ((bs.count b : Nat) : Int) s.toks
  rw [ec]
theorem k_cntB {K : PySem.W.Frag} {p : Addr} {bs : List Bool} {b : Bool} {H : Hp} {Q : VK} (hs : SqL K H p (bs.map V.bl)) (q : Q (.int (bs.count b : Nat)) H) : rCntB K (.ref p) [.bl b] H Q := ⟨p, bs, b, rfl, rfl, hs, q⟩
/-! ### lists of fractions -/
theorem canFq (q : Rat) : PyData.canLay0 (fq q) = true := by
  simp [fq, PyData.canLay0, PyData.canLayAll0]
theorem canFqs : ∀ qs : List Rat, PyData.canLayAll0 (qs.map fq) = true
  | [] => by simp only [List.map_nil, PyData.canLayAll0]
  | q :: qs => by simp only [List.map_cons, PyData.canLayAll0, canFq q, canFqs qs, Bool.and_self]
theorem depFqs : ∀ qs : List Rat, PyData.depthAll (qs.map fq) ≤ 1
  | [] => by simp only [List.map_nil, PyData.depthAll]; omega
  | q :: qs => by
    simp only [List.map_cons, PyData.depthAll]
    have := depFqs qs
    have e : (fq q).depth = 1 := by simp [fq, PyData.depth, PyData.depthAll]
    omega
theorem sh_fqs (qs : List Rat) : SeqAt.shaped (.list (qs.map fq)) = true := by
  have h := depFqs qs
  simp only [SeqAt.shaped, PyData.canLay0, PyData.depth, canFqs qs, Bool.true_and, Bool.and_true]
  simp
  omega
theorem eqvs_fq : ∀ qs : List Rat, PyData.eqvAll (qs.map fq) (qs.map fq) = true
  | [] => by simp only [List.map_nil, PyData.eqvAll]
  | q :: qs => by
    simp only [List.map_cons, PyData.eqvAll, eqv_fq, eqvs_fq qs, decide_true, Bool.and_self]
theorem ne_lists {as bs : List Rat} (h : as = bs) : (!PyData.eqv (.list (as.map fq)) (.list (bs.map fq))) = false := by
  subst h
  simp only [PyData.eqv, eqvs_fq, Bool.not_true]
theorem ne_fq {p q : Rat} (h : p = q) : (!decide (p = q)) = false := by rw [decide_eq_true h]; rfl
theorem ne_bl {x y : Bool} (h : x = y) : (!decide (V.bl x = V.bl y)) = false := by subst h; simp
theorem Fr.two {r p : Addr} {H : Hp} {x y : Int} {q : Rat} (n : p ≠ r) (e : H p = some (.tup [.int x, .int y])) (h1 : x = q.num) (h2 : y = (q.den : Int)) : Fr r H (.ref p) q := ⟨p, rfl, n, by rw [e, h1, h2]⟩
theorem sz0 : Sz 1 0 := ⟨by decide, by decide⟩
theorem sz1 : Sz 1 1 := ⟨by decide, by decide⟩
theorem szm1 : Sz 1 (-1) := ⟨by decide, by decide⟩
theorem cnt3 (a b : Rat) : (([decide (a < b), decide (b < a), decide (a = b)].count true : Nat) : Int) = 1 := by
  by_cases h1 : a < b
  · have h2 : ¬ b < a := Rat.not_lt.mpr (Rat.le_of_lt h1)
    have h3 : a ≠ b := Rat.ne_of_lt h1
    simp [h1, h2, h3]
  · by_cases h2 : b < a
    · have h3 : a ≠ b := (Rat.ne_of_lt h2).symm
      simp [h1, h2, h3]
    · have h3 : a = b := Rat.le_antisymm (Rat.not_lt.mp h2) (Rat.not_lt.mp h1)
      simp [h1, h2, h3]
end Nd

namespace Nd
open PySem PySem.Spec PyProof.Rows L2
/-! ### choices -/
def ch : Nat → Nat → Nat
  | _, 0 => 1
  | 0, _ + 1 => 0
  | n + 1, k + 1 => ch n k + ch n (k + 1)
theorem ch_zero (n : Nat) : ch n 0 = 1 := by cases n <;> rfl
theorem ch_succ (n k : Nat) : ch (n + 1) (k + 1) = ch n k + ch n (k + 1) := rfl
theorem ch_over : ∀ {n k : Nat}, n < k → ch n k = 0
  | 0, k + 1, _ => rfl
  | n + 1, k + 1, h => by rw [ch_succ, ch_over (by omega), ch_over (by omega)]
theorem ch_self : ∀ n : Nat, ch n n = 1
  | 0 => rfl
  | n + 1 => by rw [ch_succ, ch_self n, ch_over (Nat.lt_succ_self n)]
theorem ch_sym : ∀ (n a b : Nat), a + b = n → ch n a = ch n b
  | 0, a, b, h => by
    obtain rfl : a = 0 := by omega
    obtain rfl : b = 0 := by omega
    rfl
  | n + 1, 0, b, h => by
    obtain rfl : b = n + 1 := by omega
    rw [ch_zero, ch_self]
  | n + 1, a + 1, 0, h => by
    obtain rfl : a = n := by omega
    rw [ch_zero, ch_self]
  | n + 1, a + 1, b + 1, h => by
    rw [ch_succ, ch_succ, ch_sym n a (b + 1) (by omega), ch_sym n (a + 1) b (by omega)]
    omega
theorem ch_mul : ∀ (n k : Nat), ((k : Int) + 1) * (ch n (k + 1) : Int) = ((n : Int) - k) * (ch n k : Int)
  | 0, 0 => by simp [ch]
  | 0, k + 1 => by simp [ch]
  | n + 1, 0 => by
    have h := ch_mul n 0
    rw [ch_succ, ch_zero, ch_zero]
    rw [ch_zero] at h
    simp at h ⊢
    omega
  | n + 1, k + 1 => by
    have h1 := ch_mul n k
    have h2 := ch_mul n (k + 1)
    rw [ch_succ n (k + 1), ch_succ n k]
    simp only [Int.natCast_add, Int.natCast_one] at h1 h2 ⊢
    grind
def fac : Nat → Nat
  | 0 => 1
  | k + 1 => fac k * (k + 1)
theorem fac_pos : ∀ k : Nat, 0 < fac k
  | 0 => Nat.one_pos
  | k + 1 => Nat.mul_pos (fac_pos k) (Nat.succ_pos k)
theorem fp_ch (n : Nat) : ∀ k : Nat, Builtin.Math.fallingProduct (n : Int) k = (ch n k : Int) * (fac k : Int)
  | 0 => by rw [PySem.W.mc_fp_zero, ch_zero]; rfl
  | k + 1 => by
    rw [PySem.W.mc_fp_succ, fp_ch n k, show fac (k + 1) = fac k * (k + 1) from rfl]
    have h := ch_mul n k
    simp only [Int.natCast_mul, Int.natCast_add, Int.natCast_one]
    grind
theorem comb_ch (n k : Nat) : PySem.W.mcComb (n : Int) (k : Int) = (ch n k : Int) := by
  by_cases h : k > n
  · rw [PySem.W.mcComb_above (by omega), ch_over h]
    rfl
  · have hk : k ≤ n := by omega
    rw [PySem.W.mcComb_at (m := ((min k (n - k) : Nat) : Int)) (by omega) (by omega) (by omega), Int.toNat_natCast, fp_ch n, fp_ch (min k (n - k)), ch_self]
    have p := fac_pos (min k (n - k))
    rw [Int.natCast_one, Int.one_mul, Int.mul_ediv_cancel _ (by omega)]
    rcases Nat.le_total k (n - k) with z | z
    · rw [Nat.min_eq_left z]
    · rw [Nat.min_eq_right z, ch_sym n (n - k) k (by omega)]
def rComb : List V → Hp → VK → Prop := fun vs H Q => ∃ n k : Nat, vs = [.int (n : Int), .int (k : Int)] ∧ n ≤ 18000 ∧ Q (.int (ch n k : Int)) H
theorem cr_comb {X : Cx} : CallR X (.builtin "math.comb") rComb := by
  intro pins s σ H vs us Q I r h
  obtain ⟨n, k, rfl, hn, q⟩ := h
  obtain ⟨t, u, rfl⟩ := Vals.int2 r
  exact PySem.W.mc_comb (by omega) (by omega) (by omega) (.inr (by omega)) fun _ => ⟨.int _, H, I.tok _, ⟨_, by rw [comb_ch]⟩, q⟩
theorem k_comb {n k : Nat} {H : Hp} {Q : VK} (hn : n ≤ 18000) (q : Q (.int (ch n k : Int)) H) : rComb [.int (n : Int), .int (k : Int)] H Q := ⟨n, k, rfl, hn, q⟩
theorem ch_le : ∀ (n k : Nat), ch n k ≤ 2 ^ n
  | 0, 0 => by decide
  | 0, k + 1 => by simp [ch]
  | n + 1, 0 => by rw [ch_zero]; exact Nat.two_pow_pos _
  | n + 1, k + 1 => by
    rw [ch_succ, Nat.pow_succ]
    have := ch_le n k
    have := ch_le n (k + 1)
    omega
/-! ### walks -/
def W : Nat → Int → Nat
  | 0, s => if s = 0 then 1 else 0
  | t + 1, s => W t (s - 1) + W t (s + 1)
theorem W_succ (t : Nat) (s : Int) : W (t + 1) s = W t (s - 1) + W t (s + 1) := rfl
theorem W_far : ∀ (t : Nat) (s : Int), (t : Int) < s ∨ s < -(t : Int) → W t s = 0
  | 0, s, h => if_neg (by omega)
  | t + 1, s, h => by rw [W_succ, W_far t _ (by omega), W_far t _ (by omega)]
theorem W_odd : ∀ (t : Nat) (s : Int), (s + t) % 2 ≠ 0 → W t s = 0
  | 0, s, h => if_neg (by omega)
  | t + 1, s, h => by rw [W_succ, W_odd t _ (by omega), W_odd t _ (by omega)]
theorem W_ch : ∀ (t k : Nat), W t (2 * (k : Int) - t) = ch t k
  | 0, 0 => rfl
  | 0, k + 1 => by
    rw [W, if_neg (by omega)]
    rfl
  | t + 1, 0 => by
    rw [W_succ, W_far t _ (by omega), show (2 * ((0 : Nat) : Int) - ((t + 1 : Nat) : Int) + 1) = 2 * ((0 : Nat) : Int) - t by omega, W_ch t 0, ch_zero, ch_zero]
  | t + 1, k + 1 => by
    rw [W_succ, show (2 * ((k + 1 : Nat) : Int) - ((t + 1 : Nat) : Int) - 1) = 2 * (k : Int) - t by omega, show (2 * ((k + 1 : Nat) : Int) - ((t + 1 : Nat) : Int) + 1) = 2 * ((k + 1 : Nat) : Int) - t by omega, W_ch t k, W_ch t (k + 1), ch_succ]
theorem W_neg : ∀ (t : Nat) (s : Int), W t (-s) = W t s
  | 0, s => by
    rw [W, W]
    by_cases h : s = 0
    · rw [if_pos h, if_pos (by omega)]
    · rw [if_neg h, if_neg (by omega)]
  | t + 1, s => by
    rw [W_succ, W_succ, show -s - 1 = -(s + 1) by omega, show -s + 1 = -(s - 1) by omega, W_neg t, W_neg t]
    omega
theorem W_le (t : Nat) (s : Int) : W t s ≤ 2 ^ t := by
  induction t generalizing s with
  | zero => rw [W]; split <;> decide
  | succ t ih =>
    rw [W_succ, Nat.pow_succ]
    have := ih (s - 1)
    have := ih (s + 1)
    omega
/-! ### halving as often as it goes -/
theorem two_split : ∀ (n : Nat) (u : Int), u.natAbs = n → u ≠ 0 → ∃ (v : Nat) (a : Int), u = 2 ^ v * (2 * a + 1) := by
  intro n
  induction n using Nat.strongRecOn with
  | ind n ih =>
    intro u hn h0
    by_cases h : u % 2 = 0
    · obtain ⟨v, a, e⟩ := ih (u / 2).natAbs (by omega) (u / 2) rfl (by omega)
      refine ⟨v + 1, a, ?_⟩
      have : u = 2 * (u / 2) := by omega
      rw [this, e, Int.pow_succ]
      grind
    · exact ⟨0, u / 2, by simp; omega⟩
theorem bits_two (v : Nat) : Builtin.Int.intBits ((2 : Int) ^ v) = v + 1 := by
  unfold Builtin.Int.intBits
  have e : ((2 : Int) ^ v).natAbs = 2 ^ v := by rw [Int.natAbs_pow]; rfl
  have p := Nat.two_pow_pos v
  rw [e, if_neg (by simp; omega), Nat.log2_two_pow]
theorem halved_rat {u : Int} {v k : Nat} {a : Int} (e : u = 2 ^ v * (2 * a + 1)) : u / 2 ^ (min k v) = (Rat.divInt u (2 ^ k)).num ∧ ((2 : Int) ^ (k - min k v)) = ((Rat.divInt u (2 ^ k)).den : Int) := by
  have p : ∀ n : Nat, (2 : Int) ^ n ≠ 0 := fun n => Int.ne_of_gt (Int.pow_pos (m := n) (show (0 : Int) < 2 by decide))
  have hd : u / 2 ^ (min k v) = 2 ^ (v - min k v) * (2 * a + 1) := by
    refine Int.ediv_eq_of_eq_mul_right (p _) ?_
    rw [e, ← Int.mul_assoc, ← Int.pow_add]
    congr 2
    omega
  have cop : (u / 2 ^ (min k v)).natAbs.Coprime (2 ^ (k - min k v)) := by
    rcases Nat.le_total k v with z | z
    · rw [Nat.min_eq_left z, Nat.sub_self, Nat.pow_zero]
      exact Nat.coprime_one_right _
    · rw [Nat.min_eq_right z] at hd ⊢
      rw [hd, Nat.sub_self, Int.pow_zero, Int.one_mul]
      refine Nat.Coprime.pow_right _ ?_
      rw [Nat.coprime_comm]
      show Nat.gcd 2 _ = 1
      rw [Nat.gcd_rec, show (2 * a + 1).natAbs % 2 = 1 by omega]
      rfl
  have nz : 2 ^ (k - min k v) ≠ 0 := by have := Nat.two_pow_pos (k - min k v); omega
  have main : Rat.divInt u (2 ^ k) = ⟨u / 2 ^ (min k v), 2 ^ (k - min k v), nz, cop⟩ := by
    rw [Rat.mk_eq_divInt, Rat.divInt_eq_divInt_iff (p k) (by simpa using p (k - min k v)), hd]
    simp only [Int.natCast_pow]
    rw [show ((2 : Nat) : Int) = 2 from rfl, e]
    have h1 : (2 : Int) ^ v * 2 ^ (k - min k v) = 2 ^ (v - min k v) * 2 ^ k := by
      rw [← Int.pow_add, ← Int.pow_add]
      congr 1
      omega
    grind
  rw [main]
  refine ⟨rfl, ?_⟩
  simp [Int.natCast_pow]
/-! ### a value's truth as a test -/
def tTru (K : PySem.W.Frag) (ta : TE) : TT := fun σ H Q => ta σ H fun x H' => ∃ k, TruV K x H' k ∧ Q k H'
theorem pt_tru {X : Cx} {a : Expr} {ta : TE} (ha : PE X a ta) (he : ∀ whole, isTrue a X.env whole = (do let v ← whole; standAt a.pos; holding [v] (truthy v))) : PT X a (tTru X.K ta) := pt_truth ha he
theorem k_tru {K : PySem.W.Frag} {ta : TE} {σ : L2.St} {H : Hp} {Q : Bool → Hp → Prop} (h : ta σ H fun x H' => ∃ k, TruV K x H' k ∧ Q k H') : tTru K ta σ H Q := h
theorem k_truI {K : PySem.W.Frag} {i : Int} {H : Hp} {Q : Bool → Hp → Prop} (h : Q (i != 0) H) : ∃ k, TruV K (.int i) H k ∧ Q k H := ⟨_, rfl, h⟩
theorem k_bits {to : TE} {σ : L2.St} {H : Hp} {Q : VK} (h : to σ H fun x H1 => ∃ i, x = .int i ∧ Q (.int (Builtin.Int.intBits i : Nat)) H1) : tBits to σ H Q := h
/-! ### the program's ways, halves, first shares -/
def spWays : Sp := fun vs H Q _ => ∃ (far : Int) (t : Nat), vs = [.int far, .int (t : Int)] ∧ t ≤ 18000 ∧ Q (.int (W t far : Int)) H
def spHalved : Sp := fun vs H Q _ => ∃ (u : Int) (k : Nat), vs = [.int u, .int (k : Int)] ∧ k ≤ 100000 ∧ u.natAbs < 2 ^ 100000 ∧ ∀ H' v, Same H H' → FrN H H' v (Rat.divInt u (2 ^ k)) → Q v H'
/-- how many ways of t steps come to far at the last one and not before -/
def fst (far : Int) : Nat → Nat
  | 0 => if far = 0 then 1 else 0
  | t + 1 => if far = 0 then 0 else fst (far - 1) t + fst (far + 1) t
theorem W_par {t : Nat} {s : Int} (h : (s + t) % 2 = 0) (h0 : -(t : Int) ≤ s) : ∃ k : Nat, s = 2 * (k : Int) - t := ⟨((s + t) / 2).toNat, by omega⟩
theorem fst_eq : ∀ (t : Nat) (far : Int), 0 ≤ far → (fst far (t + 1) : Int) = (W t (far - 1) : Int) - (W t (far + 1) : Int)
  | 0, far, h => by
    rw [fst]
    by_cases h0 : far = 0
    · subst h0
      rfl
    · rw [if_neg h0, fst, fst, W, W, if_neg (show ¬ far + 1 = 0 by omega)]
      by_cases h1 : far - 1 = 0
      · rw [if_pos h1]
        rfl
      · rw [if_neg h1]
        rfl
  | t + 1, far, h => by
    rw [fst]
    by_cases h0 : far = 0
    · subst h0
      rw [if_pos rfl, show (0 : Int) - 1 = -(0 + 1) by omega, W_neg]
      omega
    · rw [if_neg h0, Int.natCast_add, fst_eq t (far - 1) (by omega), fst_eq t (far + 1) (by omega), W_succ, W_succ, show far - 1 + 1 = far by omega, show far + 1 - 1 = far by omega]
      omega
theorem ballot (t : Nat) (far : Int) (h : 0 ≤ far) : ((t : Int) + 1) * (fst far (t + 1) : Int) = far * (W (t + 1) far : Int) := by
  rw [fst_eq t far h, W_succ]
  by_cases hp : (far - 1 + t) % 2 = 0
  · by_cases h0 : -(t : Int) ≤ far - 1
    · obtain ⟨k, hk⟩ := W_par hp h0
      have e2 : far + 1 = 2 * ((k + 1 : Nat) : Int) - t := by omega
      rw [hk, W_ch, e2, W_ch]
      have hc := ch_mul t k
      have hf : far = 2 * (k : Int) - t + 1 := by omega
      rw [hf]
      simp only [Int.natCast_add]
      grind
    · obtain rfl : far = 0 := by omega
      obtain rfl : t = 0 := by omega
      rfl
  · rw [W_odd t (far - 1) hp, W_odd t (far + 1) (by omega)]
    simp
theorem first_div (t : Nat) (far : Int) (h : 0 ≤ far) : far * (W (t + 1) far : Int) / ((t + 1 : Nat) : Int) = (fst far (t + 1) : Int) := by
  rw [← ballot t far h]
  exact Int.mul_ediv_cancel_left _ (by omega)
theorem fst_le : ∀ (t : Nat) (far : Int), fst far t ≤ 2 ^ t
  | 0, far => by rw [fst]; split <;> decide
  | t + 1, far => by
    rw [fst, Nat.pow_succ]
    have := fst_le t (far - 1)
    have := fst_le t (far + 1)
    split <;> omega
theorem fst_far : ∀ (t : Nat) (far : Int), (t : Int) < far → fst far t = 0
  | 0, far, h => if_neg (by omega)
  | t + 1, far, h => by
    rw [fst, if_neg (by omega), fst_far t _ (by omega), fst_far t _ (by omega)]
def fsR (far : Int) (t : Nat) : Rat := Rat.divInt (fst far t : Int) (2 ^ t)
def spFirst : Sp := fun vs H Q _ => ∃ (far t : Nat), vs = [.int (far : Int), .int (t : Int)] ∧ 1 ≤ far ∧ far ≤ 400 ∧ t ≤ 400 ∧ ∀ H' v, Same H H' → FrN H H' v (fsR far t) → Q v H'
/-- how many ways of t steps, from far off, do not come there -/
def gone (far : Int) : Nat → Nat
  | 0 => if far = 0 then 0 else 1
  | t + 1 => if far = 0 then 0 else gone (far - 1) t + gone (far + 1) t
theorem gone_pos : ∀ (t : Nat) (far : Int), 0 < far → 0 < gone far t
  | 0, far, h => by rw [gone, if_neg (by omega)]; decide
  | t + 1, far, h => by
    rw [gone, if_neg (by omega)]
    have := gone_pos t (far + 1) (by omega)
    omega
/-- all first shares up to t, in parts of 2 ^ t -/
def sumF (far : Int) : Nat → Nat
  | 0 => fst far 0
  | t + 1 => 2 * sumF far t + fst far (t + 1)
theorem sumF_zero : ∀ t : Nat, sumF 0 t = 2 ^ t
  | 0 => rfl
  | t + 1 => by
    rw [sumF, sumF_zero t, Nat.pow_succ, fst, if_pos rfl]
    omega
theorem sumF_succ : ∀ (t : Nat) (far : Int), far ≠ 0 → sumF far (t + 1) = sumF (far - 1) t + sumF (far + 1) t
  | 0, far, h => by
    have e1 : sumF far (0 + 1) = 2 * fst far 0 + fst far (0 + 1) := rfl
    have e2 : fst far 0 = 0 := if_neg h
    have e3 : fst far (0 + 1) = fst (far - 1) 0 + fst (far + 1) 0 := if_neg h
    have e4 : ∀ x, sumF x 0 = fst x 0 := fun _ => rfl
    rw [e1, e2, e3, e4, e4]
    omega
  | t + 1, far, h => by
    have e1 : sumF far (t + 1 + 1) = 2 * sumF far (t + 1) + fst far (t + 1 + 1) := rfl
    have e2 : ∀ x, sumF x (t + 1) = 2 * sumF x t + fst x (t + 1) := fun _ => rfl
    rw [e1, sumF_succ t far h, e2 (far - 1), e2 (far + 1), show fst far (t + 1 + 1) = fst (far - 1) (t + 1) + fst (far + 1) (t + 1) from by rw [fst, if_neg h]]
    omega
theorem sum_gone : ∀ (t : Nat) (far : Int), sumF far t + gone far t = 2 ^ t
  | 0, far => by
    rw [sumF, fst, gone]
    split <;> rfl
  | t + 1, far => by
    by_cases h : far = 0
    · subst h
      rw [sumF_zero, gone, if_pos rfl]
      omega
    · rw [sumF_succ t far h, gone, if_neg h, Nat.pow_succ]
      have := sum_gone t (far - 1)
      have := sum_gone t (far + 1)
      omega
end Nd

namespace Nd
open PySem PySem.Spec PyProof.Rows L2
/-! ### dicts of ints by ints, read as a function that is 0 where no key is -/
theorem few_ints : ∀ (n : Nat) (lo : Int) (ks : List Int), ks.Nodup → (∀ k ∈ ks, lo ≤ k ∧ k < lo + n) → ks.length ≤ n
  | 0, lo, ks, _, h => by
    cases ks with
    | nil => exact Nat.le_refl _
    | cons x xs =>
      have := h x List.mem_cons_self
      omega
  | n + 1, lo, ks, hn, h => by
    by_cases hm : lo + n ∈ ks
    · have h1 := few_ints n lo (ks.erase (lo + n)) (hn.erase _) fun x hx => by
        obtain ⟨h2, h3⟩ := hn.mem_erase_iff.mp hx
        have := h x h3
        omega
      rw [List.length_erase_of_mem hm] at h1
      omega
    · have h1 := few_ints n lo ks hn fun x hx => by
        have := h x hx
        have : x ≠ lo + n := fun e => hm (by rw [← e]; exact hx)
        omega
      omega
def keyI : Key → Int
  | .inl k => k
  | .inr _ => 0
structure Dn (kvs : List (Key × V)) (f : Int → Int) (lo hi : Int) : Prop where
  key : ∀ kv ∈ kvs, ∃ k : Int, kv = (.inl k, .int (f k)) ∧ lo ≤ k ∧ k ≤ hi
  nd : (kvs.map (·.1)).Nodup
  off : ∀ k : Int, valV kvs (.inl k) = none → f k = 0
theorem valV_mem {kvs : List (Key × V)} {k : Key} {v : V} (h : valV kvs k = some v) : (k, v) ∈ kvs := by
  unfold valV at h
  obtain ⟨kv, h1, h2⟩ := Option.map_eq_some_iff.mp h
  have h3 := List.find?_some h1
  have h4 := List.mem_of_find?_eq_some h1
  obtain ⟨a, b⟩ := kv
  simp only [decide_eq_true_eq] at h3
  subst h3 h2
  exact h4
theorem Dn.get {kvs : List (Key × V)} {f : Int → Int} {lo hi : Int} (d : Dn kvs f lo hi) (k : Int) : (valV kvs (.inl k)).getD (.int 0) = .int (f k) := by
  cases h : valV kvs (.inl k) with
  | none =>
    rw [d.off k h]
    rfl
  | some v =>
    obtain ⟨k', e, _⟩ := d.key _ (valV_mem h)
    cases e
    rfl
theorem Dn.nil {lo hi : Int} : Dn [] (fun _ => 0) lo hi := ⟨fun _ h => (nomatch h), List.nodup_nil, fun _ _ => rfl⟩
theorem Dn.mono {kvs : List (Key × V)} {f : Int → Int} {lo hi lo' hi' : Int} (d : Dn kvs f lo hi) (h1 : lo' ≤ lo) (h2 : hi ≤ hi') : Dn kvs f lo' hi' := by
  refine ⟨fun kv h => ?_, d.nd, d.off⟩
  obtain ⟨k, e, a, b⟩ := d.key kv h
  exact ⟨k, e, by omega, by omega⟩
theorem Dn.len {kvs : List (Key × V)} {f : Int → Int} {lo hi : Int} (d : Dn kvs f lo hi) (n : Nat) (h : hi < lo + n) : kvs.length ≤ n := by
  have e : kvs.map (·.1) = (kvs.map fun kv => keyI kv.1).map Sum.inl := by
    rw [List.map_map]
    refine List.map_congr_left fun kv hkv => ?_
    obtain ⟨k, rfl, _⟩ := d.key kv hkv
    rfl
  have hn := d.nd
  rw [e] at hn
  have hn2 : (kvs.map fun kv => keyI kv.1).Nodup := (List.pairwise_map.mp hn).imp fun h z => h (by rw [z])
  have := few_ints n lo (kvs.map fun kv => keyI kv.1) hn2 fun x hx => by
    obtain ⟨kv, h1, rfl⟩ := List.mem_map.mp hx
    obtain ⟨k, rfl, a, b⟩ := d.key kv h1
    exact ⟨a, by show k < _; omega⟩
  rwa [List.length_map] at this
theorem Dn.put {kvs : List (Key × V)} {f g : Int → Int} {lo hi : Int} (d : Dn kvs f lo hi) (k : Int) (v : Int) (h1 : lo ≤ k) (h2 : k ≤ hi) (hg : ∀ j, g j = if j = k then v else f j) :
    Dn (putK kvs (.inl k) (.int v)) g lo hi := by
  refine ⟨fun kv hkv => ?_, ?_, fun j hj => ?_⟩
  · unfold putK at hkv
    split at hkv
    · obtain ⟨kv0, h3, rfl⟩ := List.mem_map.mp hkv
      obtain ⟨k0, rfl, a, b⟩ := d.key kv0 h3
      by_cases e : k0 = k
      · subst e
        refine ⟨k0, ?_, a, b⟩
        simp only [if_pos, hg]
      · refine ⟨k0, ?_, a, b⟩
        rw [if_neg (fun z => e (Sum.inl.inj z)), hg, if_neg e]
    · rename_i hno
      rcases List.mem_append.mp hkv with h3 | h3
      · obtain ⟨k0, rfl, a, b⟩ := d.key kv h3
        have e : k0 ≠ k := fun z => hno (List.any_eq_true.mpr ⟨_, h3, by simp [z]⟩)
        exact ⟨k0, by rw [hg, if_neg e], a, b⟩
      · obtain rfl := List.mem_singleton.mp h3
        exact ⟨k, by rw [hg, if_pos rfl], h1, h2⟩
  · unfold putK
    split
    · rw [List.map_map]
      have : (kvs.map ((fun kv : Key × V => kv.1) ∘ fun kv => if kv.1 = .inl k then (kv.1, V.int v) else kv)) = kvs.map (·.1) := by
        refine List.map_congr_left fun kv _ => ?_
        show (if kv.1 = .inl k then (kv.1, V.int v) else kv).1 = kv.1
        split <;> rfl
      rw [this]
      exact d.nd
    · rename_i hno
      rw [List.map_append, List.nodup_append]
      refine ⟨d.nd, by simp, fun a ha b hb e => ?_⟩
      obtain ⟨kv, h3, rfl⟩ := List.mem_map.mp ha
      simp only [List.map_cons, List.map_nil, List.mem_singleton] at hb
      exact hno (List.any_eq_true.mpr ⟨kv, h3, by simp [e, hb]⟩)
  · rw [valV_put] at hj
    split at hj
    · cases hj
    · rename_i hne
      have hne' : j ≠ k := fun z => hne (by rw [z])
      rw [hg, if_neg hne']
      exact d.off j hj
open Classical in
/-- what the first i entries hold -/
noncomputable def seen (kvs : List (Key × V)) (f : Int → Int) (i : Nat) : Int → Int := fun k => if (Sum.inl k : Key) ∈ (kvs.take i).map (·.1) then f k else 0
theorem seen_zero {kvs : List (Key × V)} {f : Int → Int} : seen kvs f 0 = fun _ => 0 := by
  funext k
  simp [seen]
theorem Dn.at {kvs : List (Key × V)} {f : Int → Int} {lo hi : Int} (d : Dn kvs f lo hi) {i : Nat} {kv : Key × V} (h : kvs[i]? = some kv) : ∃ k : Int, kv = (.inl k, .int (f k)) ∧ lo ≤ k ∧ k ≤ hi ∧
    ∀ j, seen kvs f (i + 1) j = seen kvs f i j + if j = k then f k else 0 := by
  obtain ⟨k, rfl, a, b⟩ := d.key kv (List.mem_of_getElem? h)
  refine ⟨k, rfl, a, b, fun j => ?_⟩
  obtain ⟨hi', e⟩ := List.getElem?_eq_some_iff.mp h
  have ht : kvs.take (i + 1) = kvs.take i ++ [(.inl k, .int (f k))] := by
    rw [List.take_succ, h]
    rfl
  have hnew : (Sum.inl k : Key) ∉ (kvs.take i).map (·.1) := by
    have hnd := d.nd
    rw [show kvs = kvs.take (i + 1) ++ kvs.drop (i + 1) from (List.take_append_drop _ _).symm, ht] at hnd
    simp only [List.map_append, List.map_cons, List.map_nil] at hnd
    rw [List.nodup_append] at hnd
    have h2 := hnd.1
    rw [List.nodup_append] at h2
    exact fun z => h2.2.2 _ z _ (List.mem_singleton.mpr rfl) rfl
  unfold seen
  rw [ht, List.map_append]
  by_cases ejk : j = k
  · subst ejk
    rw [if_neg hnew, if_pos rfl, Int.zero_add]
    exact if_pos (List.mem_append.mpr (.inr (List.mem_singleton.mpr rfl)))
  · rw [if_neg ejk, Int.add_zero]
    congr 1
    simp only [List.map_cons, List.map_nil, List.mem_append, List.mem_singleton, eq_iff_iff]
    exact ⟨fun z => z.elim id fun z => absurd (Sum.inl.inj z) ejk, .inl⟩
theorem Dn.all {kvs : List (Key × V)} {f : Int → Int} {lo hi : Int} (d : Dn kvs f lo hi) : seen kvs f kvs.length = f := by
  funext k
  unfold seen
  rw [List.take_length]
  split
  · rfl
  · rename_i h
    cases hv : valV kvs (.inl k) with
    | none => exact (d.off k hv).symm
    | some v => exact absurd (List.mem_map.mpr ⟨_, valV_mem hv, rfl⟩) h
theorem mergeK_nd : ∀ (more kvs : List (Key × V)), ((kvs ++ more).map (·.1)).Nodup → mergeK kvs more = kvs ++ more
  | [], kvs, _ => by simp [mergeK]
  | p :: r, kvs, h => by
    have hnew : valV kvs p.1 = none := by
      cases hv : valV kvs p.1 with
      | none => rfl
      | some v =>
        rw [List.map_append, List.nodup_append] at h
        exact absurd rfl (h.2.2 _ (List.mem_map.mpr ⟨_, valV_mem hv, rfl⟩) p.1 (List.mem_map.mpr ⟨p, List.mem_cons_self, rfl⟩))
    show mergeK (putK kvs p.1 p.2) r = _
    rw [putK_new p.2 hnew, mergeK_nd r _ (by rw [List.append_assoc]; exact h), List.append_assoc]
    rfl
theorem Dn.filter {kvs : List (Key × V)} {f g : Int → Int} {lo hi : Int} (d : Dn kvs f lo hi) (far : Int) (hg : ∀ j, g j = if j = far then 0 else f j) :
    Dn (kvs.filter fun kv => decide (kv.1 ≠ .inl far)) g lo hi := by
  refine ⟨fun kv h => ?_, ?_, fun k h => ?_⟩
  · obtain ⟨h1, h2⟩ := List.mem_filter.mp h
    obtain ⟨k, rfl, a, b⟩ := d.key kv h1
    have : k ≠ far := fun e => by simp [e] at h2
    exact ⟨k, by rw [hg, if_neg this], a, b⟩
  · exact (List.filter_sublist.map _).nodup d.nd
  · rw [hg]
    split
    · rfl
    · rename_i hne
      refine d.off k ?_
      cases hv : valV kvs (.inl k) with
      | none => rfl
      | some v =>
        exfalso
        have hm : ((.inl k, v) : Key × V) ∈ kvs.filter fun kv => decide (kv.1 ≠ .inl far) := List.mem_filter.mpr ⟨valV_mem hv, by simp [hne]⟩
        unfold valV at h
        rw [Option.map_eq_none_iff] at h
        have := List.find?_eq_none.mp h _ hm
        simp at this
/-! ### steps -/
theorem k_dnewK {σ : L2.St} {H : Hp} {Q : VK} (h : ∀ p, H p = none → Q (.ref p) (upd H p (.dK []))) : tDNewK σ H Q := h
theorem k_dget2 {td ty tx : TE} {σ : L2.St} {H : Hp} {Q : VK} (h : td σ H fun x H1 => ∃ a, x = .ref a ∧ IsD H1 a ∧ ty σ H1 fun y H2 => tx σ H2 fun z H3 => ∃ o, DGet H3 a y o ∧ Q (o.getD z) H3) : tDGet2 td ty tx σ H Q := h
theorem k_dput {td ty tv : TE} {nx bk ct : L2.St → Hp → Prop} {rt : VK} {σ : L2.St} {H : Hp} (h : tv σ H fun v H1 => td σ H1 fun x H2 => ty σ H2 fun y H3 => ∃ a H4, x = .ref a ∧ DPut H3 a y v H4 ∧ nx σ H4) :
    sDPut td ty tv (Ends.mk nx rt bk ct) σ H := h
theorem k_dispC {k : Int} {v : V} {σ : L2.St} {H : Hp} {Q : VK} (q : ∀ p H', H p = none → Same H H' → H' p = some (.dK [(.inl k, v)]) → Q (.ref p) H') : tDisp [(tC (.int k), tC v)] σ H Q := fun p hp => by
  refine ⟨upd_same, [(.inl k, v)], rfl, by simp, ?_⟩
  refine q p _ hp ?_ upd_same
  rw [upd_upd]
  exact Same.new hp
/-- all but L stays -/
def Gx (L : Addr) (H H' : Hp) : Prop := ∀ b o, b ≠ L → H b = some o → H' b = some o
theorem Gx.trans {L : Addr} {H H1 H2 : Hp} (a : Gx L H H1) (b : Gx L H1 H2) : Gx L H H2 := fun c o n e => b c o n (a c o n e)
theorem Gx.same {L : Addr} {H H' : Hp} (a : Same H H') : Gx L H H' := fun c o _ e => a c o e
theorem Gx.put {L : Addr} {H : Hp} {o : HO} : Gx L H (upd H L o) := fun b u n e => by rw [upd_ne n]; exact e
end Nd

namespace Nd
open PySem PySem.Spec PyProof.Rows L2
/-! ### walks over a dict's entries -/
theorem k_lockS {t : TS} {nx bk ct : L2.St → Hp → Prop} {rt : VK} {σ : L2.St} {H : Hp} {d : Addr} {u : HO} (hd : H d = some u) (m : Mut (some u))
    (h : ∀ od, t (Ends.mk (fun σ' H' => H' d = some (.frz od u) ∧ nx σ' (upd H' d u)) (fun v H' => H' d = some (.frz od u) ∧ rt v (upd H' d u)) (fun σ' H' => H' d = some (.frz od u) ∧ bk σ' (upd H' d u))
      (fun σ' H' => H' d = some (.frz od u) ∧ ct σ' (upd H' d u))) σ (upd H d (.frz od u))) : tLock t (Ends.mk nx rt bk ct) σ H := ⟨d, u, hd, m, h⟩
theorem k_lockE {t : TE} {σ : L2.St} {H : Hp} {Q : VK} {d : Addr} {u : HO} (hd : H d = some u) (m : Mut (some u))
    (h : ∀ od, t σ (upd H d (.frz od u)) fun v H' => H' d = some (.frz od u) ∧ Q v (upd H' d u)) : tLockE t σ H Q := ⟨d, u, hd, m, h⟩
theorem k_items {td : TE} {σ : L2.St} {H : Hp} {R : It → Hp → Prop} (h : td σ H fun x H1 => ∃ d o kvs, x = .ref d ∧ H1 d = some (.frz o (.dK kvs)) ∧ R (Iti d o kvs) H1) : iItems td σ H R := h
theorem forIn_it {J : It} {n : Nat} {G : Hp → Prop} {Y : Nat → Hp → V → Hp → Prop} (w : Walk J n G Y) {g : TG} {tb : TS} {nx bk ct : L2.St → Hp → Prop} {rt : VK} {σ : L2.St} {H : Hp} (Pv : Nat → L2.St → Hp → Prop) (h0 : Pv 0 σ H)
    (hG : ∀ i σ H, i ≤ n → Pv i σ H → G H) (hs : ∀ i x σ H H', i < n → Pv i σ H → Y i H x H' → g x σ H' fun σ2 H2 => tb (Ends.mk (Pv (i + 1)) rt nx (Pv (i + 1))) σ2 H2) (hd : ∀ σ H, Pv n σ H → nx σ H) :
    ForIn J g tb (Ends.mk nx rt bk ct) σ H := for_it w Pv h0 hG hs hd
theorem pairs_mono {α β : Type} {F G : α → β → Prop} (h : ∀ a b, F a b → G a b) : ∀ {l : List α} {m : List β}, Paired F l m → Paired G l m
  | _, _, .nil => .nil
  | _, _, .cons a t => .cons (h _ _ a) (pairs_mono h t)
theorem pairs_len {α β : Type} {F : α → β → Prop} : ∀ {l : List α} {m : List β}, Paired F l m → l.length = m.length
  | _, _, .nil => rfl
  | _, _, .cons _ t => congrArg (· + 1) (pairs_len t)
def PairAt (H : Hp) (p : Addr) (kv : Key × V) : Prop := H p = some (.tup [kV kv.1, kv.2])
theorem filter_take {kvs : List (Key × V)} {c : Key × V → Bool} {i : Nat} {kv : Key × V} (h : kvs[i]? = some kv) : (kvs.take (i + 1)).filter c = (kvs.take i).filter c ++ if c kv = true then [kv] else [] := by
  rw [List.take_succ, h, List.filter_append]
  congr 1
  show List.filter c [kv] = _
  rw [List.filter_cons]
  rfl
theorem lcIn_items {K : PySem.W.Frag} {d : Addr} {od : Obj} {kvs : List (Key × V)} {i j : Nat} {tt : TT} {vs : List Nat} {σ : L2.St} {H1 : Hp} {Q : VK} (c : Key × V → Bool) (hd : H1 d = some (.frz od (.dK kvs))) (hz : kvs.length ≤ 50000)
    (h1 : ∀ x y, (((wipe σ vs).set i (some x)).set j (some y))[i]? = some (some x)) (h2 : ∀ x y, (((wipe σ vs).set i (some x)).set j (some y))[j]? = some (some y)) (hw : ∀ x y, wipe (((wipe σ vs).set i (some x)).set j (some y)) vs = wipe σ vs)
    (step : ∀ kv ∈ kvs, ∀ H2, Same H1 H2 → ∀ QT : Bool → Hp → Prop, (∀ H3, Same H2 H3 → QT (c kv) H3) → tt (((wipe σ vs).set i (some (kV kv.1))).set j (some kv.2)) H2 QT)
    (fin : ∀ p H' ps, H1 p = none → Same H1 H' → H' p = some (.lst (ps.map V.ref)) → Paired (PairAt H') ps (kvs.filter c) → Q (.ref p) H') :
    LcIn (Iti d od kvs) (gTup K 2 (gCons (gName i) (gCons (gName j) gNil))) tt (tTup (tCons (tVar i) (tCons (tVar j) tNil))) vs σ H1 Q := fun D hD =>
  lc_it walk_items (fun n H => Same H1 H ∧ ∃ ps : List Addr, H D = some (.lst (ps.map V.ref)) ∧ Paired (PairAt H) ps ((kvs.take n).filter c) ∧ ∀ p ∈ ps, p ≠ D)
    ⟨Same.new hD, [], upd_same, by rw [List.take_zero]; exact .nil, fun _ h => (nomatch h)⟩ (fun n H _ p => p.1 _ _ hd)
    (fun n x H H' hn p y => by
      obtain ⟨s1, ps, eD, hp, hoff⟩ := p
      obtain ⟨T, a, b, rfl, hT, rfl, ha, hb⟩ := y
      obtain ⟨kv, hkv⟩ : ∃ kv, kvs[n]? = some kv := ⟨kvs[n], by simp [hn]⟩
      simp only [hkv, Option.map_some] at ha hb
      cases ha
      cases hb
      have sT : Same H (upd H T (.tup [kV kv.1, kv.2])) := Same.new hT
      have hl : ps.length ≤ n := by
        rw [pairs_len hp]
        exact Nat.le_trans (List.length_filter_le _ _) (by rw [List.length_take]; omega)
      refine k_gtup (.inl (.inl upd_same)) rfl ?_
      refine k_gcons ?_
      refine k_gname ?_
      refine k_gcons ?_
      refine k_gname ?_
      refine k_gnil ?_
      refine ⟨hw _ _, step kv (List.mem_of_getElem? hkv) _ (s1.trans sT) _ fun H3 s3 => ?_⟩
      have eD3 := s3 _ _ (sT _ _ eD)
      have hp3 : Paired (PairAt H3) ps ((kvs.take n).filter c) := pairs_mono (fun a b h => s3 _ _ (sT _ _ h)) hp
      cases hc : c kv with
      | false =>
        rw [if_neg (by decide)]
        refine ⟨s1.trans (sT.trans s3), ps, eD3, ?_, hoff⟩
        rw [filter_take hkv, hc]
        simpa using hp3
      | true =>
        rw [if_pos rfl]
        refine k_tup (k_cons (k_var (h1 _ _) (k_cons (k_var (h2 _ _) (k_nil ⟨small64 (by simp), fun p hpn => ?_⟩)))))
        have nD : p ≠ D := fun e => by rw [e, eD3] at hpn; cases hpn
        have s4 : Same H3 (upd H3 p (.tup [kV kv.1, kv.2])) := Same.new hpn
        refine ⟨_, s4 _ _ eD3, ?_, fun b o e => ?_, ps ++ [p], ?_, ?_, fun z hz' => ?_⟩
        · rw [List.length_map]
          exact Nat.lt_of_le_of_lt hl (Nat.lt_of_lt_of_le hn (Nat.le_trans hz (by decide)))
        · rw [upd_ne (ne_of_none e hD)]
          exact s4 _ _ (s3 _ _ (sT _ _ (s1 _ _ e)))
        · rw [upd_same, List.map_append]
          rfl
        · rw [filter_take hkv, hc, if_pos rfl]
          have up : ∀ a b, a ≠ D → PairAt H3 a b → PairAt (upd (upd H3 p (.tup [kV kv.1, kv.2])) D (.lst (ps.map V.ref ++ [.ref p]))) a b := fun a b na h => by
            unfold PairAt
            rw [upd_ne na]
            exact s4 _ _ h
          refine Paired.snoc ?_ ?_
          · have : ∀ {l : List Addr} {m : List (Key × V)}, (∀ a ∈ l, a ≠ D) → Paired (PairAt H3) l m → Paired (PairAt (upd (upd H3 p (.tup [kV kv.1, kv.2])) D (.lst (ps.map V.ref ++ [.ref p])))) l m := by
              intro l m hl' h
              induction h with
              | nil => exact .nil
              | cons h t ih => exact .cons (up _ _ (hl' _ List.mem_cons_self) h) (ih fun a ha => hl' a (List.mem_cons_of_mem _ ha))
            exact this hoff hp3
          · unfold PairAt
            rw [upd_ne nD, upd_same]
        · rcases List.mem_append.mp hz' with h | h
          · exact hoff z h
          · rw [List.mem_singleton.mp h]
            exact nD)
    (fun H' p => by
      obtain ⟨s1, ps, eD, hp, _⟩ := p
      rw [List.take_length] at hp
      exact fin D H' ps hD s1 eD hp)
theorem pairs_sqT {K : PySem.W.Frag} {H : Hp} {ps : List Addr} {m : List (Key × V)} (h : Paired (PairAt H) ps m) : Paired (fun p (kv : Key × V) => SqT K H p [kV kv.1, kv.2]) ps m := pairs_mono (fun _ _ e => .inl (.inl e)) h
end Nd
namespace Nd
open PySem PySem.Spec PyProof.Rows L2
theorem lcIn_enum {K : PySem.W.Frag} {a : Addr} {xs : List V} {i j : Nat} {te : TE} {vs : List Nat} {σ : L2.St} {H1 : Hp} {Q : VK} (v : Nat → V) (hx : SqL K H1 a xs) (hz : xs.length ≤ 50000)
    (hw : ∀ x y, wipe (((wipe σ vs).set i (some x)).set j (some y)) vs = wipe σ vs)
    (step : ∀ n x H2, xs[n]? = some x → Same H1 H2 → ∀ QE : VK, (∀ H4, Same H2 H4 → QE (v n) H4) → te (((wipe σ vs).set i (some (.int (n : Nat)))).set j (some x)) H2 QE)
    (fin : ∀ p H', H1 p = none → Same H1 H' → H' p = some (.lst ((List.range xs.length).map v)) → Q (.ref p) H') :
    LcIn (Ite K a) (gTup K 2 (gCons (gName i) (gCons (gName j) gNil))) tYes te vs σ H1 Q := fun D hD =>
  lc_it walk_enum (fun n H => Same H1 H ∧ H D = some (.lst ((List.range n).map v))) ⟨Same.new hD, upd_same⟩ (fun n H _ p => p.1.seq hx)
    (fun n x H H' hn p y => by
      obtain ⟨s1, eD⟩ := p
      obtain ⟨T, p1, p2, rfl, hT, rfl, ha, hb⟩ := y
      obtain rfl : p1 = .int (n : Nat) := (Option.some.inj ha).symm
      have sT : Same H (upd H T (.tup [.int (n : Nat), p2])) := Same.new hT
      refine k_gtup (.inl (.inl upd_same)) rfl ?_
      refine k_gcons ?_
      refine k_gname ?_
      refine k_gcons ?_
      refine k_gname ?_
      refine k_gnil ?_
      refine ⟨hw _ _, ?_⟩
      refine k_tYes ?_
      rw [if_pos rfl]
      refine step n p2 _ hb (s1.trans sT) _ fun H4 s4 => ?_
      refine ⟨_, s4 _ _ (sT _ _ eD), ?_, fun b o e => ?_, ?_⟩
      · rw [List.length_map, List.length_range]
        exact Nat.lt_of_lt_of_le hn (Nat.le_trans hz (by decide))
      · rw [upd_ne (ne_of_none e hD)]
        exact s4 _ _ (sT _ _ (s1 _ _ e))
      · rw [upd_same, List.range_succ, List.map_append]
        rfl)
    (fun H' p => fin D H' hD p.1 p.2)
theorem sum_two (f : Nat → Int) : ∀ l : List Nat, (l.map fun i => 2 * f i).sum = 2 * (l.map f).sum
  | [] => rfl
  | a :: l => by
    rw [List.map_cons, List.sum_cons, List.map_cons, List.sum_cons, sum_two f l]
    omega
theorem sum_sumF (far : Int) : ∀ t : Nat, ((List.range (t + 1)).map fun i => (fst far i : Int) * 2 ^ (t - i)).sum = (sumF far t : Int)
  | 0 => by simp [sumF]
  | t + 1 => by
    rw [List.range_succ, List.map_append, List.sum_append]
    have e : ((List.range (t + 1)).map fun i => (fst far i : Int) * 2 ^ (t + 1 - i)) = (List.range (t + 1)).map fun i => 2 * ((fst far i : Int) * 2 ^ (t - i)) := by
      refine List.map_congr_left fun i hi => ?_
      have : i < t + 1 := List.mem_range.mp hi
      rw [show t + 1 - i = (t - i) + 1 by omega, Int.pow_succ]
      grind
    rw [e, sum_two fun i => (fst far i : Int) * 2 ^ (t - i), sum_sumF far t]
    simp [sumF]
theorem rep2 {q : Rat} (h1 : q.num.natAbs ≤ 999999999998) (h2 : q.den ≤ 999999999998) : PyData.showable (.list [fq q, fq q]) = true ∧ PyData.depth (.list [fq q, fq q]) ≤ 60 ∧ (PyData.shown (.list [fq q, fq q])).length ≤ sizeLine := by
  have l1 : q.num.natAbs.log2 < 1920 := Nat.lt_of_lt_of_le (PySem.Flt.log2_lt_of (k := 40) (by decide) (by omega)) (by decide)
  have l2 : q.den.log2 < 1920 := Nat.lt_of_lt_of_le (PySem.Flt.log2_lt_of (k := 40) (by decide) (by omega)) (by decide)
  have i1 : PyData.intsShort 13 (.int q.num) = true := intsShort_of_noneOrIn (lo := -999999999999) (hi := 999999999999) (by decide) (by decide) _ (by simp [noneOrIn]; omega)
  have i2 : PyData.intsShort 13 (.int (q.den : Int)) = true := intsShort_of_noneOrIn (lo := -999999999999) (hi := 999999999999) (by decide) (by decide) _ (by simp [noneOrIn]; omega)
  refine ⟨by simp [PyData.showable, PyData.showableAll, fq, l1, l2], by simp [PyData.depth, PyData.depthAll, fq], ?_⟩
  refine Nat.le_trans (shown_le13 ?_ ?_) (by decide)
  · simp [PyData.layable0, PyData.canLay0, PyData.canLayAll0, PyData.depth, PyData.depthAll, PyData.weight, PyData.weightAll, fq]
    split <;> split <;> omega
  · simp [PyData.intsShort, PyData.intsShortAll, fq] at i1 i2 ⊢
    exact ⟨i1, i2⟩
theorem divInt_le {u w : Int} (h0 : w ≠ 0) : (Rat.divInt u w).num.natAbs ≤ u.natAbs ∧ (Rat.divInt u w).den ≤ w.natAbs := by
  constructor
  · rw [Rat.num_divInt]
    rw [Int.natAbs_ediv_of_dvd]
    · refine Nat.le_trans (Nat.div_le_self _ _) ?_
      rw [Int.natAbs_mul, Int.natAbs_sign_of_ne_zero h0, Nat.one_mul]
      exact Nat.le_refl _
    · exact Int.dvd_mul_of_dvd_right (Int.gcd_dvd_right ..)
  · rw [Rat.den_divInt, if_neg h0]
    exact Nat.div_le_self _ _
theorem frAll_dp {K : PySem.W.Frag} {r : Addr} {H : Hp} : ∀ {ys : List V} {qs : List Rat}, Paired (Fr r H) ys qs → DpAll K H ys (qs.map fq)
  | _, _, .nil => .nil
  | _, _, .cons a t => .cons a.dp (frAll_dp t)
theorem lcIn_frs {K : PySem.W.Frag} {a : Addr} {xs : List V} {j : Nat} {te : TE} {vs : List Nat} {σ : L2.St} {H1 : Hp} {Q : VK} {r : Addr} {m : Nat} (q : Nat → Rat) (R : Rid r m H1) (hx : SqL K H1 a xs) (hz : xs.length ≤ 50000)
    (hw : ∀ x, wipe ((wipe σ vs).set j (some x)) vs = wipe σ vs)
    (step : ∀ n x H2, xs[n]? = some x → Same H1 H2 → ∀ QE : VK, (∀ H4 y, Same H2 H4 → FrN H2 H4 y (q n) → QE y H4) → te ((wipe σ vs).set j (some x)) H2 QE)
    (fin : ∀ p H' ys, H1 p = none → Same H1 H' → H' p = some (.lst ys) → Paired (Fr r H') ys ((List.range xs.length).map q) → Q (.ref p) H') :
    LcIn (Itl K a) (gName j) tYes te vs σ H1 Q := fun D hD =>
  lc_list (xs := xs) (fun n H => Same H1 H ∧ ∃ ys, H D = some (.lst ys) ∧ Paired (Fr r H) ys ((List.range n).map q)) ⟨Same.new hD, [], upd_same, .nil⟩ (fun n H _ p => p.1.seq hx)
    (fun n x H hn p => by
      obtain ⟨s1, ys, eD, hp⟩ := p
      have hlt : n < xs.length := (List.getElem?_eq_some_iff.mp hn).1
      refine ⟨hw _, ?_⟩
      refine k_tYes ?_
      rw [if_pos rfl]
      refine step n x H hn s1 _ fun H4 y s4 hy => ?_
      have fy := hy.fr (R.same s1)
      have eD4 := s4 _ _ eD
      refine ⟨ys, eD4, ?_, fun b o e => ?_, ys ++ [y], upd_same, ?_⟩
      · rw [pairs_len hp, List.length_map, List.length_range]
        exact Nat.lt_of_lt_of_le hlt (Nat.le_trans hz (by decide))
      · rw [upd_ne (ne_of_none e hD)]
        exact s4 _ _ (s1 _ _ e)
      · rw [List.range_succ, List.map_append]
        exact Paired.snoc (pairs_mono (fun _ _ h => Fr.put (h.same s4) eD4) hp) (fy.put eD4))
    (fun H' p => by
      obtain ⟨s1, ys, eD, hp⟩ := p
      exact fin D H' ys hD s1 eD hp)
theorem eq_lists {as bs : List Rat} (h : as = bs) : PyData.eqv (.list (as.map fq)) (.list (bs.map fq)) = true := by
  subst h
  simp only [PyData.eqv, eqvs_fq]
theorem k_iEnum {K : PySem.W.Frag} {ta : TA} {σ : L2.St} {H : Hp} {R : It → Hp → Prop} (h : ta σ H fun vs H1 => ∃ a xs, vs = [.ref a] ∧ SqL K H1 a xs ∧ R (Ite K a) H1) : iEnum K ta σ H R := h
theorem ch_pos : ∀ {n k : Nat}, k ≤ n → 0 < ch n k
  | _, 0, _ => by rw [ch_zero]; decide
  | 0, k + 1, h => absurd h (by omega)
  | n + 1, k + 1, h => by
    have := ch_pos (n := n) (k := k) (by omega)
    rw [ch_succ]
    omega
theorem two_cast (t : Nat) : (2 : Int) ^ t = ((2 ^ t : Nat) : Int) := by simp
theorem fsR_num {far : Int} {t : Nat} : (fsR far t).num = 0 ↔ fst far t = 0 := by
  rw [Rat.num_eq_zero, fsR, two_cast, Rat.divInt_ofNat, Rat.mkRat_eq_zero (by have := Nat.two_pow_pos t; omega)]
  omega
theorem fst_zero {far t : Nat} (h1 : 1 ≤ far) (ht : 1 ≤ t) : fst (far : Int) t = 0 ↔ (t < far ∨ ((t : Int) - far) % 2 = 1) := by
  obtain ⟨n, rfl⟩ : ∃ n, t = n + 1 := ⟨t - 1, by omega⟩
  have hb := ballot n (far : Int) (by omega)
  constructor
  · intro h0
    rw [h0] at hb
    by_cases z : n + 1 < far
    · exact .inl z
    · refine .inr ?_
      by_cases hp : ((far : Int) + ((n + 1 : Nat) : Int)) % 2 = 0
      · obtain ⟨k, hk⟩ := W_par hp (by omega)
        rw [hk, W_ch] at hb
        have p := ch_pos (n := n + 1) (k := k) (by omega)
        have : (2 * (k : Int) - ((n + 1 : Nat) : Int)) * (ch (n + 1) k : Int) ≠ 0 := Int.mul_ne_zero (by omega) (by omega)
        exact absurd hb.symm (by simpa using this)
      · omega
  · rintro (z | z)
    · exact fst_far _ _ (by omega)
    · rw [W_odd (n + 1) (far : Int) (by omega)] at hb
      have : ((n : Int) + 1) * (fst (far : Int) (n + 1) : Int) = 0 := by simpa using hb
      rcases Int.mul_eq_zero.mp this with e | e <;> omega
theorem den_dvd {u w : Int} (h0 : w ≠ 0) : ((Rat.divInt u w).den : Int) ∣ w := by
  rw [Rat.den_divInt, if_neg h0]
  refine Int.ofNat_dvd_left.mpr ?_
  exact Nat.div_dvd_of_dvd (Nat.gcd_dvd_left _ _)
theorem fst_self (t : Nat) (h : 1 ≤ t) : fst (t : Int) t = 1 := by
  obtain ⟨n, rfl⟩ : ∃ n, t = n + 1 := ⟨t - 1, by omega⟩
  have e := fst_eq n ((n + 1 : Nat) : Int) (by omega)
  rw [show ((n + 1 : Nat) : Int) - 1 = 2 * (n : Int) - n by omega, W_ch, ch_self, W_far n _ (by omega)] at e
  omega
theorem one_over (k : Nat) : (Rat.divInt 1 (2 ^ k)).num = 1 ∧ ((Rat.divInt 1 (2 ^ k)).den : Int) = 2 ^ k := by
  have h := halved_rat (u := 1) (v := 0) (k := k) (a := 0) (by decide)
  rw [Nat.min_eq_right (Nat.zero_le k)] at h
  refine ⟨h.1.symm.trans (by simp), h.2.symm⟩
end Nd

namespace Nd
open PySem PySem.Spec PyProof.Rows L2
/-! ### all that begin far off come there: by the first time, then again -/
def conv (far : Int) : Nat → Nat → Nat
  | 0, t => fst far 0 * W t 0
  | k + 1, t => conv far k t + fst far (k + 1) * W (t - (k + 1)) 0
theorem conv_zero (t : Nat) : ∀ k : Nat, conv 0 k t = W t 0
  | 0 => by simp [conv, fst]
  | k + 1 => by rw [conv, conv_zero t k, show fst 0 (k + 1) = 0 from if_pos rfl]; simp
theorem conv_succ {far : Int} (h : far ≠ 0) (t : Nat) : ∀ k : Nat, conv far (k + 1) (t + 1) = conv (far - 1) k t + conv (far + 1) k t
  | 0 => by
    have e0 : fst far 0 = 0 := if_neg h
    have e1 : fst far (0 + 1) = fst (far - 1) 0 + fst (far + 1) 0 := if_neg h
    show fst far 0 * W (t + 1) 0 + fst far (0 + 1) * W (t + 1 - (0 + 1)) 0 = fst (far - 1) 0 * W t 0 + fst (far + 1) 0 * W t 0
    rw [e0, e1, Nat.zero_mul, Nat.zero_add, Nat.add_mul]
    rfl
  | k + 1 => by
    have e1 : fst far (k + 1 + 1) = fst (far - 1) (k + 1) + fst (far + 1) (k + 1) := if_neg h
    show conv far (k + 1) (t + 1) + fst far (k + 1 + 1) * W (t + 1 - (k + 1 + 1)) 0 = (conv (far - 1) k t + fst (far - 1) (k + 1) * W (t - (k + 1)) 0) + (conv (far + 1) k t + fst (far + 1) (k + 1) * W (t - (k + 1)) 0)
    rw [conv_succ h t k, e1, Nat.add_mul, show t + 1 - (k + 1 + 1) = t - (k + 1) by omega]
    omega
theorem conv_all : ∀ (t : Nat) (far : Int), conv far t t = W t far
  | 0, far => by
    by_cases h : far = 0
    · subst h
      rfl
    · show fst far 0 * W 0 0 = W 0 far
      rw [show fst far 0 = 0 from if_neg h, show W 0 far = 0 from if_neg h, Nat.zero_mul]
  | t + 1, far => by
    by_cases h : far = 0
    · subst h
      exact conv_zero _ _
    · rw [conv_succ h, conv_all t, conv_all t, W_succ]
/-! ### where the first share is greatest -/
def fb (far most : Nat) : Nat := far + 2 * min ((most - far) / 2) ((far * far + 1 - 3 * far) / 6)
/-- two ticks on -/
theorem ch_two (t k : Nat) (hk : k ≤ t) : (ch (t + 2) (k + 1) : Int) * (((k : Int) + 1) * ((t : Int) + 1 - k)) = ((t : Int) + 2) * ((t : Int) + 1) * (ch t k : Int) := by
  have h1 := ch_mul (t + 1) k
  have e : (ch (t + 2) (k + 1) : Int) = (ch (t + 1) k : Int) + (ch (t + 1) (k + 1) : Int) := by rw [ch_succ]; omega
  rw [e]
  have h3 : ((t : Int) + 1 - k) * (ch (t + 1) k : Int) = ((t : Int) + 1) * (ch t k : Int) := by
    cases k with
    | zero => rw [ch_zero, ch_zero]; simp
    | succ j =>
      have a := ch_mul t j
      rw [ch_succ]
      simp only [Int.natCast_add, Int.natCast_one] at a ⊢
      grind
  simp only [Int.natCast_add, Int.natCast_one] at h1
  grind
theorem fst_two {far k : Nat} (h1 : 1 ≤ far) : (fst (far : Int) (far + 2 * k + 2) : Int) * (((k : Int) + 1) * ((far : Int) + k + 1)) = (((far : Int) + 2 * k) * ((far : Int) + 2 * k + 1)) * (fst (far : Int) (far + 2 * k) : Int) := by
  obtain ⟨n, hn⟩ : ∃ n, far + 2 * k = n + 1 := ⟨far + 2 * k - 1, by omega⟩
  have b1 := ballot n (far : Int) (by omega)
  have b2 := ballot (n + 2) (far : Int) (by omega)
  have w1 : W (n + 1) (far : Int) = ch (n + 1) k := by
    have := W_ch (n + 1) (far + k)
    rw [show (2 * ((far + k : Nat) : Int) - ((n + 1 : Nat) : Int)) = (far : Int) by omega] at this
    rw [this]
    exact ch_sym _ _ _ (by omega)
  have w2 : W (n + 2 + 1) (far : Int) = ch (n + 2 + 1) (k + 1) := by
    have := W_ch (n + 2 + 1) (far + k + 1)
    rw [show (2 * ((far + k + 1 : Nat) : Int) - ((n + 2 + 1 : Nat) : Int)) = (far : Int) by omega] at this
    rw [this]
    exact ch_sym _ _ _ (by omega)
  have c := ch_two (n + 1) k (by omega)
  rw [w1] at b1
  rw [w2] at b2
  rw [hn, show n + 1 + 2 = n + 2 + 1 by omega]
  have hf : (far : Int) = (n : Int) + 1 - 2 * k := by omega
  have p : ((n : Int) + 3) ≠ 0 := by omega
  simp only [Int.natCast_add, Int.natCast_one] at c b1 b2 ⊢
  rw [show n + 2 + 1 = n + 1 + 2 by omega] at b2 ⊢
  refine Int.eq_of_mul_eq_mul_left p ?_
  have b2' : ((n : Int) + 3) * (fst (far : Int) (n + 1 + 2) : Int) = (far : Int) * (ch (n + 1 + 2) (k + 1) : Int) := by
    have : ((n : Int) + ((2 : Nat) : Int) + 1) = (n : Int) + 3 := by omega
    rw [← this]
    exact b2
  have e1 : (far : Int) + k + 1 = (n : Int) + 1 + 1 - k := by omega
  have e2 : (far : Int) + 2 * k = (n : Int) + 1 := by omega
  rw [e1, e2]
  calc ((n : Int) + 3) * ((fst (far : Int) (n + 1 + 2) : Int) * (((k : Int) + 1) * ((n : Int) + 1 + 1 - k)))
      = (((n : Int) + 3) * (fst (far : Int) (n + 1 + 2) : Int)) * (((k : Int) + 1) * ((n : Int) + 1 + 1 - k)) := by grind
    _ = (far : Int) * ((ch (n + 1 + 2) (k + 1) : Int) * (((k : Int) + 1) * ((n : Int) + 1 + 1 - k))) := by rw [b2']; grind
    _ = (far : Int) * (((n : Int) + 1 + 2) * ((n : Int) + 1 + 1) * (ch (n + 1) k : Int)) := by rw [c]
    _ = ((n : Int) + 3) * (((n : Int) + 1) * ((n : Int) + 1 + 1) * (fst (far : Int) (n + 1) : Int)) := by grind
end Nd
namespace Nd
open PySem PySem.Spec PyProof.Rows L2
theorem FrN.same {H H1 H' : Hp} {v : V} {q : Rat} (h : FrN H H1 v q) (s : Same H1 H') : FrN H H' v q := by
  obtain ⟨a, h1, h2, h3⟩ := h
  exact ⟨a, h1, h2, s _ _ h3⟩
theorem FrN.put {D : Addr} {H H1 : Hp} {xs ys : List V} {v : V} {q : Rat} (h : FrN H H1 v q) (hD : H1 D = some (.lst xs)) : FrN H (upd H1 D (.lst ys)) v q := by
  obtain ⟨a, h1, h2, h3⟩ := h
  refine ⟨a, h1, h2, ?_⟩
  rw [upd_ne]
  · exact h3
  · rintro rfl
    rw [hD] at h3
    cases h3
theorem lcIn_frsR {lo : Int} {n : Nat} {j : Nat} {te : TE} {vs : List Nat} {σ : L2.St} {H1 : Hp} {Q : VK} (q : Nat → Rat) (hz : n ≤ 50000)
    (hw : ∀ x, wipe ((wipe σ vs).set j (some x)) vs = wipe σ vs)
    (step : ∀ i H2, i < n → Same H1 H2 → ∀ QE : VK, (∀ H4 y, Same H2 H4 → FrN H2 H4 y (q i) → QE y H4) → te ((wipe σ vs).set j (some (.int (lo + i)))) H2 QE)
    (fin : ∀ p H' ys, H1 p = none → Same H1 H' → H' p = some (.lst ys) → Paired (FrN H1 H') ys ((List.range n).map q) → Q (.ref p) H') :
    LcIn (Itr lo n) (gName j) tYes te vs σ H1 Q := fun D hD =>
  lc_range (lo := lo) (n := n) (fun i H => Same H1 H ∧ ∃ ys, H D = some (.lst ys) ∧ Paired (FrN H1 H) ys ((List.range i).map q)) ⟨Same.new hD, [], upd_same, .nil⟩
    (fun i H hi p => by
      obtain ⟨s1, ys, eD, hp⟩ := p
      refine ⟨hw _, ?_⟩
      refine k_tYes ?_
      rw [if_pos rfl]
      refine step i H hi s1 _ fun H4 y s4 hy => ?_
      have eD4 := s4 _ _ eD
      refine ⟨ys, eD4, ?_, fun b o e => ?_, ys ++ [y], upd_same, ?_⟩
      · rw [pairs_len hp, List.length_map, List.length_range]
        exact Nat.lt_of_lt_of_le hi (Nat.le_trans hz (by decide))
      · rw [upd_ne (ne_of_none e hD)]
        exact s4 _ _ (s1 _ _ e)
      · rw [List.range_succ, List.map_append]
        exact Paired.snoc (pairs_mono (fun _ _ h => FrN.put (h.same s4) eD4) hp) ((hy.from s1).put eD4))
    (fun H' p => by
      obtain ⟨s1, ys, eD, hp⟩ := p
      exact fin D H' ys hD s1 eD hp)
end Nd

namespace Nd
open PySem PySem.Spec PyProof.Rows L2
/-! ### enumerate of a tuple -/
def IteT (K : PySem.W.Frag) (a : Addr) : It where
  go n G := ∃ zs : List V, ∃ z : V, SqT K G a zs ∧ zs[n]? = some z
  yld n G v G' := ∃ q z, v = .ref q ∧ G q = none ∧ G' = upd G q (.tup [.int (n : Nat), z]) ∧ ∀ zs, SqT K G a zs → zs[n]? = some z
  stop n G := ∃ zs : List V, SqT K G a zs ∧ zs.length = n
/-- an enumerate at e over a tuple's walk at d -/
structure EnT (a e d : Addr) (n : Nat) (g : Heap) : Prop where
  en : ∃ was, IsEnum g e d ((n : Nat) : Int) was
  walk : g.IsTupleIter d a n
  ed : e ≠ d
  ae : a ≠ e
  ad : a ≠ d
theorem turnEnT {P : Program} {w : World} {K : PySem.W.Frag} {els : List Expr} {kk : Nat} {tp : Pos} (a e d : Addr) : L2.Turn P w K (.Tuple els kk tp) (IteT K a) [e, d] e (EnT a e d) where
  mem := List.mem_cons_self
  obj := fun n g S c hc => by
    obtain ⟨was, he⟩ := S.en
    obtain ⟨ob, ho, _, hd⟩ := S.walk
    rcases List.mem_cons.mp hc with rfl | hc
    · exact ⟨_, he, fun _ z => nomatch z⟩
    · obtain rfl := List.mem_singleton.mp hc
      exact ⟨ob, ho, fun _ z => by rw [hd] at z; cases z⟩
  keep := fun n g g' S k => by
    obtain ⟨was, he⟩ := S.en
    exact ⟨⟨was, k e List.mem_cons_self _ he⟩, S.walk.at fun o z => k d (by simp) o z, S.ed, S.ae, S.ad⟩
  item := by
    intro X rfl rfl rfl hc n pins s σ G E I hf S hg
    obtain ⟨was, he⟩ := S.en
    obtain ⟨zs, z, hq, hz⟩ := hg
    obtain ⟨its, rv, pt, _⟩ := I.tuple hq
    obtain ⟨u, hu, ru⟩ := rv.get hz
    have hle : e < s.heap.objs.size := Heap.lt_size he
    have hld : d < s.heap.objs.size := by obtain ⟨_, y, _⟩ := S.walk; exact Heap.lt_size y
    have tupA : s.heap.IsTuple a its.toArray := pt
    have nin : e ∉ [d, a] := by simp only [List.mem_cons, List.not_mem_nil, or_false, not_or]; exact ⟨S.ed, fun y => S.ae y.symm⟩
    refine wpAny_pyNext_enum_itemD (Draws.tuple (A := X.A.in1) (I.ok.hd hc) d a S.ad its.toArray) he ⟨S.walk, tupA⟩ (by simpa using (List.getElem?_eq_some_iff.mp hu).1) S.ed nin fun x g' tk hx ho hs' hT hsz hk => ?_
    obtain rfl : u = x := by
      have : its[n]? = some x := by simpa using hx
      exact Option.some.inj (hu.symm.trans this)
    refine ⟨_, rfl, wpAny_letOwnedTupleGo_enum (s := { s with heap := g', toks := tk + 1 }) ho fun g2 he2 sb => ?_⟩
    have eT : g2.get? s.heap.objs.size = some { cls := .type "tuple", data := .seq #[.int n tk, u] } := (sb.2 _ (Nat.ne_of_gt hle)).trans hT
    have ob : ObjOk X.prog X.w (upd G s.heap.objs.size (.tup [.int (n : Nat), z])) g2 s.heap.objs.size (.tup [.int (n : Nat), z]) :=
      ⟨show 2 ≤ sizeLine by decide, [.int n tk, u], .cons ⟨_, rfl⟩ (.cons ru .nil), ⟨_, eT, rfl, _, rfl⟩⟩
    have J : Inv X pins σ (upd G s.heap.objs.size (.tup [.int (n : Nat), z])) { s with heap := g2, toks := tk + 1 } :=
      I.turnedNew (ch := [e, d]) (fun b o nb y => (sb.2 b fun t => nb (by rw [t]; exact List.mem_cons_self)).trans (hk b o (fun t => nb (by rw [t]; exact List.mem_cons_self)) (fun t => nb (by rw [t]; simp)) y)) hf (Nat.le_refl _) ob
    refine ⟨.ref s.heap.objs.size, _, J, rfl, ⟨_, z, rfl, I.hok.fresh (Nat.le_refl _), rfl, fun ws hw => (I.tuple_inj hw hq).symm ▸ hz⟩, ⟨⟨u, ?_⟩, hs'.1.at fun o y => (sb.2 d S.ed.symm).trans y, S.ed, S.ae, S.ad⟩, fun b hb => ?_⟩
    · rw [show ((n + 1 : Nat) : Int) = (n : Int) + 1 from rfl]
      exact he2
    · rw [upd_ne]
      · exact (hf b hb).1
      · rcases List.mem_cons.mp hb with rfl | hb
        · exact Nat.ne_of_lt hle
        · rw [List.mem_singleton.mp hb]
          exact Nat.ne_of_lt hld
  done := by
    intro X rfl rfl rfl hc n pins s σ G E I hf S hg
    obtain ⟨was, he⟩ := S.en
    obtain ⟨zs, hq, hz⟩ := hg
    obtain ⟨its, rv, pt, _⟩ := I.tuple hq
    have tupA : s.heap.IsTuple a its.toArray := pt
    obtain ⟨f0, f1, f2, f3, f4, f5⟩ := hf d (by simp)
    have hl : its.toArray.size = n := by have := rv.length; simp; omega
    have D := Draws.tuple (prog := X.prog) (w := X.w) (A := X.A.in1) (I.ok.hd hc) d a S.ad its.toArray
    rw [hl] at D
    exact wpAny_pyNext_enum_endD D he ⟨S.walk, tupA⟩ fun g' eb => ⟨rfl, I.turned (t' := s.toks) (fun b o hb y => eb b o hb y) f0 f1 f3 f4 f5⟩
  self := fun A n s Q E S h => by
    obtain ⟨was, he⟩ := S.en
    exact wpAny_pyIter_enum he h
theorem callEnT {prog : Program} {w : World} {A : Around} {E : Value → Shared → Prop} {s : Shared} {a : Addr} {zs : Array Value} {Q : Value → Shared → Prop} (ht : s.heap.IsTuple a zs)
    (h : ∀ g, IsEnum g (s.heap.objs.size + 1) s.heap.objs.size 0 .none → g.IsTupleIter s.heap.objs.size a 0 → (∀ b o, s.heap.get? b = some o → g.get? b = some o) → Q (.ref (s.heap.objs.size + 1)) { s with heap := g }) :
    wpAny (model prog w) A (call (.type "enumerate") [.ref a]) Q E s := by
  have M : Meets (Builtin.«enumerate.__new__» ⟨[.type "enumerate", .ref a], []⟩) (fun _ R s => s.heap.IsTuple a zs ∧
      R (.ok (.ret (.ref (s.heap.push { cls := .type "tuple_iterator", data := .fields #[.ref a, .int 0 0] }).objs.size)))
        { s with heap := (s.heap.push { cls := .type "tuple_iterator", data := .fields #[.ref a, .int 0 0] }).push { cls := .type "enumerate", data := .fields #[.none, .bool false, .ref s.heap.objs.size, rawInt 0, .none, .none] } }) := .of_wp fun pr ww AA R sh hh => by
    obtain ⟨hp, g, dd, tk, os⟩ := sh
    obtain ⟨tA, k⟩ := hh
    have hsub := sub_enumerate
    have go : ∀ {A' : Around} {E' : Value → Shared → Prop} {Q' : Value → Shared → Prop}, Q' (.ref hp.objs.size) ⟨hp.push { cls := .type "tuple_iterator", data := .fields #[.ref a, .int 0 0] }, g, dd, tk, os⟩ → wpAny (model pr ww) A' (pyIter (.ref a)) Q' E' ⟨hp, g, dd, tk, os⟩ := fun k => wpAny_pyIter_tuple (s := ⟨hp, g, dd, tk, os⟩) tA k
    wp_walk using go
    refine wpAny_stack_any fun st => wpAny_pure ?_
    split
    · rename_i c _ _ _ _ _
      cases (c == Value.type "enumerate") <;> (wp_walk using go; exact ⟨_, rfl, k⟩)
    · wp_walk using go
      exact ⟨_, rfl, k⟩
  have hz : (s.heap.push { cls := .type "tuple_iterator", data := .fields #[.ref a, .int 0 0] }).objs.size = s.heap.objs.size + 1 := Heap.size_push ..
  refine callType_new F.called_enumerate (by decide) (F.typeCall_enumerate_1 _) (F.newCall_enumerate_1 _) (fun ob => F.args_object_init_2 ob _) F.entry_enumerate_new M ⟨ht, ?_⟩
  rw [hz]
  have e1 := Heap.get?_push_size (s.heap.push { cls := .type "tuple_iterator", data := .fields #[.ref a, .int 0 0] }) (o := { cls := .type "enumerate", data := .fields #[.none, .bool false, .ref s.heap.objs.size, rawInt 0, .none, .none] }) rfl
  rw [hz] at e1
  exact ⟨⟨_, e1, rfl⟩, h _ e1 ⟨_, Heap.get?_push_of_some _ (Heap.get?_push_size _ rfl), rfl, rfl⟩ fun b o y => Heap.get?_push_of_some _ (Heap.get?_push_of_some _ y)⟩
def iEnumT (K : PySem.W.Frag) (ta : TA) : TI := fun σ G R => ta σ G fun vs G1 => ∃ a zs, vs = [.ref a] ∧ SqT K G1 a zs ∧ R (IteT K a) G1
theorem pi_enumT {X : Cx} {e : Expr} {ta : TA} {p pos tp : Pos} {els : List Expr} {kk : Nat} (hg : Gl X "enumerate") (hm : X.mg "enumerate" = none) (ha : PA X [e] ta) (hs : starEach [e] X.env = [(false, eval e X.env)] := by rfl) :
    PI X (.Tuple els kk tp) (.Call (.Name "enumerate" p) [e] [] pos) (iEnumT X.K ta) := by
  refine ⟨fun pins s σ G R I k => Call_ (ld_blt I hg hm PyProof.Rows.boot_enumerate (PyProof.Rows.callWith_type1 (thn (ha.run pos pins s σ G _ I k) fun us t hh => ?_) hs rfl))⟩
  obtain ⟨vs, G1, I1, r1, a, zs, rfl, hq, q⟩ := hh
  cases r1 with
  | cons r rr =>
    cases rr
    cases r
    obtain ⟨its, rv, pt, _⟩ := I1.tuple hq
    have tupA : t.heap.IsTuple a its.toArray := pt
    have ha' : a < t.heap.objs.size := by obtain ⟨_, y, _⟩ := tupA; exact Heap.lt_size y
    refine callEnT tupA fun g he hi hk => wpAny_pyIter_enum he ?_
    refine ⟨t.heap.objs.size + 1, [t.heap.objs.size + 1, t.heap.objs.size], EnT a (t.heap.objs.size + 1) t.heap.objs.size, IteT X.K a, G1, rfl, I1.kept (t' := t.toks) hk, turnEnT a _ _, ⟨⟨_, he⟩, hi, Nat.succ_ne_self _, Nat.ne_of_lt (Nat.lt_succ_of_lt ha'), Nat.ne_of_lt ha'⟩, fun b hb => ?_, q⟩
    have le : t.heap.objs.size ≤ b := by
      rcases List.mem_cons.mp hb with rfl | hb
      · exact Nat.le_succ _
      · rw [List.mem_singleton.mp hb]
        exact Nat.le_refl _
    exact I1.fpOk le (I1.hok.fresh le)
theorem k_iEnumT {K : PySem.W.Frag} {ta : TA} {σ : L2.St} {H : Hp} {R : It → Hp → Prop} (h : ta σ H fun vs H1 => ∃ a xs, vs = [.ref a] ∧ SqT K H1 a xs ∧ R (IteT K a) H1) : iEnumT K ta σ H R := h
theorem walk_enumT {K : PySem.W.Frag} {a : Addr} {xs : List V} : Walk (IteT K a) xs.length (fun H => SqT K H a xs) (YPair (fun i => some (.int (i : Nat))) (fun i => xs[i]?)) where
  goes i H hi q := ⟨xs, xs[i], q, by simp [hi]⟩
  stops H q := ⟨xs, q, rfl⟩
  yields i H v H' _ q y := by
    obtain ⟨T, x, h1, h2, h3, h4⟩ := y
    exact ⟨T, _, x, h1, h2, h3, rfl, h4 xs q⟩
theorem walk_zipT {K : PySem.W.Frag} {a b : Addr} {xs ys : List V} {n : Nat} (h1 : xs.length = n) (h2 : ys.length = n) : Walk (RZ.ItzT K a b) n (fun H => SqT K H a xs ∧ SqT K H b ys) (YPair (fun i => xs[i]?) (fun i => ys[i]?)) where
  goes i H hi q := ⟨xs, ys, xs[i], ys[i], q.1, q.2, by simp [h1, hi], by simp [h2, hi]⟩
  stops H q := ⟨xs, ys, q.1, q.2, .inl (by omega)⟩
  yields i H v H' _ q y := by
    obtain ⟨T, x, z, g1, g2, g3, g4, g5⟩ := y
    exact ⟨T, x, z, g1, g2, g3, g4 xs q.1, g5 ys q.2⟩
theorem k_iZipA {K : PySem.W.Frag} {ta : TA} {σ : L2.St} {H : Hp} {R : It → Hp → Prop} (h : ta σ H fun vs H1 => ∃ a b xs ys, vs = [.ref a, .ref b] ∧ ((SqL K H1 a xs ∧ SqL K H1 b ys ∧ R (Itz K a b) H1) ∨ (SqT K H1 a xs ∧ SqT K H1 b ys ∧ R (RZ.ItzT K a b) H1))) : RZ.iZipA K ta σ H R := h
end Nd

namespace Nd
open PySem PySem.Spec PyProof.Rows L2
/-! ### an error that stays known behind its clause -/
/-- at a: an error of the class cls, its own dict d -/
def ExV (cls : Value) (d : Option Addr) (a : Addr) : HO := .ext fun g => ∃ (ob : Obj) (fs : Array Value), g.get? a = some ob ∧ Zc cls d ob ∧ ob.data = .fields fs
theorem exV_ok {P : Program} {w : World} {H : Hp} {g : Heap} {a : Addr} {cls : Value} {d : Option Addr} {ob : Obj} {fs : Array Value} (e : g.get? a = some ob) (z : Zc cls d ob) (hd : ob.data = .fields fs) : ObjOk P w H g a (ExV cls d a) :=
  ⟨⟨ob, fs, e, z, hd⟩, ⟨ob, e⟩, fun g1 g2 ⟨o1, f1, e1, z1, d1⟩ k => ⟨o1, f1, k _ e1, z1, d1⟩⟩
theorem Inv.track {X : Cx} {pins : List (Addr × Obj)} {σ : L2.St} {H : Hp} {s : Shared} {a : Addr} {cls : Value} {d : Option Addr} {ob : Obj} {fs : Array Value} (I : Inv X pins σ H s) (e : s.heap.get? a = some ob) (z : Zc cls d ob) (hd : ob.data = .fields fs)
    (n0 : X.s_0.heap.get? a = none) (n : H a = none) (nl : a ≠ X.env.locals) (np : ∀ p ∈ X.pn ++ pins, p.1 ≠ a) : Inv X pins σ (upd H a (ExV cls d a)) s where
  ok := I.ok
  os := I.os
  bare := I.bare
  base := {
    keep := I.base.keep
    slot := I.base.slot
    free := fun b o h1 h2 h3 => by
      rw [upd_ne (fun t => by rw [t, n0] at h1; cases h1)]
      exact I.base.free b o h1 h2 h3
    there := I.base.there
    tups := fun b xs h1 => by
      have h2 := I.base.tups b xs h1
      rw [upd_ne (ne_of_none h2 n)]
      exact h2
    frzs := fun b o u h1 => by
      have h2 := I.base.frzs b o u h1
      rw [upd_ne (ne_of_none h2 n)]
      exact h2
    tbls := fun b ps h1 => by
      obtain ⟨more, h2⟩ := I.base.tbls b ps h1
      exact ⟨more, by rw [upd_ne (ne_of_none h2 n)]; exact h2⟩ }
  loc := I.loc
  cell := I.cell
  free := by rw [upd_ne (Ne.symm nl)]; exact I.free
  freeC := fun x c hc => by
    rw [upd_ne]
    · exact I.freeC x c hc
    · rintro rfl
      obtain ⟨v, o2, h1, h2⟩ := I.cell x _ hc
      rw [e] at h1
      cases h1
      rw [hd] at h2
      cases h2
  pin := fun p hp => by
    obtain ⟨h1, h2, h3⟩ := I.pin p hp
    exact ⟨h1, by rw [upd_ne (np p hp)]; exact h2, h3⟩
  hok := L2.HOk.laidN I.hok (fun _ _ t => t) n (exV_ok e z hd)
  len := I.len
/-- what a clause wishes that keeps the error it caught -/
def wKeep (K : PySem.W.Frag) (c : Value) (i : Nat) (ts : Addr → Value → Option Addr → TS) (D : Ends) : WX := fun cls d σ H =>
  PySem.W.exmOne K cls c = some true ∧ ∀ a, H a = none → ts a cls d (Ends.mk (fun σ2 H2 => D.nx (σ2.set i none) (upd H2 a (ExV cls d a))) (fun _ _ => False) (fun _ _ => False) (fun _ _ => False)) (σ.set i (some (.ref a))) H
/-- try: body, which always raises / except x as n: suite, which ends -/
theorem ps_tryX {X : Cx} {x n : Str} {c : Value} {i : Nat} {body su : List Stmt} {b0 : Stmt} {q1 q2 q3 : Pos} {tb : WX → TS} {ts : Addr → Value → Option Addr → TS} (hst : X.stack = X.env :: X.outer) (hfr : X.env.frame = some X.env.locals) (hex : X.ex = [])
    (nd : X.N.Nodup) (hi : X.N[i]? = some n) (hln : X.env.kindOf n = some .local) (hc : Names X x c)
    (hB : ∀ (W : WX) (pn : List (Addr × Obj)) (xe : Value → Shared → Prop), Takes (X.tr pn xe) W → PassesOwn (model X.prog X.w) X.A X.env xe → PSs (X.tr pn xe) body (tb W))
    (hS : ∀ (a : Addr) (ob : Obj) (cls : Value) (d : Option Addr) (pn : List (Addr × Obj)), Zc cls d ob → (∃ fs, ob.data = .fields fs) → PSs (X.suite a ((a, ob) :: pn)) (b0 :: su) (ts a cls d)) :
    PS X (.Try body [.ExceptHandler (some (.Name x q1)) (some n) (b0 :: su) q2] [] [] q3) (fun D σ H => tb (wKeep X.K c i ts D) (Ends.mk (fun _ _ => False) (fun _ _ => False) (fun _ _ => False) (fun _ _ => False)) σ H) := by
  refine ⟨fun pins s σ H D I rd => ?_⟩
  have ok := I.ok
  have hA : X.A.frames = some (X.env :: X.outer) := by rw [ok.frames, hst]
  have own : Loc X.env.scope n := .inl hln
  refine wpAny_Try_except ?_
  let up1 : Value → Shared → Prop := fun e t => wpAny (model X.prog X.w) X.A (noteFrame e X.env) (fun _ t2 => wpAny (model X.prog X.w) X.A (setFlight e none) (fun _ t3 =>
    wpAny (model X.prog X.w) X.A (handleBy e X.env [.ExceptHandler (some (.Name x q1)) (some n) (b0 :: su) q2]) (SP X pins D) X.xe t3) X.xe t2) X.xe t
  refine wpAny_mono ((hB (wKeep X.K c i ts D) (X.pn ++ pins) up1 (fun u t xx => ?_) PassesOwn.looking).run [] s σ H _ (I.toTry _) rd) (fun fl t hsp => ?_) (fun e t h => h)
  · obtain ⟨a, B, sI, pns, σ1, H1, cls, d, rfl, J1, nb, upS, sky, na, os, bare, hyes, hrd⟩ := xx
    have J : Inv X pins σ1 H1 sI := J1.ofTry ok
    replace sky : Sky B (X.env :: X.outer) a (Zc cls d) X.env.locals t.heap := hst ▸ sky
    change wpAny (model X.prog X.w) X.A (noteFrame (.ref a) X.env) _ _ _
    refine Sky.land Zc.steady hA hfr sky fun g3 f3 u3 => ?_
    have J3 : Inv X pins σ1 H1 { t with heap := g3 } := J.landed nb f3.1 (upS.trans u3) os bare
    obtain ⟨o3, v3, e3, z3, d3⟩ := f3.there
    have frn : a ∉ frs (X.env :: X.outer) := fun hm => by
      obtain ⟨_, o', e', no⟩ := f3.2.2.1.mem hm
      rw [e3] at e'
      cases e'
      exact no _ d3
    have nL : a ≠ X.env.locals := fun z => frn (List.mem_filterMap.mpr ⟨X.env, List.mem_cons_self, by rw [hfr, z]⟩)
    have nF : a ∉ X.fs := fun hm => by
      obtain ⟨e, he, q⟩ := List.mem_filterMap.mp hm
      exact frn (List.mem_filterMap.mpr ⟨e, List.mem_cons_of_mem _ he, q⟩)
    have notI : ∀ o, sI.heap.get? a ≠ some o := fun o e => by
      have := nb a o e (hst ▸ frn)
      rw [f3.2.1] at this
      cases this
    have n0 : X.s_0.heap.get? a = none := by
      cases h0 : X.s_0.heap.get? a with
      | none => rfl
      | some o =>
        obtain ⟨o', e'⟩ := J.base.there a o h0 (by rw [hex]; exact List.not_mem_nil)
        exact (notI _ e').elim
    have npin : ∀ p ∈ X.pn ++ pins, p.1 ≠ a := fun p hp z => notI p.2 (z ▸ (J.pin p hp).1)
    have S3 := J3.suite e3 d3 na nL nF
    refine wpAny_handleBy_cons (codeAny_handlers_test ?_) (by intro q; cases q)
    have LT : PySem.W.Looks (model X.prog X.w) g3 (typeOf (.ref a)) cls := fun A Q E s k q => wpAny_typeOf_ref (k _ _ e3) (z3.1.symm ▸ q)
    have LM := PySem.W.exm_one (M := model X.prog X.w) J3.kIn LT hyes
    have nm : ∀ {Q : Value → Shared → Prop} {E : Value → Shared → Prop}, Q c { t with heap := g3 } → wpAny (model X.prog X.w) (X.A.mark (some (.ref a))) (eval (.Name x q1) X.env) Q E { t with heap := g3 } := fun {Q E} k => by
      obtain ⟨hg, hdb, hm | ⟨hm, hv, hnn⟩⟩ := hc
      · exact ld_glob (X := X.suite a ((a, o3) :: (X.pn ++ pins))) S3 hg hm k hdb
      · exact ld_blt (X := X.suite a ((a, o3) :: (X.pn ++ pins))) S3 hg hm hv k hnn hdb
    refine nm (LM.here ?_)
    refine codeAny_handlers_suite_as ?_
    refine HandSPX.lands_againZ f3 fun g4 f4 u4 => ?_
    have J4 : Inv X pins σ1 H1 { t with heap := g4 } := J.landed nb f4.1 ((upS.trans u3).trans u4) os bare
    obtain ⟨o4, v4, e4, z4, d4⟩ := f4.there
    refine store_ok (X := X.suite a ((a, o4) :: (X.pn ++ pins))) (v := .ref a) (J4.suite e4 d4 na nL nF) nd hi own rfl (fun s5 S5 => ?_) (.inr hln)
    refine wpAny_mono ((hS a o4 cls d (X.pn ++ pins) z4 ⟨_, d4⟩).run [] s5 _ H1 _ S5 (hrd a na)) (fun fl s6 hsp => ?_) (fun _ _ z => z.elim)
    cases fl with
    | next =>
      obtain ⟨σ6, H6, S6, q6⟩ := hsp
      obtain ⟨p1, p2, _⟩ := S6.pin (a, o4) (by simp)
      exact gone_ok (Inv.track (S6.unsuite ok) p1 z4 d4 n0 p2 nL npin) nd hi hln fun s7 J7 => ⟨_, _, J7, q6⟩
    | brk =>
      obtain ⟨σ6, H6, S6, q6⟩ := hsp
      exact q6.elim
    | cont =>
      obtain ⟨σ6, H6, S6, q6⟩ := hsp
      exact q6.elim
    | ret u =>
      obtain ⟨v6, σ6, H6, S6, r6, q6⟩ := hsp
      exact q6.elim
  · cases fl with
    | next =>
      obtain ⟨_, _, _, q⟩ := hsp
      exact q.elim
    | brk =>
      obtain ⟨_, _, _, q⟩ := hsp
      exact q.elim
    | cont =>
      obtain ⟨_, _, _, q⟩ := hsp
      exact q.elim
    | ret u =>
      obtain ⟨_, _, _, _, _, q⟩ := hsp
      exact q.elim
end Nd

namespace Nd
open PySem PySem.Spec PyProof.Rows L2
/-! ### an error that was kept: its class, its fields -/
theorem exV_inst {X : Cx} {pins : List (Addr × Obj)} {σ : L2.St} {H : Hp} {s : Shared} {a C d : Addr} {fs : List (Str × V)} (I : Inv X pins σ H s) (ha : H a = some (ExV (.ref C) (some d) a)) (hd : H d = some (.xd fs)) :
    ∃ (ob od : Obj) (m : Str → Option Value), PySem.W.InstAt s.heap a ob C (some od) ∧ (∀ f, PySem.W.lookIn f od = some (m f)) ∧ ∀ f, RelO (fs.lookup f) (m f) := by
  obtain ⟨⟨ob, vs, e, z, dt⟩, _⟩ := I.hok a _ ha
  obtain ⟨m, hns, hr⟩ : ∃ m, s.heap.Ns1 d m ∧ ∀ f, RelO (fs.lookup f) (m f) := I.hok d _ hd
  obtain ⟨od, ho, hl⟩ := lookIn_ns hns
  exact ⟨ob, od, m, ⟨e, z.1, by unfold PySem.W.notCls; rw [dt] <;> rfl, by rw [z.2]; exact ho⟩, hl, hr⟩
/-- isinstance(e, c), e a kept error of the class at C -/
def rIsX (K : PySem.W.Frag) : List V → Hp → VK → Prop := fun xs H Q => ∃ (a C d : Addr) (fs : List (Str × V)) (c : V) (cv : Value) (b : Bool), xs = [.ref a, c] ∧ H a = some (ExV (.ref C) (some d) a) ∧ H d = some (.xd fs) ∧ ExcC K C ∧ (PySem.W.clsIn K C).isSome = true ∧
  (∀ u, RelV c u → u = cv) ∧ PySem.W.kitOne K (.ref C) cv = some b ∧ Q (.bl b) H
theorem call_isX {X : Cx} : CallR X (.builtin "isinstance") (rIsX X.K) := by
  intro pins s σ H xs us Q I r h
  obtain ⟨a, C, d, fs, c, cv, b, rfl, ha, hd, T, hcl, hcv, e, q⟩ := h
  cases r with
  | cons rx rr =>
    cases rr with
    | cons rt rr =>
      cases rr
      cases rx
      obtain rfl := hcv _ rt
      obtain ⟨ob, od, m, J, _⟩ := exV_inst I ha hd
      exact PySem.W.kia_one (PySem.W.kitx_exc (od := some od) hcl T.hg T.hk T.hs T.ha T.hn T.ht T.hm) I.kIn J e (fun z => nomatch z) fun tk => ⟨.bl b, H, I.kept (t' := tk) fun _ _ z => z, rfl, q⟩
/-- e.f, e a kept error -/
def tXg (K : PySem.W.Frag) (f : Str) (te : TE) : TE := fun σ H Q => te σ H fun x H1 => ∃ (a C d : Addr) (fs : List (Str × V)) (v : V), x = .ref a ∧ H1 a = some (ExV (.ref C) (some d) a) ∧ H1 d = some (.xd fs) ∧ XfC K C ∧ PySem.W.findIn K (.ref C) f = some none ∧ fs.lookup f = some v ∧ Q v H1
theorem pe_xg {X : Cx} {e : Expr} {te : TE} {pos : Pos} {n : Str} (he : PE X e te) (hb : attributeBase e n X.env (eval e X.env) = eval e X.env := by rfl) : PE X (.Attribute e n pos) (tXg X.K n te) := by
  refine ⟨fun pins s σ H Q I h => ?_⟩
  refine attr_of hb (thn (he.run pins s σ H _ I h) fun u s1 ⟨x, H1, I1, rx, a, C, d, fs, v, ex, ha, hd, T, hno, l, q⟩ => ?_)
  subst ex
  obtain rfl : u = Value.ref a := rx
  obtain ⟨ob, od, m, J, hl, hr⟩ := exV_inst I1 ha hd
  obtain ⟨u, hu, ru⟩ := RelO.some_of (v := v) (o := m n) (l ▸ hr n)
  exact HandSPX.exc_get I1.kIn J T.ga T.gg T.exC (PySem.W.findObj_own T.hdC hno rfl (by rw [hl n, hu])) (handed_of ru) ⟨v, H1, I1.tok _, ru, q⟩
end Nd
namespace Nd
open PySem PySem.Spec PyProof.Rows L2
/-! ### an error's making: its base's __init__, read off a class of the program that has none itself -/
structure HeC (K : PySem.W.Frag) (C : Addr) : Prop where
  rd : PySem.W.readsIn K C (.type "type") = true
  ga : PySem.W.specialIn K (.ref C) "__getattribute__" = some (some (.builtin "type.__getattribute__"))
  at_ : PySem.W.findCls K (.ref C) (.type "type") "__init__" = some (.val (.builtin "ValueError.__init__"))
theorem pe_heinit {X : Cx} {e : Expr} {es : List Expr} {ta : TA} {x : Str} {C : Addr} {p1 p2 pos : Pos} {pl : Sem Bool} (R : HeC X.K C) (hg : Gl X x) (hm : X.mg x = some (.ref C)) (ha : PA X (e :: es) ta)
    (hdb : (x == ("__debug__" : Str)) = false := by decide)
    (hc : eval (.Call (.Attribute (.Name x p1) "__init__" p2) (e :: es) [] pos) X.env = (do
      let ov ← eval (.Name x p1) X.env
      standAt p2.atName
      let (f, first) ← holding [ov] (getMethod ov "__init__" pl)
      callWith pos f first (backTo pos (starEach (e :: es) X.env)) (backToKw pos (keywordEach [] X.env))) := by rfl)
    (he : starEach (e :: es) X.env = (false, eval e X.env) :: starEach es X.env := by rfl) (hpl : (backTo pos (starEach es X.env)).any (·.1) = false := by rfl) :
    PE X (.Call (.Attribute (.Name x p1) "__init__" p2) (e :: es) [] pos) (tVeI X.K ta) := by
  refine ⟨fun pins s σ H Q I h => PySem.W.methodCall_KW (ld_glob I hg hm ?_ hdb) hc⟩
  refine PySem.W.method_cls I.kIn R.ga (PySem.W.cls_value I.kIn R.rd R.at_ (by decide +kernel) ?_)
  change wpAny _ _ (callWith pos (Value.builtin "ValueError.__init__") [] (backTo pos (starEach (e :: es) X.env)) []) _ _ _
  refine PyProof.Rows.callWith_method1 (thn (ha.run pos pins _ σ H _ (I.tok _) h) fun us t hh => ?_) he hpl
  obtain ⟨vs, H1, I1, r1, a, D, ws, rfl, hl, T, ea, q⟩ := hh
  cases r1 with
  | @cons _ u0 _ ur ra rr =>
    obtain rfl : u0 = Value.ref a := ra
    refine oinit_ok T I1 ea ?_ fun s' J => ⟨.non, H1, J, rfl, q⟩
    rw [← Paired.length rr, sizeLine_eq]
    omega
end Nd

namespace Nd
open PySem PySem.Spec PyProof.Rows L2 LamX
/-! ### a lambda, perhaps with one default, handed to a def -/
abbrev fnL (q : Str) (ps : Arguments) (bo : Expr) (sc : Scope) (cl : List (Str × Addr)) (pm cv ct dv : Value) : FuncData :=
  { name := "<lambda>", qualname := q, params := ps, body := .expr bo, scope := sc, globals := mainGlobals, closure := cl, defaults := dv, kwdefaults := .none, doc := .none, pyModule := pm, annotations := none, code := cv, closureTuple := ct, builtins := builtinsNs }
abbrev obL (q : Str) (ps : Arguments) (bo : Expr) (sc : Scope) (cl : List (Str × Addr)) (pm cv ct dv : Value) : Obj := { cls := .type "function", data := .func (fnL q ps bo sc cl pm cv ct dv) }
section
variable {M : Model} {A : Around} {E : Value → Shared → Prop} {s : Shared} {q : Str} {ps : Arguments} {bo : Expr} {sc : Scope} {env : Env} {c P : Addr} {tab : Array Value} {pos : Pos} {ln : Nat} {mg : Str → Option Value} {cl : List (Str × Addr)} {dv : Value} {Q : Value → Shared → Prop}
theorem tailNew (hcl : closureFor sc env = pure cl) (hge : env.globals = mainGlobals) (hns : s.heap.Ns mainGlobals mg) (hcode : env.code = .ref c) (C : PySem.W.CodeHd s.heap c P) (hP : s.heap.get? P = some { cls := .none, data := .fields tab }) (ok : TriplesOk tab.toList)
    (no : codeAmong pos tab.toList = none) (hgP : mainGlobals ≠ P) (hbi : s.heap.BuiltinsAt mg P)
    (k : ∀ c' ct g tk, Heap.ExtBut P s.heap g → s.heap.objs.size ≤ c' → c' < g.objs.size → g.CodeRec (.ref c') q → g.get? P = some { cls := .none, data := .fields (tab ++ #[rawInt pos.line, rawInt pos.col, .ref c']) } →
      Q (.ref g.objs.size) { s with heap := g.push (obL q ps bo sc cl ((mg "__name__").getD .none) (.ref c') ct dv), toks := tk }) :
    wpAny M A (makeTail "<lambda>" q ps (.expr bo) sc env dv .none none pos ln) Q E s := by
  obtain ⟨bm, ob, b1, b2, _, b3, b4, b5, b6, b7⟩ := hbi
  unfold makeTail
  rw [hcl, hge]
  refine wpAny_bind (wpAny_pure ?_)
  cases cl
  case nil =>
    rw [show ([] : List (Str × Addr)).isEmpty = true from rfl, if_pos rfl]
    refine wpAny_bind (wpAny_pure (wpAny_bind (wpAny_functionCodeX hcode (C.code hP ok) (C.tab hP) no fun c' g tk hx h1 h2 _ h3 h4 _ => ?_)))
    have hn2 := hns.extBut hx hgP
    exact wpAny_bind (wpAny_builtinsFor hn2 b1 b2 (hx _ _ b3 b4) b5 b6 b7 (wpAny_bind (wpAny_nsGet hn2 (wpAny_bind (wpAny_pure (wpAny_newObj_type (k c' .none g tk hx h1 h2 h3 h4.2) (by size_fits)))))))
  case cons y r =>
    rw [show (y :: r).isEmpty = false from rfl, if_neg Bool.false_ne_true]
    refine wpAny_bind (wpAny_newTextTuple (wpAny_bind ?_))
    have C2 : ∀ o2 : Obj, PySem.W.CodeHd (s.heap.push o2) c P := fun o2 => C.keeps fun b o e => Heap.get?_push_of_some o2 e
    refine wpAny_functionCodeX hcode ((C2 _).code (Heap.get?_push_of_some _ hP) ok) ((C2 _).tab (Heap.get?_push_of_some _ hP)) no fun c' g tk hx h1 h2 _ h3 h4 _ => ?_
    have hn2 := (hns.push _).extBut hx hgP
    have hx2 : Heap.ExtBut P s.heap g := fun b o nb e => hx b o nb (Heap.get?_push_of_some _ e)
    have le := h1
    rw [Heap.size_push] at le
    exact wpAny_bind (wpAny_builtinsFor hn2 b1 b2 (hx2 _ _ b3 b4) b5 b6 b7 (wpAny_bind (wpAny_nsGet hn2 (wpAny_bind (wpAny_pure (wpAny_newObj_type (k c' _ g tk hx2 (Nat.le_of_succ_le le) h2 h3 h4.2) (by size_fits)))))))
theorem tailHit {cv : Value} (hcl : closureFor sc env = pure cl) (hge : env.globals = mainGlobals) (hns : s.heap.Ns mainGlobals mg) (hcode : env.code = .ref c) (C : PySem.W.CodeHd s.heap c P) (hP : s.heap.get? P = some { cls := .none, data := .fields tab }) (ok : TriplesOk tab.toList)
    (yes : codeAmong pos tab.toList = some cv) (hbi : s.heap.BuiltinsAt mg P)
    (k : ∀ (ct : Value) (g : Heap) (tk : Nat), (∀ b o, s.heap.get? b = some o → g.get? b = some o) → s.heap.objs.size ≤ g.objs.size → Q (.ref g.objs.size) { s with heap := g.push (obL q ps bo sc cl ((mg "__name__").getD .none) cv ct dv), toks := tk }) :
    wpAny M A (makeTail "<lambda>" q ps (.expr bo) sc env dv .none none pos ln) Q E s := by
  obtain ⟨bm, ob, b1, b2, _, b3, b4, b5, b6, b7⟩ := hbi
  unfold makeTail
  rw [hcl, hge]
  refine wpAny_bind (wpAny_pure ?_)
  cases cl
  case nil =>
    rw [show ([] : List (Str × Addr)).isEmpty = true from rfl, if_pos rfl]
    refine wpAny_bind (wpAny_pure (wpAny_bind (wpAny_functionCode_hit hcode (C.code hP ok) yes ?_)))
    exact wpAny_bind (wpAny_builtinsFor hns b1 b2 b4 b5 b6 b7 (wpAny_bind (wpAny_nsGet hns (wpAny_bind (wpAny_pure (wpAny_newObj_type (k .none s.heap s.toks (fun _ _ e => e) (Nat.le_refl _)) (by size_fits)))))))
  case cons y r =>
    rw [show (y :: r).isEmpty = false from rfl, if_neg Bool.false_ne_true]
    refine wpAny_bind (wpAny_newTextTuple (wpAny_bind ?_))
    have C2 : ∀ o2 : Obj, PySem.W.CodeHd (s.heap.push o2) c P := fun o2 => C.keeps fun b o e => Heap.get?_push_of_some o2 e
    refine wpAny_functionCode_hit hcode ((C2 _).code (Heap.get?_push_of_some _ hP) ok) yes ?_
    refine wpAny_bind (wpAny_builtinsFor (hns.push _) b1 b2 (Heap.get?_push_of_some _ b4) b5 b6 b7 (wpAny_bind (wpAny_nsGet (hns.push _) (wpAny_bind (wpAny_pure (wpAny_newObj_type (k _ _ s.toks (fun b o e => Heap.get?_push_of_some _ e) ?_) (by size_fits)))))))
    rw [Heap.size_push]
    exact Nat.le_succ _
end
section
variable {X : Cx} {pins : List (Addr × Obj)} {σ : L2.St} {H : Hp} {s : Shared}
theorem nofrs (I : Inv X pins σ H s) {f : Addr} (hf : s.heap.objs.size ≤ f) : f ∉ frs X.stack := fun z => by
  rcases List.mem_cons.mp (I.stkSub _ z) with rfl | e
  · exact absurd I.lt (Nat.not_lt.mpr hf)
  · exact I.nofs hf e
/-- a lambda's object is laid, its code object new or told by the table -/
theorem lamTail {T : List (Addr × Str)} {c P : Addr} {ps : Arguments} {bo : Expr} {sc : Scope} {pos : Pos} {ln : Nat} {dv : Value} {E Q : Value → Shared → Prop} (I : Inv X pins σ H s) (TB : TabB X.base X.mg c P) (hcode : X.env.code = .ref c)
    (hm : (P, X.env.qual ++ "<lambda>") ∈ T) (hu : ∀ p ∈ T, p.1 = P → p.2 = X.env.qual ++ "<lambda>") (hT : Tabs T H) (hfree : ∀ y ∈ sc.names, y.2 = .free → ∃ c, X.env.cells.lookup y.1 = some c)
    (k : ∀ (f c' : Addr) (pm ct : Value) (H1 : Hp) (t : Shared), Inv X pins σ H1 t → ExtN H H1 → Tabs T H1 → t.heap.get? f = some (obL (X.env.qual ++ "<lambda>") ps bo sc (cloFrom X.env.cells sc.names []) pm (.ref c') ct dv) → H1 f = none → f ∉ frs X.stack → H1 c' = some (CodeO c' (X.env.qual ++ "<lambda>")) → Q (.ref f) t) :
    wpAny (model X.prog X.w) X.A (makeTail "<lambda>" (X.env.qual ++ "<lambda>") ps (.expr bo) sc X.env dv .none none pos ln) Q E s := by
  obtain ⟨tab, hP, ok, among⟩ := hT _ hm
  have eP : s.heap.get? P = some { cls := .none, data := .fields tab } := I.hok P _ hP
  have bi : s.heap.BuiltinsAt X.mg P := TB.bm.keeps I.bk
  cases hc : codeAmong pos tab.toList
  case some cv =>
    obtain ⟨c', rfl, hco⟩ := among pos cv hc
    refine tailHit (mg := X.mg) (c := c) (P := P) (tab := tab) (closure_ok hfree) I.ok.glob (I.mod.glob.keeps I.bk) hcode (TB.code.keeps I.bk) eP ok hc bi fun ct g tk hk le => ?_
    exact k _ c' _ ct H _ (I.kept fun b o e => Heap.get?_push_of_some _ (hk b o e)) (ExtN.refl H) hT (Heap.get?_push_size _ rfl) (I.hok.fresh le) (nofrs I le) hco
  case none =>
    refine tailNew (mg := X.mg) (c := c) (P := P) (tab := tab) (closure_ok hfree) I.ok.glob (I.mod.glob.keeps I.bk) hcode (TB.code.keeps I.bk) eP ok hc TB.gP bi fun c' ct g tk hx h1 h2 hr ht => ?_
    obtain ⟨c2, oc, vs, t, e2, hoc, hd, hv⟩ := hr
    cases e2
    have le : s.heap.objs.size ≤ g.objs.size := Nat.le_trans h1 (Nat.le_of_lt h2)
    have nC : H c' = none := I.hok.fresh h1
    have I1 := inv_table (t' := tk) (more := #[rawInt pos.line, rawInt pos.col, .ref c']) (h' := g.push (obL (X.env.qual ++ "<lambda>") ps bo sc (cloFrom X.env.cells sc.names []) ((X.mg "__name__").getD .none) (.ref c') ct dv)) I hP
      (fun b o nb e => Heap.get?_push_of_some _ (hx b o nb e)) (Heap.get?_push_of_some _ ht) h1 ⟨oc, vs, t, Heap.get?_push_of_some _ hoc, hd, hv⟩
    have hE : ExtN H (upd (upd H P (.tbl (tab ++ #[rawInt pos.line, rawInt pos.col, .ref c']))) c' (CodeO c' (X.env.qual ++ "<lambda>"))) := fun b o e n => by
      have nb : b ≠ P := fun z => n tab (Option.some.inj (e.symm.trans (z ▸ hP)))
      rw [upd_ne (ne_of_none e nC), upd_ne nb]
      exact e
    have eL : (tab ++ #[rawInt pos.line, rawInt pos.col, .ref c']).toList = tab.toList ++ [rawInt pos.line, rawInt pos.col, .ref c'] := by simp
    refine k g.objs.size c' _ ct _ _ I1 hE (fun p hp => ?_) (Heap.get?_push_size _ rfl) ?_ (nofrs I le) upd_same
    · by_cases hb : p.1 = P
      · rw [hu p hp hb, hb]
        refine ⟨_, by rw [upd_ne (ne_of_none hP nC), upd_same], eL ▸ PySem.TriplesOk_snoc _ _ _ _ ok, fun p2 cv z => ?_⟩
        rw [eL] at z
        rcases among_app _ ok z with y | y
        · obtain ⟨c0, rfl, e0⟩ := among p2 cv y
          exact ⟨c0, rfl, hE _ _ e0 codeO_ne⟩
        · exact ⟨c', y, upd_same⟩
      · obtain ⟨tab2, a1, a2, a3⟩ := hT p hp
        refine ⟨tab2, by rw [upd_ne (ne_of_none a1 nC), upd_ne hb]; exact a1, a2, fun p2 cv z => ?_⟩
        obtain ⟨c0, rfl, e0⟩ := a3 p2 cv z
        exact ⟨c0, rfl, hE _ _ e0 codeO_ne⟩
    · have n2 : g.objs.size ≠ P := Nat.ne_of_gt (Nat.lt_of_lt_of_le (Heap.lt_size eP) le)
      rw [upd_ne (Nat.ne_of_gt h2), upd_ne n2]
      exact I.hok.fresh le
end
end Nd

namespace Nd
open PySem PySem.Spec PyProof.Rows L2 LamX
section
variable {X : Cx} {pins : List (Addr × Obj)} {σ : L2.St} {H HZ : Hp} {s s1 : Shared} {ps : Arguments} {bo : Expr} {sc : Scope} {pos : Pos} {Q : Value → Shared → Prop}
theorem lamEval0 (hdef : defaultsOf ps X.env = ([], [])) (k : wpAny (model X.prog X.w) X.A (makeTail "<lambda>" (X.env.qual ++ "<lambda>") ps (.expr bo) sc X.env .none .none none pos pos.line) Q X.xe s) :
    wpAny (model X.prog X.w) X.A (eval (.Lambda ps bo sc pos) X.env) Q X.xe s := by
  refine PySem.W.kla_eval hdef ?_
  rw [makeFunction_eq]
  simp only [List.zip_nil_right, List.filterMap_nil, List.isEmpty_nil, if_true, pure_bind]
  exact k
abbrev tupO (u : Value) : Obj := { cls := .type "tuple", data := .seq #[u] }
theorem lamEval1 {e : Expr} {x0 : V} (I : Inv X pins σ H s) (hdef : defaultsOf ps X.env = ([eval e X.env], [])) (he : PE X e (tC x0))
    (k : ∀ (D : Addr) (u : Value) (t : Shared), RelV x0 u → Inv X ((D, tupO u) :: pins) σ H t → wpAny (model X.prog X.w) X.A (makeTail "<lambda>" (X.env.qual ++ "<lambda>") ps (.expr bo) sc X.env (.ref D) .none none pos pos.line) Q X.xe t) :
    wpAny (model X.prog X.w) X.A (eval (.Lambda ps bo sc pos) X.env) Q X.xe s := by
  rw [arm_eval_Lambda, hdef]
  show wpAny _ _ (do let dv ← (do let v ← eval e X.env; return v :: (← holding [v] (pure []))); let kdv ← holding dv (pure []); makeFunction "<lambda>" (X.env.qual ++ "<lambda>") ps (.expr bo) sc X.env dv kdv [] pos pos.line) _ _ _
  refine wpAny_bind (wpAny_bind (thn (he.run pins s σ H (fun v H1 => v = x0 ∧ H1 = H) I ⟨rfl, rfl⟩) fun u t ⟨v, H1, I1, r, ev, eH⟩ => ?_))
  subst ev
  subst eH
  refine wpAny_bind (wpAny_holding (wpAny_pure (wpAny_pure (wpAny_bind (wpAny_holding (wpAny_pure ?_))))))
  rw [makeFunction_eq]
  simp only [List.zip_nil_right, List.filterMap_nil, List.isEmpty_cons, List.isEmpty_nil, if_true, Bool.false_eq_true, if_false, pure_bind]
  refine wpAny_bind (wpAny_newTextTuple ?_)
  obtain ⟨hp, g, d, tk, os⟩ := t
  refine k hp.objs.size u _ r ?_
  have I2 : Inv X pins σ H1 ⟨hp.push (tupO u), g, d, tk, os⟩ := I1.kept (t' := tk) fun b o e => Heap.get?_push_of_some _ e
  refine I2.pins_of fun p hp2 => ?_
  rcases List.mem_cons.mp hp2 with rfl | hp2
  · exact ⟨Heap.get?_push_size _ rfl, I1.hok.fresh (Nat.le_refl _), Nat.ne_of_gt I1.lt, I1.nofs (Nat.le_refl _), fun v z => by cases z⟩
  · exact I2.pin p (List.mem_append_right _ hp2)
/-- a lambda's names: captured ones, globals, and parameters that the def has not -/
structure LamD (N : List Str) (so sc : Scope) : Prop where
  kind : sc.kind = .function
  co : sc.isCoroutine = false
  gen : sc.isGenerator = false
  own : ∀ y ∈ sc.names, y.2 ≠ .cell ∧ (y.2 = .local → y.1 ∉ N)
  free : ∀ y ∈ sc.names, y.2 = .free → so.names.lookup y.1 = some .cell ∨ so.names.lookup y.1 = some .free
def lamDB (N : List Str) (so sc : Scope) : Bool :=
  decide (sc.kind = .function) && !sc.isCoroutine && !sc.isGenerator && sc.names.all fun y => !decide (y.2 = .cell) && (!decide (y.2 = .local) || !decide (y.1 ∈ N)) && (!decide (y.2 = .free) || decide (so.names.lookup y.1 = some .cell) || decide (so.names.lookup y.1 = some .free))
theorem lamD_by {N : List Str} {so sc : Scope} (h : lamDB N so sc = true) : LamD N so sc := by
  unfold lamDB at h
  simp only [Bool.and_eq_true, Bool.or_eq_true, Bool.not_eq_true', decide_eq_true_eq, decide_eq_false_iff_not, List.all_eq_true] at h
  obtain ⟨⟨⟨h1, h2⟩, h3⟩, h4⟩ := h
  refine ⟨h1, h2, h3, fun y hy => ⟨(h4 y hy).1.1, fun e => ?_⟩, fun y hy e => ?_⟩
  · rcases (h4 y hy).1.2 with z | z
    · exact absurd e z
    · exact z
  · rcases (h4 y hy).2 with (z | z) | z
    · exact absurd e z
    · exact .inl z
    · exact .inr z
theorem LamD.has (L : LamD X.N X.env.scope sc) (ok : X.Ok) : ∀ y ∈ sc.names, y.2 = .free → ∃ c, X.env.cells.lookup y.1 = some c := fun y hy e => (L.free y hy e).elim (fun k => ok.has _ (.inl k)) fun k => ok.has _ (.inr k)
theorem lamStart {A : Around} {outer : List Env} {E : XK} {f c' : Addr} {g : Heap} {tk : Nat} {m : Str → Option Value} (I : Inv X pins σ H s) (L : LamD X.N X.env.scope sc) (e0 : Env0 X.prog X.w X.K X.mg X.base A outer s1 HZ) (hd : A.handled = none)
    (un : Un (frs X.stack) [] H HZ s.heap s1.heap) (hns : g.Ns s1.heap.objs.size m) (kp : ∀ b o, s1.heap.get? b = some o → g.get? b = some o) : Inv (lamCx X A outer s1 HZ E sc f c') [] σ HZ { s1 with heap := g, toks := tk } := by
  have hf := L.has I.ok
  have one : ∀ {y : Str} {c : Addr}, (cloFrom X.env.cells sc.names []).lookup y = some c → X.env.cells.lookup y = some c := fun {y c} e => by
    rcases cloFrom_mem (PySem.mem_of_lookup e) with z | ⟨z1, z2⟩
    · cases z
    · obtain ⟨c1, hc⟩ := hf _ z1 rfl
      have hc : X.env.cells.lookup y = some c1 := hc
      rw [hc]
      congr 1
      exact (z2.trans (by rw [hc] <;> rfl)).symm
  have two : ∀ {y : Str}, sc.names.lookup y = some .free → ∃ c, (cloFrom X.env.cells sc.names []).lookup y = some c := fun {y} hl => mem_lookup (cloFrom_has (cells := X.env.cells) (acc := []) (PySem.mem_of_lookup hl))
  have cellK : ∀ {c : Addr} {v : Option Value}, H c = none → s.heap.IsCell c v → g.IsCell c v := fun {c v} n ⟨o, ho, hd⟩ => by
    obtain ⟨sl, q⟩ := un.any ho n List.not_mem_nil
    exact ⟨_, kp _ _ q, hd⟩
  have noA : ∀ b : Addr, b ∉ (lamCx X A outer s1 HZ E sc f c').ex := fun b z => absurd (show b ∈ ([] : List Addr) from z) List.not_mem_nil
  have okL : (lamCx X A outer s1 HZ E sc f c').Ok := ⟨e0.mod, L.kind, rfl, rfl, Nat.le_refl _, fun y z c e1 e2 => I.ok.inj y z c (one e1) (one e2), fun y hy => by
      rcases (show sc.names.lookup y = some .cell ∨ sc.names.lookup y = some .free from hy) with hy | hy
      · exact absurd rfl (L.own _ (PySem.mem_of_lookup hy)).1
      · exact two hy, fun y c z _ => Bool.noConfusion (show false = true from z), fun _ => hd, Around.frames_deeper e0.frames, .inr ⟨rfl, rfl⟩, fun b z => absurd z (noA b), e0.bs, e0.bsz, fun b _ _ => noA b, fun b z => absurd z (noA b), e0.funs, e0.frf⟩
  refine ⟨okL, rfl, e0.bare, Un.kept kp, ⟨_, hns, fun i y v e1 e2 e3 => ?_⟩, fun y c e => ?_, e0.hok.fresh (Nat.le_refl _), fun y c e => ?_, fun p hp => absurd (show p ∈ ([] : List (Addr × Obj)) ++ [] from hp) List.not_mem_nil, e0.hok.kept kp, I.len⟩
  · rcases (show Vis sc y from e3) with k | k | k
    · exact absurd (List.mem_of_getElem? e1) ((L.own _ (PySem.mem_of_lookup k)).2 rfl)
    · exact absurd rfl (L.own _ (PySem.mem_of_lookup k)).1
    · have fr := L.free _ (PySem.mem_of_lookup k) rfl
      obtain ⟨m0, hn, hl⟩ := I.loc
      obtain ⟨w', r, q⟩ := hl i y v e1 e2 (fr.elim (fun k => .inr (.inl k)) fun k => .inr (.inr k))
      obtain ⟨c2, h2⟩ := two k
      refine ⟨w', r, .inr ⟨.inr k, c2, h2, ?_⟩⟩
      rcases q with ⟨k2, _⟩ | ⟨_, c3, e', z⟩
      · replace k2 : X.env.scope.names.lookup y = some .local := k2
        rcases fr with k3 | k3 <;> · rw [show X.env.scope.names.lookup y = _ from k3] at k2; cases k2
      · have h3 := one h2
        obtain rfl : c2 = c3 := Option.some.inj (h3.symm.trans e')
        exact cellK (I.freeC y _ h3) z
  · obtain ⟨w', z⟩ := I.cell y c (one e)
    exact ⟨w', cellK (I.freeC y c (one e)) z⟩
  · obtain ⟨v, o, ho, hd⟩ := I.cell y c (one e)
    exact un.free c o ho (I.freeC y c (one e)) List.not_mem_nil
end
end Nd

namespace Nd
open PySem PySem.Spec PyProof.Rows L2 LamX
section
variable {X : Cx} {pins : List (Addr × Obj)} {σ : L2.St} {H : Hp} {s : Shared} {ps : Arguments} {bo : Expr} {sc : Scope}
/-- what a call without arguments binds, wherever what was untracked at s stands still -/
def LamBinds (X : Cx) (H : Hp) (s : Shared) (sc : Scope) (fd : FuncData) : Prop :=
  ∀ t : Shared, (∀ b o, s.heap.get? b = some o → H b = none → b ∉ frs X.stack → t.heap.get? b = some o) → ∃ bs, BindsTo t fd ⟨[], []⟩ bs ∧ ∀ y ∈ bs, sc.names.lookup y.1 = some .local
/-- a(), in the def that was given the lambda -/
theorem pe_actL {CXg : CXT} {Eg : XK} {Ng : List Str} {qg : Str} {sg : Scope} {g f c' : Addr} {cdg pm ct dv : Value} {k i : Nat} {a : Str} {pn : List (Addr × Obj)} {xe : Value → Shared → Prop} {W : WX} {E : L2.St → XK} {tb : L2.St → TE} {p1 p2 : Pos}
    (I : Inv X pins σ H s) (L : LamD X.N X.env.scope sc) (hf : s.heap.get? f = some (obL (X.env.qual ++ "<lambda>") ps bo sc (cloFrom X.env.cells sc.names []) pm (.ref c') ct dv)) (hfn : H f = none) (hfr : f ∉ frs X.stack)
    (hB : LamBinds X H s sc (fnL (X.env.qual ++ "<lambda>") ps bo sc (cloFrom X.env.cells sc.names []) pm (.ref c') ct dv))
    (tk : Takes ((cxOf CXg X.prog X.w X.K X.mg X.base Ng qg sg g cdg X.A X.stack s H Eg).tr pn xe) W) (hW : ∀ cls d σ' H', E σ' cls d H' → W cls d σ' H') (hr : Room (k + 1) (X.A.deeper (envOfC qg sg s.heap.objs.size g cdg))) (hG : X.A.guards = some [])
    (hbody : ∀ (σ' : L2.St) (A : Around) (outer : List Env) (t : Shared) (G : Hp), A.guards = some [] → Room k (A.deeper (lamEnv X sc t.heap.objs.size f c')) → PE (lamCx X A outer t G (E σ') sc f c') bo (tb σ'))
    (hN : Ng[i]? = some a) (hv : Vis sg a) (hd : (a == ("__debug__" : Str)) = false := by decide) (hcd : (a == ("__classdict__" : Str)) = false := by decide) :
    PE ((cxOf CXg X.prog X.w X.K X.mg X.base Ng qg sg g cdg X.A X.stack s H Eg).tr pn xe) (.Call (.Name a p1) [] [] p2)
      (fun σZ HZ Q => σZ[i]? = some (some (.ref f)) ∧ HZ c' = some (CodeO c' (X.env.qual ++ "<lambda>")) ∧ tb σZ σ HZ Q) := by
  refine ⟨fun pinsZ sZ σZ HZ Q IZ ⟨hs, hc, ht⟩ => ?_⟩
  refine wpAny_Call_Name_kw (thn ((pe_var (pos := p1) (i := i) hN hv hd hcd).run pinsZ sZ σZ HZ (fun v H1 => v = .ref f ∧ H1 = HZ) IZ ⟨.ref f, hs, rfl, rfl⟩) fun u t ⟨v, H1, I1, r1, ev, eH⟩ => ?_)
  subst ev
  rw [eH] at I1
  obtain rfl : u = Value.ref f := r1
  have un : Un (frs X.stack) [] H HZ s.heap t.heap := I1.base
  have stays : ∀ b o, s.heap.get? b = some o → H b = none → b ∉ frs X.stack → t.heap.get? b = some o := fun b o e n nf => un.keep b o e n nf List.not_mem_nil
  have of1 := stays f _ hf hfn hfr
  refine PySem.W.callWith_F0 ⟨_, _, _, _, of1⟩ ?_
  obtain ⟨⟨oc, vs, tq, hoc, hdc, hvc⟩, _, _⟩ := I1.hok c' _ hc
  obtain ⟨bs, bt, bl⟩ := hB t stays
  have rc : codeAny (model X.prog X.w) (X.A.deeper (envOfC qg sg s.heap.objs.size g cdg)) (.call (.ref f) ⟨[], []⟩) (CR (L2.CX X.prog X.w) (envOfC qg sg s.heap.objs.size g cdg :: X.stack) X.prog X.w HZ t Q (E σZ)) t := by
    refine PySem.W.kla_callFunE hr.depth of1 rfl L.co L.gen rfl ⟨c', oc, vs, tq, rfl, hoc, hdc, hvc⟩ (bt _ _ _ _ (wpAny_newFunctionEnv (fun y hy => (L.own y hy).1) bl (fun h1 hns hsb => ⟨I1.nolimit.fresh _ hsb, ?_⟩) L.kind))
    change codeAny _ _ (.expr bo (lamEnv X sc t.heap.objs.size f c')) _ _
    have kp : ∀ b o, t.heap.get? b = some o → h1.get? b = some o := fun b o e => hsb.extBut b o (Nat.ne_of_lt (Heap.lt_size e)) (Heap.get?_push_of_some _ e)
    have J : Inv (lamCx X (X.A.deeper (envOfC qg sg s.heap.objs.size g cdg)) (envOfC qg sg s.heap.objs.size g cdg :: X.stack) t HZ (E σZ) sc f c') [] σ HZ { t with heap := h1, toks := t.toks + bs.length } := lamStart I L I1.env0 hr.hd un hns kp
    refine PySem.W.kla_codeExpr (wpAny_mono ((hbody σZ (X.A.deeper (envOfC qg sg s.heap.objs.size g cdg)) (envOfC qg sg s.heap.objs.size g cdg :: X.stack) t HZ hG (hr.deeper _)).run [] _ _ HZ Q J ht) (fun v s' ⟨w', H', J', rv, q⟩ => ?_) fun e s' hq => hq)
    exact ⟨w', H', J'.os, J'.bare, J'.base, J'.hok, rv, q⟩
  refine wpAny_call (codeAny_mono rc fun r s' hq => ?_)
  rcases r with e | (_ | _ | _ | u)
  · exact tk e s' (XE.of_call I1 (fun cls d H' h => hW cls d σZ H' h) hq)
  all_goals first | exact False.elim hq | exact I1.after hq
/-- the def that is given a lambda: a calls it; TT: what it makes of the lambda's reading -/
def GivesG (X : Cx) (Ng : List Str) (x : Str) (sg : Scope) (g : Addr) (cdg : Value) (bg : List Stmt) (a : Str) (q : Str) (k : Nat) (TT : (XK → Hp → VK → Prop) → Hp → VK → Prop) : Prop :=
  ∀ (f c' : Addr) (s : Shared) (H : Hp) (Q : VK) (tl : XK → Hp → VK → Prop),
    (∀ (W : WX) (pn : List (Addr × Obj)) (xe : Value → Shared → Prop) (p1 p2 : Pos), Takes ((cxOf L2.CX0 X.prog X.w X.K X.mg X.base Ng x sg g cdg X.A X.stack s H L2.E0).tr pn xe) W →
      PE ((cxOf L2.CX0 X.prog X.w X.K X.mg X.base Ng x sg g cdg X.A X.stack s H L2.E0).tr pn xe) (.Call (.Name a p1) [] [] p2) (fun σZ HZ Q => σZ[0]? = some (some (.ref f)) ∧ HZ c' = some (CodeO c' q) ∧ tl (fun cls d H' => W cls d σZ H') HZ Q)) →
    H c' = some (CodeO c' q) → Room k (X.A.deeper (envOfC x sg s.heap.objs.size g cdg)) → TT tl H Q →
    ∃ t, PSs (cxOf L2.CX0 X.prog X.w X.K X.mg X.base Ng x sg g cdg X.A X.stack s H L2.E0).nox bg t ∧ t (Ends.mk (fun _ H' => Q .non H') Q (fun _ _ => False) (fun _ _ => False)) (L2.start Ng [.ref f]) H
/-- x(lambda: bo), or x(lambda p=e: bo) -/
theorem pe_lamL {T : List (Addr × Str)} {TT : (XK → Hp → VK → Prop) → Hp → VK → Prop} {x a : Str} {g c P : Addr} {k : Nat} {pg : Arguments} {bg : List Stmt} {sg : Scope} {dV kV doc pm cdv ct oc : Value} {an od : Option Addr} {osl : Array (Option Value)} {Ng : List Str} {t : XK → TE} {p lpos pos : Pos}
    (hg : Gl X x) (hm : X.mg x = some (.ref g)) (hk : PySem.W.keepIn X.K (.ref g) = true) (lk : X.K.lookup g = some ⟨oc, od, .func (PySem.W.fnOf x x pg bg sg dV kV doc pm an cdv ct), osl⟩) (hcg : PySem.W.codeIn X.K cdv x = true) (hb : L2.Binds X.K (PySem.W.fnOf x x pg bg sg dV kV doc pm an cdv ct) [a] [])
    (Sg : FnScope Ng [a] sg) (hNg : Ng[0]? = some a) (hva : Vis sg a) (hGv : GivesG X Ng x sg g cdv bg a (X.env.qual ++ "<lambda>") (k + 1) TT) (hG : X.A.guards = some [])
    (TB : TabB X.base X.mg c P) (hcode : X.env.code = .ref c) (hmT : (P, X.env.qual ++ "<lambda>") ∈ T) (hu : ∀ p ∈ T, p.1 = P → p.2 = X.env.qual ++ "<lambda>") (hr : Room (k + 2) X.A) (L : LamD X.N X.env.scope sc)
    (hdef : (defaultsOf ps X.env = ([], []) ∧ ∀ (q : Str) (cl : List (Str × Addr)) (pm cv ct : Value), bindArgs (fnL q ps bo sc cl pm cv ct .none) ⟨[], []⟩ = pure []) ∨
      ∃ (e : Expr) (x0 : V) (y : Str), defaultsOf ps X.env = ([eval e X.env], []) ∧ PE X e (tC x0) ∧ sc.names.lookup y = some .local ∧
        ∀ (q : Str) (cl : List (Str × Addr)) (pm cv ct u : Value) (D : Addr), ∃ kk, bindArgs (fnL q ps bo sc cl pm cv ct (.ref D)) ⟨[], []⟩ = seqItems? (.ref D) >>= kk ∧ kk (some #[u]) = pure [(y, u)])
    (hbody : ∀ (A : Around) (outer : List Env) (s : Shared) (H : Hp) (E : XK) (f c' : Addr), A.guards = some [] → Room k (A.deeper (lamEnv X sc s.heap.objs.size f c')) → PE (lamCx X A outer s H E sc f c') bo (t E))
    (hdb : (x == ("__debug__" : Str)) = false := by decide) (hd : (a == ("__debug__" : Str)) = false := by decide) (hcd : (a == ("__classdict__" : Str)) = false := by decide) :
    PE X (.Call (.Name x p) [.Lambda ps bo sc lpos] [] pos) (tLam T TT t) := by
  refine ⟨fun pins s σ H Q I ⟨hT, rd⟩ => ?_⟩
  refine wpAny_Call_Name_kw (ld_glob I hg hm ?_ hdb)
  refine PySem.W.callWith_K (h₀ := X.base) I.ok.mod.kin hk ?_ (by rfl) (by rfl)
  change wpAny _ _ (spliced ((false, eval (.Lambda ps bo sc lpos) X.env) :: backTo pos (starEach [] X.env))) _ _ s
  have go : ∀ (dv : Value) (pins2 : List (Addr × Obj)) (t0 : Shared), Inv X pins2 σ H t0 → (∀ t1 H1, Inv X pins2 σ H1 t1 → Inv X pins σ H1 t1) →
      (∀ (t1 : Shared) (H1 : Hp) (q : Str) (cl : List (Str × Addr)) (pm cv ct : Value), Inv X pins2 σ H1 t1 → LamBinds X H1 t1 sc (fnL q ps bo sc cl pm cv ct dv)) →
      wpAny (model X.prog X.w) X.A (makeTail "<lambda>" (X.env.qual ++ "<lambda>") ps (.expr bo) sc X.env dv .none none lpos lpos.line) (fun v s' => wpAny (model X.prog X.w) X.A (spliced (backTo pos (starEach [] X.env))) (fun vs s2 => X.K.In s2.heap ∧ wpAny (model X.prog X.w) X.A (call (.ref g) (v :: vs)) (EP X pins σ Q) X.xe s2) X.xe s') X.xe t0 := fun dv pins2 t0 I0 back lb => by
    refine lamTail I0 TB hcode hmT hu hT (L.has I0.ok) fun f c' pm' ct' H1 t1 I1 eN T1 hf hfn hfr hco => ?_
    have J1 := back t1 H1 I1
    refine Calls.spliced_nil ⟨J1.kIn, ?_⟩
    have rc : codeAny (model X.prog X.w) X.A (.call (.ref g) ⟨[.ref f], []⟩) (CR L2.CX0 X.stack X.prog X.w H1 t1 Q L2.E0) t1 := by
      refine run_ofS (N := Ng) (ps := [a]) (us := [.ref f]) (vs := [.ref f]) lk hcg Sg hr J1.env0 (hb t1 [.ref f] J1.kIn rfl) (.cons rfl .nil) rfl fun hr' => ?_
      obtain ⟨t', ht', hq'⟩ := hGv f c' t1 H1 Q (fun E H' Q' => t E σ H' Q') (fun W pn xe p1 p2 tk => pe_actL (i := 0) (E := fun σZ cls d H' => W cls d σZ H') (tb := fun σZ => t (fun cls d H' => W cls d σZ H')) J1 L hf hfn hfr (lb t1 H1 _ _ _ _ _ I1) tk (fun _ _ _ _ h => h) hr' hG (fun σ' A outer s H hg2 hr2 => hbody A outer s H _ f c' hg2 hr2) hNg hva hd hcd) hco hr' (rd H1 eN T1)
      exact ⟨t', ht'.nox, hq'⟩
    refine wpAny_call (codeAny_mono rc fun r s2 hq => ?_)
    rcases r with e | (_ | _ | _ | u)
    all_goals first | exact (show False from hq).elim | exact J1.after hq
  refine Calls.spliced_cons ?_
  rcases hdef with ⟨e0, b0⟩ | ⟨e, x0, y, e1, he, hy, b1⟩
  · exact lamEval0 e0 (go .none pins s I (fun _ _ h => h) fun t1 H1 q cl pm cv ct I1 t2 st => ⟨[], BindsTo.of_eq (b0 q cl pm cv ct), fun z hz => absurd hz List.not_mem_nil⟩)
  · refine lamEval1 I e1 he fun D u t0 r I' => go (.ref D) _ t0 I' (fun t1 H1 h => h.pins_of fun p hp => h.pin p (List.mem_append_right _ (List.mem_cons_of_mem _ hp))) fun t1 H1 q cl pm cv ct I1 t2 st => ?_
    obtain ⟨g1, g2, g3, g4, _⟩ := I1.pin (D, tupO u) (List.mem_append_right _ List.mem_cons_self)
    have nf : D ∉ frs X.stack := fun z => (List.mem_cons.mp (I1.stkSub _ z)).elim g3 g4
    have e2 := st D _ g1 g2 nf
    obtain ⟨kk, k1, k2⟩ := b1 q cl pm cv ct u D
    refine ⟨[(y, u)], fun M A E Q k => ?_, fun z hz => ?_⟩
    · rw [k1]
      refine wpAny_bind (wpAny_seqItems e2 rfl ?_)
      rw [k2]
      exact wpAny_pure k
    · rw [List.mem_singleton.mp hz]
      exact hy
end
end Nd

namespace Nd
open PySem PySem.Spec PyProof.Rows L2 LamX
/-! ### a law's own call, where code tables are told -/
theorem fields_nil {b : Addr} {g : Heap} {o : Obj} (e : g.get? b = some o) (z : g.get? b = some ({ cls := .none, data := .fields #[] } : Obj)) : o = { cls := .none, data := .fields #[] } := Option.some.inj (e.symm.trans z)
theorem entT {P : Program} {w : World} {K : PySem.W.Frag} {mg mb : Str → Option Value} {CX : CXT} {k : Nat} {fa a c P1 : Addr} {fd : FuncData} {x : Str} {sp : Sp} {s₁ : Shared} {vs : List Value} {ns : List Int}
    (KX : K.In s₁.heap) (hns : s₁.heap.Ns mainGlobals mg) (hb : s₁.heap.Ns builtinsNs mb) (hbb : ∀ y : Str, y ≠ "__name__" → mb y = bootBuiltins y) (hlim : s₁.heap.NoLimit) (hg : s₁.gens = #[])
    (tP : s₁.heap.get? P1 = some { cls := .none, data := .fields #[] }) (nP : K.lookup P1 = none) (cP : PySem.W.CodeHd s₁.heap c P1)
    (bm : ∃ (m : Addr) (om : Obj), mg "__builtins__" = some (.ref m) ∧ m ≠ builtinsNs ∧ s₁.heap.get? m = some om ∧ om.cls = .type "module" ∧ om.dict = some builtinsNs ∧ om.data = .plain)
    (ha : s₁.heap.get? a = some { cls := .type "list", data := .seq vs.toArray }) (hi : IntsAre vs ns) (hl : ns.length ≤ sizeLine) (hr : Room k callerA)
    (F : ∀ base : Heap, K.In base → base.Ns mainGlobals mg → TabB base mg c P1 → FnG P w K mg base CX k fa fd [x] sp)
    (hbind : ∀ (s : Shared) (u : Value), BindsTo s fd ⟨[u], []⟩ [(x, u)])
    (hsp : ∀ H : Hp, H P1 = some (.tbl #[]) → SqL K H a (ns.map V.int) → sp [.ref a] H (fun v _ => v = .bl true) E0)
    (hCX : ∀ H e s', CX [] H s₁ E0 e s' → False) :
    codeAny (model P w) callerA (.call (.ref fa) ⟨[.ref a], []⟩) (fun r s' => r = .ok (.ret (.bool true)) ∧ OldK s₁.heap s'.heap ∧ s'.os = s₁.os ∧ AllBare s'.gens) s₁ := by
  have rv := vals_ints hi
  have aP : a ≠ P1 := fun z => by
    have q := fields_nil (z ▸ ha) tP
    cases congrArg Obj.data q
  obtain ⟨H, eP, eA, eO⟩ : ∃ H : Hp, H P1 = some (.tbl #[]) ∧ (H a = if K.lookup a = none then some (.frz { cls := .type "list", data := .seq vs.toArray } (.lst (ns.map V.int))) else none) ∧ ∀ b, b ≠ P1 → b ≠ a → H b = none :=
    ⟨fun b => if b = P1 then some (.tbl #[]) else if b = a then (if K.lookup a = none then some (.frz { cls := .type "list", data := .seq vs.toArray } (.lst (ns.map V.int))) else none) else none,
      if_pos rfl, (if_neg aP).trans (if_pos rfl), fun b n1 n2 => (if_neg n1).trans (if_neg n2)⟩
  have hid : ∀ {b : Addr} {o : Obj}, s₁.heap.get? b = some o → (b = a → K.lookup a ≠ none) → b ≠ P1 → (hidT s₁.heap H).get? b = some o := fun {b o} e n1 n2 => by
    refine hidT_get e ?_
    by_cases z : b = a
    · rw [z, eA, if_neg (n1 z)]
    · exact eO b n2 z
  have ofDict : ∀ {b : Addr} {o : Obj} {es : Array DictEntry} {ep : Nat}, s₁.heap.get? b = some o → o.data = .dict es ep → (hidT s₁.heap H).get? b = some o := fun {b o es ep} e d => by
    refine hid e (fun z => ?_) fun z => ?_
    · rw [z, ha] at e
      cases e
      cases d
    · rw [z] at e
      rw [fields_nil e tP] at d
      cases d
  have toNs : ∀ {b : Addr} {m : Str → Option Value}, s₁.heap.Ns b m → (hidT s₁.heap H).Ns b m := fun {b m} ⟨o, es, ep, e, d, r⟩ => ⟨o, es, ep, ofDict e d, d, r⟩
  have inB : K.In (hidT s₁.heap H) := fun b o e => hid (KX b o e) (fun z => by rw [← z, e]; exact fun q => nomatch q) fun z => by rw [z, nP] at e; cases e
  obtain ⟨mc, l1, l2⟩ := hlim
  have md : Mod K mg (hidT s₁.heap H) := ⟨inB, toNs hns, ⟨mb, toNs hb, hbb⟩, mc, toNs l1, l2⟩
  have nG : mainGlobals ≠ P1 := fun z => by
    obtain ⟨o, es, ep, e, d, _⟩ := hns
    rw [z] at e
    rw [fields_nil e tP] at d
    cases d
  have tb : TabB (hidT s₁.heap H) mg c P1 := by
    obtain ⟨oc, us, e0, e1, e2, e3, e4, e5, e6, g1, g2, g3, gr⟩ := cP
    obtain ⟨m, om, m1, m2, m3, m4, m5, m6⟩ := bm
    refine ⟨⟨oc, us, e0, e1, e2, e3, e4, e5, e6, hid g1 (fun z => ?_) (fun z => ?_), g2, g3, gr⟩, ⟨m, om, m1, m2, fun z => ?_, fun z => ?_, hid m3 (fun z => ?_) (fun z => ?_), m4, m5, m6⟩, nG⟩
    · rw [z, ha] at g1
      rw [← Option.some.inj g1] at g2
      injection g2 with g2
      exact absurd g2 (by decide)
    · rw [z] at g1
      rw [fields_nil g1 tP] at g2
      cases g2
    · obtain ⟨o, es, ep, e, d, _⟩ := hns
      rw [z, e] at m3
      cases m3
      rw [d] at m6
      cases m6
    · rw [z] at m3
      rw [fields_nil m3 tP] at m6
      cases m6
    · rw [z, ha] at m3
      cases m3
      cases m6
    · rw [z] at m3
      rw [fields_nil m3 tP] at m6
      cases m6
  have ok : HOk P w H s₁.heap := fun b u z => by
    by_cases q : b = P1
    · rw [q, eP] at z
      cases z
      rw [q]
      exact tP
    · by_cases q2 : b = a
      · rw [q2, eA] at z
        by_cases hk : K.lookup a = none
        · rw [if_pos hk] at z
          cases z
          rw [q2]
          exact ⟨ha, by rw [List.length_map]; exact hl, vs, _, rv, ha⟩
        · rw [if_neg hk] at z
          cases z
      · rw [eO b q q2] at z
        cases z
  have env : Env0 P w K mg (hidT s₁.heap H) callerA [] s₁ H :=
    { frames := rfl, mod := md, bs := fun b o e => of_hidT e
      bsz := Nat.le_of_eq (hidT_size _ _), funs := trivial
      frf := fun b hb => (List.not_mem_nil (show b ∈ ([] : List Addr) from hb)).elim
      hok := ok, bare := .of_eq hg }
  have sq : SqL K H a (ns.map V.int) := by
    by_cases hk : K.lookup a = none
    · exact .inl (.inr ⟨_, by rw [eA, if_pos hk]⟩)
    · obtain ⟨o, e⟩ := Option.ne_none_iff_exists'.mp hk
      obtain rfl := Option.some.inj ((KX a o e).symm.trans ha)
      refine .inr ⟨_, vs.toArray, _, e, rfl, rfl, rfl, ?_, by simpa using rv⟩
      rw [List.size_toArray, hi.length]
      exact hl
  have run := (F _ inB (toNs hns) tb).go callerA [] s₁ H ⟨[.ref a], []⟩ [.ref a] [.ref a] _ _ rfl hr env (hbind s₁ (.ref a)) (.cons rfl .nil) (hsp H eP sq)
  refine codeAny_mono run fun r s' h => ?_
  rcases r with e | fl
  · exact (hCX H e s' h).elim
  rcases fl with _ | _ | _ | u
  all_goals first | exact False.elim h | skip
  obtain ⟨v, H', os, bare, un, ok', rv', rfl⟩ := h
  cases (show u = Value.bool true from rv')
  have stays : ∀ b o, b ≠ P1 → s₁.heap.get? b = some o → s'.heap.get? b = some o := fun b o n e => by
    by_cases z : b = a
    · subst z
      by_cases hk : K.lookup b = none
      · have new := (ok' b _ (un.frzs b _ _ (by rw [eA, if_pos hk]))).1
        exact new.trans (ha.symm.trans e)
      · exact un.keep b o e (by rw [eA, if_neg hk]) (fun m => (List.not_mem_nil (show b ∈ ([] : List Addr) from m)).elim) (by simp)
    · exact un.keep b o e (eO b n z) (fun m => (List.not_mem_nil (show b ∈ ([] : List Addr) from m)).elim) (by simp)
  obtain ⟨more, hm⟩ : ∃ more : Array Value, s'.heap.get? P1 = some { cls := .none, data := .fields more } := by
    obtain ⟨more, z⟩ := un.tbls P1 #[] eP
    exact ⟨_, ok' P1 _ z⟩
  refine ⟨rfl, ⟨fun b o e => ?_, fun b o e => ?_⟩, os, bare⟩
  · by_cases z : b = P1
    · subst z
      obtain rfl := fields_nil e tP
      exact .inr (.inl ⟨(cP.tab tP).isCodeTable, rfl, #[], more, rfl, by rw [Array.empty_append]; exact hm⟩)
    · exact .inl (stays b o z e)
  · by_cases z : b = P1
    · exact ⟨_, z ▸ hm⟩
    · exact ⟨o, stays b o z e⟩
theorem walkT {l : PySem.W.OpenLaw} {n k : Nat} {q : Program} {loose : List Str} {XP : (Str → Option Value) → Heap → Prop} {YP : World → Heap → Prop} {d : DefRec}
    {K : Params → PySem.W.Frag} {CX : World → CXT} {x : Str} (hn : l.most = some n) (hn2 : n ≤ sizeLine) (hdf : d.params.defaults = []) (hr : Room k callerA)
    (hY : ∀ (w : World) (h : Heap), YP w h → (K w.params).In h)
    (F : ∀ (w : World) (mg : Str → Option Value) (fa : Addr) (h : Heap), YP w h → (K w.params).In h → h.Ns mainGlobals mg → mg d.name = some (.ref fa) →
      ∃ (fd : FuncData) (c P1 : Addr) (sp : Sp), h.get? P1 = some { cls := .none, data := .fields #[] } ∧ (K w.params).lookup P1 = none ∧ PySem.W.CodeHd h c P1 ∧ (∀ (s : Shared) (u : Value), BindsTo s fd ⟨[u], []⟩ [(x, u)]) ∧
        (∀ (H : Hp) (a : Addr) (ns : List Int), ns.length ≤ n → H P1 = some (.tbl #[]) → SqL (K w.params) H a (ns.map V.int) → sp [.ref a] H (fun v _ => v = .bl true) E0) ∧
        ∀ base : Heap, (K w.params).In base → base.Ns mainGlobals mg → TabB base mg c P1 → FnG l.prog w (K w.params) mg base (CX w) k fa fd [x] sp)
    (hCX : ∀ (w : World) (H : Hp) (s : Shared) (e : Value) (s' : Shared), CX w [] H s E0 e s' → False) :
    PySem.W.WalkO q loose XP YP l.row.toRowW d [] (fun f vs => PySem.call f vs) := by
  apply Att.attach_callB hn hdf
  intro w s₀ s₁ mg mb fa o pm cd doc a vs ns G Y _ _ _ hmg hobj hints hlen _ hg
  obtain ⟨fd, c, P1, sp, tP, nP, cP, hb, hsp, hF⟩ := F w mg fa _ Y (hY w _ Y) G.T.g hmg
  exact entT (hY w _ Y) G.T.g G.T.b G.T.builtins G.T.nolimit hg tP nP cP G.T.bmain hobj hints (Nat.le_trans hlen hn2) hr hF hb (fun H hT hS => hsp H a ns hlen hT hS) (fun H e s' => hCX w H s₁ e s')
end Nd

namespace Nd
open PySem PySem.Spec PyProof.Rows L2 LamX
/-! ### defs that raise -/
section
variable {P : Program} {w : World} {K : PySem.W.Frag} {mg : Str → Option Value} {base : Heap}
theorem takesX {N : List Str} {qual : Str} {scope : Scope} {f : Addr} {cdv : Value} {A : Around} {outer : List Env} {s : Shared} {H : Hp} {E : XK} :
    Takes (cxOf (L2.CX P w) P w K mg base N qual scope f cdv A outer s H E) (fun cls d _ H' => E cls d H') := takes_of rfl rfl rfl rfl
theorem passX {N : List Str} {qual : Str} {scope : Scope} {f : Addr} {cdv : Value} {A : Around} {outer : List Env} {s : Shared} {H : Hp} {E : XK} :
    Passes (L2.CX P w) (cxOf (L2.CX P w) P w K mg base N qual scope f cdv A outer s H E) E := passes_call takesX fun _ _ _ _ h => h
theorem takesLam {X : Cx} {A : Around} {outer : List Env} {s : Shared} {H : Hp} {E : XK} {sc : Scope} {f c' : Addr} : Takes (lamCx X A outer s H E sc f c') (fun cls d _ H' => E cls d H') := takes_of rfl rfl rfl rfl
theorem passLam {X : Cx} {A : Around} {outer : List Env} {s : Shared} {H : Hp} {E : XK} {sc : Scope} {f c' : Addr} : Passes (L2.CX X.prog X.w) (lamCx X A outer s H E sc f c') E := passes_call takesLam fun _ _ _ _ h => h
theorem FnG.calm {k : Nat} {f : Addr} {fd : FuncData} {ps : List Str} {sp : Sp} (F : FnG P w K mg base (L2.CX P w) k f fd ps sp) : FnG P w K mg base CX0 k f fd ps (fun vs H Q _ => sp vs H Q E0) := by
  refine ⟨fun vs H Q _ h => F.many vs H Q _ h, fun A fr s H args us vs Q E hG hr e0 hb r h => ?_⟩
  refine codeAny_mono (F.go A fr s H args us vs Q E0 hG hr e0 hb r h) fun q s' hq => ?_
  rcases q with e | fl
  · obtain ⟨_, _, _, _, _, _, _, _, _, _, _, _, z⟩ := hq
    exact z.elim
  · rcases fl with _ | _ | _ | u <;> exact hq
theorem Cal.calm {k : Nat} {x : Str} {sp : Sp} (c : Cal P w K mg base (L2.CX P w) k x sp) : Cal P w K mg base CX0 k x (fun vs H Q _ => sp vs H Q E0) := by
  obtain ⟨f, fd, ps, F, r⟩ := c.ex
  exact ⟨f, fd, ps, F.calm, r⟩
theorem CalK.calm {k : Nat} {x : Str} {ks : List Str} {ix : List Nat} {sp : Sp} (c : CalK P w K mg base (L2.CX P w) k x ks ix sp) : CalK P w K mg base CX0 k x ks ix (fun vs H Q _ => sp vs H Q E0) := by
  obtain ⟨f, fd, ps, F, r⟩ := c.ex
  exact ⟨f, fd, ps, F.calm, r⟩
/-- an own error's class at C, whose __init__ keeps sp -/
structure MkE (P : Program) (w : World) (K : PySem.W.Frag) (mg : Str → Option Value) (base : Heap) (x : Str) (C : Addr) (k : Nat) (sp : Sp) : Prop where
  oex : OexC K C
  gm : mg x = some (.ref C)
  ini : ∃ (fI : Addr) (fd : FuncData) (ps : List Str), PySem.W.findIn K (.ref C) "__init__" = some (some (.ref fI)) ∧ PySem.W.typeIn K (.ref fI) = some (.type "function") ∧ FnG P w K mg base CX0 k fI fd ps sp ∧ Binds K fd ps []
end
theorem pmk_e {X : Cx} {x : Str} {C : Addr} {k : Nat} {sp : Sp} {e : Expr} {es : List Expr} {ta : TA} {p pos : Pos} (M : MkE X.prog X.w X.K X.mg X.base x C k sp) (hG : X.A.guards = some []) (hr : Room (k + 1) X.A) (hg : Gl X x) (ha : PA X (e :: es) ta)
    (hdb : (x == ("__debug__" : Str)) = false := by decide) (he : starEach (e :: es) X.env = (false, eval e X.env) :: starEach es X.env := by rfl) (hpl : (backTo pos (starEach es X.env)).any (·.1) = false := by rfl) :
    PMk X (.Call (.Name x p) (e :: es) [] pos) (tMkO C sp [] ta) := by
  obtain ⟨fI, fd, ps, iC, tI, Fi, hB⟩ := M.ini
  obtain ⟨nm, q, N, bs, bm, sn, sub, ab, col, dd, k0, k1, k2, k3, k5, hC, hbm⟩ := M.oex.cls
  intro pins s σ H Q I h
  apply wpAny_Call_Name_kw (ld_glob I hg M.gm ?_ hdb)
  apply PySem.W.callWith_K (h₀ := X.base) I.ok.mod.kin M.oex.kC ?_ he hpl
  apply thn (ha.run pos pins s σ H _ I h)
  rintro us ⟨hp, g, dr, tk, os⟩ ⟨vs, H1, I1, r1, hz, q1⟩
  refine ⟨I1.kIn, ?_⟩
  change wpAny _ _ (call (Value.ref C) us) _ _ _
  have n1 : H1 (hp.objs.size + 1) = none := I1.hok.fresh (Nat.le_succ _)
  have want := q1 _ n1
  rw [List.append_nil] at want
  have stay : ∀ b o, hp.get? b = some o → ((hp.push (PySem.W.kdv_tup us)).push (PySem.HandSPX.excO C hp.objs.size)).get? b = some o := fun b o z => Heap.get?_push_of_some _ (Heap.get?_push_of_some _ z)
  have at1 : ((hp.push (PySem.W.kdv_tup us)).push (PySem.HandSPX.excO C hp.objs.size)).get? (hp.objs.size + 1) = some (PySem.HandSPX.excO C hp.objs.size) := by heap_get
  have I2 : Inv X pins σ (upd H1 (hp.objs.size + 1) (exo (hp.objs.size + 1) C none)) ⟨(hp.push (PySem.W.kdv_tup us)).push (PySem.HandSPX.excO C hp.objs.size), g, dr, tk, os⟩ :=
    I1.laid (t' := tk) (h' := (hp.push (PySem.W.kdv_tup us)).push (PySem.HandSPX.excO C hp.objs.size)) stay (Nat.le_succ _) (exo_ok at1)
  have rr : Vals (V.ref (hp.objs.size + 1) :: vs) (Value.ref (hp.objs.size + 1) :: us) := .cons rfl r1
  have lu : (Value.ref (hp.objs.size + 1) :: us ++ []).length = ps.length := by
    rw [List.append_nil]
    exact rr.length.symm.trans (Fi.many _ _ _ _ want)
  have bb := hB _ (Value.ref (hp.objs.size + 1) :: us) I2.kIn lu
  rw [List.append_nil] at bb
  have small : us.length ≤ sizeLine := by
    rw [← r1.length, sizeLine_eq]
    omega
  refine wpAny_call (PySem.HandSPX.call_own F.excBase_ValueError (fun Y => PySem.HandSPX.refsVE_contains Y bm hbm) (I1.kIn _ _ hC) (PySem.W.looks_findIn I1.kIn iC) (fun self => PySem.W.bind_fn I1.kIn self tI) small ?_)
  refine codeAny_mono (Fi.go _ X.stack _ _ ⟨Value.ref (hp.objs.size + 1) :: us, []⟩ (Value.ref (hp.objs.size + 1) :: us) _ _ (fun _ _ _ => False) ?_ (hr.make C us []) (I2.env0.make C us []) bb rr want) fun r s' hq => ?_
  · exact hG
  rcases r with e' | (_ | _ | _ | u)
  all_goals first | exact (show False from hq).elim | skip
  obtain ⟨v, H2, o2, b2, un2, ok2, rv, ev, d, fs, e1, e2, e3, q2⟩ := hq
  subst ev
  obtain ⟨h2, g2, d2, t2, os'⟩ := s'
  exact ⟨rv, mk_end (raises_own M.oex.exC M.oex.tyC) I1 (Nat.le_succ _) stay un2 ok2 o2 b2 e1 e2 e3 q2⟩
/-- raise x(..) -/
def tRaiseE (W : WX) (C : Addr) (sp : Sp) (ta : TA) : TS := fun _ σ H => tMkO C sp [] ta σ H fun cls d H' => W cls d σ H'
theorem ps_raiseE {X : Cx} {W : WX} {x : Str} {C : Addr} {k : Nat} {sp : Sp} {e : Expr} {es : List Expr} {ta : TA} {p pos pos2 : Pos} (hc : X.calm = true) (tk : Takes X W) (M : MkE X.prog X.w X.K X.mg X.base x C k sp) (hG : X.A.guards = some []) (hr : Room (k + 1) X.A) (hg : Gl X x) (ha : PA X (e :: es) ta)
    (hdb : (x == ("__debug__" : Str)) = false := by decide) (he : starEach (e :: es) X.env = (false, eval e X.env) :: starEach es X.env := by rfl) (hpl : (backTo pos (starEach es X.env)).any (·.1) = false := by rfl) :
    PS X (.Raise (some (.Call (.Name x p) (e :: es) [] pos)) none pos2) (tRaiseE W C sp ta) := ps_raise hc tk (pmk_e M hG hr hg ha hdb he hpl)
/-! ### errors that keep texts: fl, the names of their fields -/
def spInit (C : Addr) (fl : List Str) : Sp := fun vs H Q _ => ∃ (a : Addr) (zs : List Str), vs = .ref a :: zs.map V.str ∧ zs.length = fl.length ∧ (∀ z ∈ zs, z.length ≤ 100) ∧ H a = some (exo a C none) ∧
  ∀ d, H d = none → d ≠ a → Q .non (upd (upd H d (exd d (fl.zip (zs.map V.str)).reverse)) a (exo a C (some d)))
theorem k_raiseE {W : WX} {C : Addr} {fl : List Str} {ta : TA} {D : Ends} {σ : L2.St} {H : Hp}
    (h : ta σ H fun vs H1 => ∃ zs : List Str, vs = zs.map V.str ∧ zs.length = fl.length ∧ fl.length ≤ 10 ∧ (∀ z ∈ zs, z.length ≤ 100) ∧ ∀ d, H1 d = none → W (.ref C) (some d) σ (upd H1 d (.xd (fl.zip (zs.map V.str)).reverse)))
    (mono : ∀ {Q Q' : List V → Hp → Prop}, (∀ vs H', Q vs H' → Q' vs H') → ta σ H Q → ta σ H Q') : tRaiseE W C (spInit C fl) ta D σ H := by
  refine mono (fun vs H1 ⟨zs, e, hl, h10, hz, q⟩ => ?_) h
  subst e
  refine ⟨by rw [List.length_map]; omega, fun a na => ⟨a, zs, by rw [List.append_nil], hl, hz, upd_same, fun d hd ne => ?_⟩⟩
  rw [upd_ne ne] at hd
  refine ⟨rfl, d, _, upd_same, (upd_ne ne).trans upd_same, hd, ?_⟩
  have eH : upd (del (upd (upd (upd H1 a (exo a C none)) d (exd d (fl.zip (zs.map V.str)).reverse)) a (exo a C (some d))) a) d (.xd (fl.zip (zs.map V.str)).reverse) = upd H1 d (.xd (fl.zip (zs.map V.str)).reverse) := by
    funext b
    by_cases e1 : b = d
    · rw [e1, upd_same, upd_same]
    · rw [upd_ne e1, upd_ne e1]
      by_cases e2 : b = a
      · rw [e2, del_same, na]
      · rw [del_ne e2, upd_ne e2, upd_ne e1, upd_ne e2]
  rw [eH]
  exact q d hd
/-- an error of the class at C is out, which keeps the text z in part -/
def Outs (E : XK) (C : Addr) (z : Str) (H : Hp) : Prop := ∀ H' dd, Same H H' → H dd = none → H' dd = some (.xd [("part", .str z)]) → E (.ref C) (some dd) H'
theorem Outs.same {E : XK} {C : Addr} {z : Str} {H H1 : Hp} (o : Outs E C z H) (s : Same H H1) : Outs E C z H1 := fun H' dd s' n e => o H' dd (s.trans s') (s.free n) e
def spNeedX (C : Addr) : Sp := fun vs H Q E => ∃ (r : Addr) (v : V) (z : Str) (d : PyData) (l m : Option Int), vs = [v, .str z, optV l, optV m] ∧ z.length ≤ 100 ∧ Dr r H v d ∧
  (withinD d l m = true → ∀ H', Same H H' → Q .non H') ∧ (withinD d l m = false → Outs E C z H)
/-- the j-th statement of a class's text -/
def mem (st : Stmt) (j : Nat) : Stmt := match st with
  | .ClassDef (body := b) .. => b.getD j (.Pass ⟨0, 0, 0, 0⟩)
  | _ => st
/-- what a def makes of a lambda that raises such an error: the text that it keeps -/
def TTpart (C : Addr) (z : Str) : (XK → Hp → VK → Prop) → Hp → VK → Prop := fun tl H Q =>
  ∀ E : XK, (∀ d H', H' d = some (.xd [("part", .str z)]) → (∀ H2, Same H' H2 → Q (.str z) H2) → E (.ref C) (some d) H') → tl E H (fun _ _ => False)
/-- a def that is given a lambda, for its callers -/
structure Tells (P : Program) (w : World) (K : PySem.W.Frag) (mg : Str → Option Value) (base : Heap) (x : Str) (k : Nat) (TT : Str → (XK → Hp → VK → Prop) → Hp → VK → Prop) : Prop where
  ex : ∃ (g : Addr) (a : Str) (pg : Arguments) (bg : List Stmt) (sg : Scope) (dV kV doc pm cdv ct oc : Value) (an od : Option Addr) (osl : Array (Option Value)) (Ng : List Str), mg x = some (.ref g) ∧ PySem.W.keepIn K (.ref g) = true ∧
    K.lookup g = some ⟨oc, od, .func (PySem.W.fnOf x x pg bg sg dV kV doc pm an cdv ct), osl⟩ ∧ PySem.W.codeIn K cdv x = true ∧ Binds K (PySem.W.fnOf x x pg bg sg dV kV doc pm an cdv ct) [a] [] ∧ FnScope Ng [a] sg ∧ Ng[0]? = some a ∧ Vis sg a ∧
    (a == ("__debug__" : Str)) = false ∧ (a == ("__classdict__" : Str)) = false ∧
    ∀ (X : Cx) (q z : Str), X.prog = P → X.w = w → X.K = K → X.mg = mg → X.base = base → X.A.guards = some [] → GivesG X Ng x sg g cdv bg a q k (TT z)
theorem pe_tells {X : Cx} {T : List (Addr × Str)} {TT : Str → (XK → Hp → VK → Prop) → Hp → VK → Prop} {x z : Str} {c P : Addr} {k : Nat} {ps : Arguments} {bo : Expr} {sc : Scope} {t : XK → TE} {p lpos pos : Pos}
    (L0 : Tells X.prog X.w X.K X.mg X.base x (k + 1) TT) (hg : Gl X x) (hG : X.A.guards = some []) (TB : TabB X.base X.mg c P) (hcode : X.env.code = .ref c) (hmT : (P, X.env.qual ++ "<lambda>") ∈ T) (hu : ∀ p ∈ T, p.1 = P → p.2 = X.env.qual ++ "<lambda>") (hr : Room (k + 2) X.A) (L : LamD X.N X.env.scope sc)
    (hdef : (defaultsOf ps X.env = ([], []) ∧ ∀ (q : Str) (cl : List (Str × Addr)) (pm cv ct : Value), bindArgs (fnL q ps bo sc cl pm cv ct .none) ⟨[], []⟩ = pure []) ∨
      ∃ (e : Expr) (x0 : V) (y : Str), defaultsOf ps X.env = ([eval e X.env], []) ∧ PE X e (tC x0) ∧ sc.names.lookup y = some .local ∧
        ∀ (q : Str) (cl : List (Str × Addr)) (pm cv ct u : Value) (D : Addr), ∃ kk, bindArgs (fnL q ps bo sc cl pm cv ct (.ref D)) ⟨[], []⟩ = seqItems? (.ref D) >>= kk ∧ kk (some #[u]) = pure [(y, u)])
    (hbody : ∀ (A : Around) (outer : List Env) (s : Shared) (H : Hp) (E : XK) (f c' : Addr), A.guards = some [] → Room k (A.deeper (lamEnv X sc s.heap.objs.size f c')) → PE (lamCx X A outer s H E sc f c') bo (t E))
    (hdb : (x == ("__debug__" : Str)) = false := by decide) :
    PE X (.Call (.Name x p) [.Lambda ps bo sc lpos] [] pos) (tLam T (TT z) t) := by
  obtain ⟨g, a, pg, bg, sg, dV, kV, doc, pm, cdv, ct, oc, an, od, osl, Ng, hm, hk, lk, hcd, hB, S, h0, hv, d1, d2, gv⟩ := L0.ex
  exact pe_lamL hg hm hk lk hcd hB S h0 hv (gv X _ z rfl rfl rfl rfl rfl hG) hG TB hcode hmT hu hr L hdef hbody hdb d1 d2
theorem k_lamP {T : List (Addr × Str)} {C : Addr} {z : Str} {t : XK → TE} {σ : L2.St} {H : Hp} {Q : VK} (hT : Tabs T H) (h : ∀ (H1 : Hp) (E : XK), ExtN H H1 → Tabs T H1 → Outs E C z H1 → t E σ H1 (fun _ _ => False))
    (k : ∀ H2, ExtN H H2 → Tabs T H2 → Q (.str z) H2) : tLam T (TTpart C z) t σ H Q :=
  ⟨hT, fun H1 x1 T1 E hE => h H1 E x1 T1 fun H' dd s _ e => hE dd H' e fun H2 s2 => k H2 (x1.trans (ExtN.of (s.trans s2))) (T1.ext (s.trans s2))⟩
/-! ### what stays where all but the tables stays -/
theorem Rid.ext {r : Addr} {n : Nat} {H H' : Hp} (h : Rid r n H) (s : ExtN H H') : Rid r n H' := by
  obtain ⟨c, ns, a, z, h1, h2, h3, h4⟩ := h.ex
  exact ⟨c, ns, a, z, h1, s _ _ h2 (fun _ e => nomatch e), s _ _ h3 (fun _ e => nomatch e), h4⟩
mutual
theorem Dr.ext {r : Addr} {H H' : Hp} (g : ExtN H H') : ∀ {v : V} {d : PyData}, Dr r H v d → Dr r H' v d
  | _, _, .non => .non
  | _, _, .bl b => .bl b
  | _, _, .int i => .int i
  | _, _, .str x => .str x
  | _, _, .lst n e h => .lst n (g _ _ e fun _ z => nomatch z) (DrAll.ext g h)
  | _, _, .tup n e h => .tup n (e.toT fun u eu nl => g _ u eu nl) (DrAll.ext g h)
  | _, _, .dct n e h => .dct n (g _ _ e fun _ z => nomatch z) (DrAll.ext g h)
theorem DrAll.ext {r : Addr} {H H' : Hp} (g : ExtN H H') : ∀ {vs : List V} {ds : List PyData}, DrAll r H vs ds → DrAll r H' vs ds
  | _, _, .nil => .nil
  | _, _, .cons h t => .cons (Dr.ext g h) (DrAll.ext g t)
end
theorem _root_.LamX.Tabs.gr {T : List (Addr × Str)} {r : Addr} {n : Nat} {H H' : Hp} (t : Tabs T H) (R : Rid r n H) (g : Gr r H H') : Tabs T H' := by
  obtain ⟨c, ns, a, z, h1, h2, h3, h4⟩ := R.ex
  intro p hp
  obtain ⟨ps, e1, e2, e3⟩ := t p hp
  refine ⟨ps, g.all _ _ (fun q => ?_) e1, e2, fun pos cv hc => ?_⟩
  · rw [q, h2] at e1
    cases e1
  · obtain ⟨c', q1, q2⟩ := e3 pos cv hc
    refine ⟨c', q1, g.all _ _ (fun q => ?_) q2⟩
    rw [q, h2] at q2
    have := Option.some.inj q2
    unfold CodeO at this
    cases this
theorem _root_.LamX.Tabs.one {P : Addr} {q : Str} {H : Hp} (e : H P = some (.tbl #[])) : Tabs [(P, q)] H := by
  intro p hp
  rw [List.mem_singleton.mp hp]
  exact ⟨#[], e, trivial, fun pos cv hc => nomatch hc⟩
/-! ### a def whose code object is told -/
theorem okGd {P : Program} {w : World} {K : PySem.W.Frag} {mg : Str → Option Value} {base : Heap} {x qual : Str} {st : Stmt} {f c : Addr} {fd : FuncData} {N ps : List Str}
    {k : Nat} {sp : Sp} (F : Fun K x qual st f fd) (hc : fd.code = .ref c) (S : FnScope N ps (defScope st)) (many : ∀ vs H Q E, sp vs H Q E → vs.length = ps.length)
    (body : ∀ (A : Around) (fr : List Env) (s : Shared) (H : Hp) (vs : List V) (Q : VK) (E : XK),
      (cxOf CX0 P w K mg base N qual (defScope st) f (.ref c) A fr s H E).nox.A.guards = some [] → Room k (cxOf CX0 P w K mg base N qual (defScope st) f (.ref c) A fr s H E).nox.A → sp vs H Q E →
      ∃ t, PSs (cxOf CX0 P w K mg base N qual (defScope st) f (.ref c) A fr s H E).nox (defBody st) t ∧ t { nx := fun _ H' => Q .non H', rt := Q } (start N vs) H) :
    FnG P w K mg base CX0 (k + 1) f fd ps sp := by
  obtain ⟨oc, od, kV, doc, pm, an, cdv, ct, osl, rfl, lk, hcd⟩ := F.ex
  obtain rfl : cdv = .ref c := hc
  refine ⟨many, ?_⟩
  intro A fr s H args us vs Q E hG room env bind rel want
  have inK := env.mod.kin.keeps fun b o e => (env.bs b o e).1
  have noL := env.mod.nolimit.keeps fun b o e => (env.bs b o e).1
  have kinds : ∀ y ∈ ps.zip us, (defScope st).names.lookup y.1 = some .local ∨ ((defScope st).names.lookup y.1 = some .cell ∧ ((cellsFrom (s.heap.objs.size + 1) (defScope st).names []).lookup y.1).isSome = true) := by
    rintro ⟨n, v⟩ hy
    cases S.par n (List.of_mem_zip hy).1 with
    | inl q => exact .inl q
    | inr q => exact .inr ⟨q, PySem.W.cellsFrom_some _ _ _ (.inl q)⟩
  apply codeAny_call_function room.depth (inK _ _ lk) rfl S.co S.gen rfl (PySem.W.codeRec_of inK hcd) (bind _ _ _ _ ?_)
  apply wpAny_newFunctionEnv_cells S.kind kinds
  rintro env' rfl s1 x
  refine ⟨noL.keeps x.toInCall.keep, codeAny_func ?_⟩
  obtain ⟨t, ht, hq⟩ := body A fr s H vs Q E hG (room.deeper _) want
  have I := inv_start (CX := CX0) (E := E) S room.hd env (many _ _ _ _ want) rel x
  refine wpAny_mono (ht.nox.run [] s1 (start N vs) H _ I hq) ?_ fun e s' hs => hs
  intro fl s' hs
  cases fl with
  | brk => exact False.elim hs.choose_spec.choose_spec.2
  | cont => exact False.elim hs.choose_spec.choose_spec.2
  | next =>
    obtain ⟨σ', H', J, q⟩ := hs
    exact ⟨V.non, H', J.os, J.bare, J.base, J.hok, rfl, q⟩
  | ret u =>
    obtain ⟨v, σ', H', J, rv, q⟩ := hs
    exact ⟨v, H', J.os, J.bare, J.base, J.hok, rv, q⟩
/-- what is told of an own error's class at C, and of its base's, at B -/
structure ErrT (K : PySem.W.Frag) (mg : Str → Option Value) (x bx : Str) (C B : Addr) : Prop where
  gC : mg x = some (.ref C)
  gB : mg bx = some (.ref B)
  exm : PySem.W.exmOne K (.ref C) (.ref B) = some true
  oex : OexC K C
  exc : ExcC K C
  cls : (PySem.W.clsIn K C).isSome = true
  xf : XfC K C
  he : HeC K B
  noP : PySem.W.findIn K (.ref C) "part" = some none
theorem k_vei {K : PySem.W.Frag} {ta : TA} {σ : L2.St} {H : Hp} {Q : VK} (h : ta σ H fun vs H1 => ∃ (a C : Addr) (ws : List V), vs = .ref a :: ws ∧ ws.length ≤ 1000 ∧ OexC K C ∧ H1 a = some (exo a C none) ∧ Q .non H1) : tVeI K ta σ H Q := h
theorem k_fmtS {te : TE} {σ : L2.St} {H : Hp} {Q : VK} (h : te σ H fun x H1 => ∃ y : Str, x = .str y ∧ y.length ≤ sizeLine ∧ Q (.str y) H1) (mono : ∀ {Q Q' : VK}, (∀ v H', Q v H' → Q' v H') → te σ H Q → te σ H Q') : tFmt te σ H Q := mono (fun _ _ z => .inl z) h
theorem k_xg {K : PySem.W.Frag} {f : Str} {te : TE} {σ : L2.St} {H : Hp} {Q : VK} (h : te σ H fun x H1 => ∃ (a C d : Addr) (fs : List (Str × V)) (v : V), x = .ref a ∧ H1 a = some (ExV (.ref C) (some d) a) ∧ H1 d = some (.xd fs) ∧ XfC K C ∧ PySem.W.findIn K (.ref C) f = some none ∧ fs.lookup f = some v ∧ Q v H1) : tXg K f te σ H Q := h
theorem k_ost1 {K : PySem.W.Frag} {f : Str} {i j : Nat} {a C : Addr} {y : V} {D : Ends} {σ : L2.St} {H : Hp} (hi : σ[i]? = some (some (.ref a))) (hj : σ[j]? = some (some y)) (T : OexC K C) (n : PySem.W.findIn K (.ref C) f = some none) (e : H a = some (exo a C none))
    (q : ∀ d, H d = none → d ≠ a → D.nx σ (upd (upd H d (exd d [(f, y)])) a (exo a C (some d)))) : tOst K f (tVar i) (tVar j) D σ H := ⟨y, hj, .ref a, hi, a, C, rfl, T, n, .inl ⟨e, q⟩⟩
theorem k_raise1 {W : WX} {C : Addr} {i : Nat} {z : Str} {D : Ends} {σ : L2.St} {H : Hp} (hv : σ[i]? = some (some (.str z))) (hz : z.length ≤ 100) (q : ∀ d, H d = none → W (.ref C) (some d) σ (upd H d (.xd [("part", .str z)]))) :
    tRaiseE W C (spInit C ["part"]) (tCons (tVar i) tNil) D σ H :=
  k_raiseE ⟨.str z, hv, [z], rfl, rfl, by decide, fun y hy => by rw [List.mem_singleton.mp hy]; exact hz, q⟩ fun imp ⟨v, h1, h2⟩ => ⟨v, h1, imp _ _ h2⟩
theorem Outs.new {E : XK} {C : Addr} {z : Str} {H H1 : Hp} (o : Outs E C z H) (s : Same H H1) : ∀ d, H1 d = none → E (.ref C) (some d) (upd H1 d (.xd [("part", .str z)])) := fun d hd => o _ d (s.trans (Same.new hd)) (s.free hd) upd_same
end Nd

namespace Nd
open PySem PySem.Spec PyProof.Rows L2
/-! ### lists of fractions, sums of ways -/
theorem rep3 {q : Rat} (h1 : q.num.natAbs ≤ 999999999998) (h2 : q.den ≤ 999999999998) : PyData.showable (.list [fq q, fq q, fq q]) = true ∧ PyData.depth (.list [fq q, fq q, fq q]) ≤ 60 ∧ (PyData.shown (.list [fq q, fq q, fq q])).length ≤ sizeLine := by
  have l1 : q.num.natAbs.log2 < 1920 := Nat.lt_of_lt_of_le (PySem.Flt.log2_lt_of (k := 40) (by decide) (by omega)) (by decide)
  have l2 : q.den.log2 < 1920 := Nat.lt_of_lt_of_le (PySem.Flt.log2_lt_of (k := 40) (by decide) (by omega)) (by decide)
  have i1 : PyData.intsShort 13 (.int q.num) = true := intsShort_of_noneOrIn (lo := -999999999999) (hi := 999999999999) (by decide) (by decide) _ (by simp [noneOrIn]; omega)
  have i2 : PyData.intsShort 13 (.int (q.den : Int)) = true := intsShort_of_noneOrIn (lo := -999999999999) (hi := 999999999999) (by decide) (by decide) _ (by simp [noneOrIn]; omega)
  refine ⟨by simp [PyData.showable, PyData.showableAll, fq, l1, l2], by simp [PyData.depth, PyData.depthAll, fq], ?_⟩
  refine Nat.le_trans (shown_le13 ?_ ?_) (by decide)
  · simp [PyData.layable0, PyData.canLay0, PyData.canLayAll0, PyData.depth, PyData.depthAll, PyData.weight, PyData.weightAll, fq]
    split <;> split <;> omega
  · simp [PyData.intsShort, PyData.intsShortAll, fq] at i1 i2 ⊢
    exact ⟨i1, i2⟩
theorem k_rep {l : Addr} {n : Nat} {xs : List V} {H : Hp} {Q : VK} (h : H l = some (.lst xs)) (hn : n ≤ 1000) (hx : xs.length ≤ 1000) (q : ∀ p, H p = none → Q (.ref p) (upd H p (.lst (List.replicate n xs).flatten))) : rRep (.ref l) (.int (n : Int)) H Q :=
  ⟨l, _, xs, rfl, rfl, h, by omega, by omega, by
    rw [Int.toNat_natCast]
    exact Nat.le_trans (Nat.mul_le_mul hx hn) (by decide), by simpa using q⟩
theorem paired_get {α β : Type} {F : α → β → Prop} : ∀ {l : List α} {m : List β} {i : Nat} {y : α}, Paired F l m → l[i]? = some y → ∃ z, m[i]? = some z ∧ F y z
  | _, _, 0, _, .cons h _, e => by cases e; exact ⟨_, rfl, h⟩
  | _, _, i + 1, _, .cons _ t, e => paired_get (i := i) t e
  | _, _, 0, _, .nil, e => nomatch e
  | _, _, _ + 1, _, .nil, e => nomatch e
theorem lcIn_frp {K : PySem.W.Frag} {a r : Addr} {ys : List V} {n i j : Nat} {te : TE} {vs : List Nat} {σ : L2.St} {H1 : Hp} {Q : VK} (q : Nat → Rat) (v : Nat → Int) (hx : SqL K H1 a ys) (hf : Paired (Fr r H1) ys ((List.range n).map q)) (hz : n ≤ 50000)
    (hw : ∀ x y, wipe (((wipe σ vs).set i (some x)).set j (some y)) vs = wipe σ vs)
    (step : ∀ m H2, m < n → Same H1 H2 → ∀ QE : VK, (∀ H4, Same H2 H4 → QE (.int (v m)) H4) → te (((wipe σ vs).set i (some (.int (q m).num))).set j (some (.int ((q m).den : Int)))) H2 QE)
    (fin : ∀ p H', H1 p = none → Same H1 H' → H' p = some (.lst (((List.range n).map v).map V.int)) → Q (.ref p) H') :
    LcIn (Itl K a) (gTup K 2 (gCons (gName i) (gCons (gName j) gNil))) tYes te vs σ H1 Q := fun D hD =>
  lc_list (xs := ys) (fun m H => Same H1 H ∧ H D = some (.lst (((List.range m).map v).map V.int))) ⟨Same.new hD, upd_same⟩ (fun m H _ p => p.1.seq hx)
    (fun m y H hm p => by
      obtain ⟨s1, eD⟩ := p
      obtain ⟨z, hz1, f⟩ := paired_get hf hm
      have hlt : m < n := by
        have := (List.getElem?_eq_some_iff.mp hz1).1
        rwa [List.length_map, List.length_range] at this
      rw [List.getElem?_map, List.getElem?_range hlt] at hz1
      obtain rfl : q m = z := Option.some.inj hz1
      obtain ⟨pa, rfl, _, e⟩ := f
      refine k_gtup (.inl (.inl (s1 _ _ e))) rfl ?_
      refine k_gcons ?_
      refine k_gname ?_
      refine k_gcons ?_
      refine k_gname ?_
      refine k_gnil ?_
      refine ⟨hw _ _, ?_⟩
      refine k_tYes ?_
      rw [if_pos rfl]
      refine step m H hlt s1 _ fun H4 s4 => ?_
      refine ⟨_, s4 _ _ eD, ?_, fun b o e => ?_, ?_⟩
      · rw [List.length_map, List.length_map, List.length_range]
        exact Nat.lt_of_lt_of_le hlt (Nat.le_trans hz (by decide))
      · rw [upd_ne (ne_of_none e hD)]
        exact s4 _ _ (s1 _ _ e)
      · rw [upd_same, List.range_succ, List.map_append, List.map_append]
        rfl)
    (fun H' p => by
      have hl := pairs_len hf
      rw [List.length_map, List.length_range] at hl
      exact fin D H' hD p.1 (hl ▸ p.2))
theorem canStrs : ∀ zs : List Str, zs.all PyData.strOk = true → PyData.canLayAll0 (zs.map PyData.str) = true
  | [], _ => by simp only [List.map_nil, PyData.canLayAll0]
  | z :: zs, h => by
    rw [List.all_cons, Bool.and_eq_true] at h
    simp only [List.map_cons, PyData.canLayAll0, PyData.canLay0, canStrs zs h.2, h.1, Bool.and_self]
theorem depStrs : ∀ zs : List Str, PyData.depthAll (zs.map PyData.str) = 0
  | [] => by simp only [List.map_nil, PyData.depthAll]
  | z :: zs => by simp only [List.map_cons, PyData.depthAll, PyData.depth, depStrs zs, Nat.max_self]
theorem sh_strs (zs : List Str) (h : zs.all PyData.strOk = true) : SeqAt.shaped (.list (zs.map PyData.str)) = true := by
  simp [SeqAt.shaped, PyData.canLay0, PyData.depth, canStrs zs h, depStrs zs]
theorem eqvs_strs : ∀ zs : List Str, PyData.eqvAll (zs.map PyData.str) (zs.map PyData.str) = true
  | [] => by simp only [List.map_nil, PyData.eqvAll]
  | z :: zs => by simp [PyData.eqvAll, PyData.eqv, eqvs_strs zs]
theorem ne_strs (zs : List Str) : (!PyData.eqv (.list (zs.map PyData.str)) (.list (zs.map PyData.str))) = false := by
  simp only [PyData.eqv, eqvs_strs, Bool.not_true]
theorem num_part {u w : Int} (w0 : 0 < w) : (Rat.divInt u w).num * (w / ((Rat.divInt u w).den : Int)) = u := by
  have d0 : ((Rat.divInt u w).den : Int) ≠ 0 := Int.ne_of_gt (by have := (Rat.divInt u w).den_pos; omega)
  have e : Rat.divInt (Rat.divInt u w).num ((Rat.divInt u w).den : Int) = Rat.divInt u w := Rat.num_divInt_den _
  have e2 := (Rat.divInt_eq_divInt_iff d0 (Int.ne_of_gt w0)).mp e
  have e4 := Int.ediv_mul_cancel (den_dvd (u := u) (Int.ne_of_gt w0))
  generalize (Rat.divInt u w).num = x at e2 ⊢
  generalize ((Rat.divInt u w).den : Int) = y at d0 e2 e4 ⊢
  refine Int.eq_of_mul_eq_mul_right d0 ?_
  rw [Int.mul_assoc, e4]
  exact e2
theorem sum_add2 (f g : Nat → Int) : ∀ l : List Nat, (l.map fun i => f i + g i).sum = (l.map f).sum + (l.map g).sum
  | [] => rfl
  | a :: l => by
    rw [List.map_cons, List.map_cons, List.map_cons, List.sum_cons, List.sum_cons, List.sum_cons, sum_add2 f g l]
    omega
theorem sum_one (lo : Int) : ∀ n : Nat, ((List.range n).map fun i : Nat => (if lo + (i : Int) = 0 then (1 : Int) else 0)).sum = if lo ≤ 0 ∧ 0 < lo + n then 1 else 0
  | 0 => by
    rw [if_neg (by omega)]
    rfl
  | n + 1 => by
    rw [List.range_succ, List.map_append, List.sum_append, sum_one lo n]
    simp only [List.map_cons, List.map_nil, List.sum_cons, List.sum_nil, Int.add_zero]
    split <;> split <;> split <;> omega
theorem sumW : ∀ (t n : Nat) (lo : Int), lo ≤ -(t : Int) → (t : Int) < lo + n → ((List.range n).map fun i : Nat => (W t (lo + (i : Int)) : Int)).sum = 2 ^ t
  | 0, n, lo, h1, h2 => by
    have e : (fun i : Nat => (W 0 (lo + (i : Int)) : Int)) = fun i : Nat => if lo + (i : Int) = 0 then (1 : Int) else 0 := funext fun i => by
      rw [W]
      split <;> rfl
    rw [e, sum_one, if_pos ⟨by omega, by omega⟩]
    rfl
  | t + 1, n, lo, h1, h2 => by
    have e : (fun i : Nat => (W (t + 1) (lo + (i : Int)) : Int)) = fun i : Nat => (W t ((lo - 1) + (i : Int)) : Int) + (W t ((lo + 1) + (i : Int)) : Int) := funext fun i => by
      rw [W_succ, show lo + (i : Int) - 1 = (lo - 1) + (i : Int) by omega, show lo + (i : Int) + 1 = (lo + 1) + (i : Int) by omega, Int.natCast_add]
    rw [e, sum_add2, sumW t n (lo - 1) (by omega) (by omega), sumW t n (lo + 1) (by omega) (by omega), Int.pow_succ]
    omega
end Nd

namespace Nd
open PySem PySem.Spec PyProof.Rows L2 LamX
/-! ### defs by names that hold them -/
theorem FnG.weaken {P : Program} {w : World} {K : PySem.W.Frag} {mg : Str → Option Value} {base : Heap} {CX : CXT} {k : Nat} {f : Addr} {fd : FuncData} {ps : List Str} {sp sp' : Sp} (F : FnG P w K mg base CX k f fd ps sp) (h : ∀ vs H Q E, sp' vs H Q E → sp vs H Q E) : FnG P w K mg base CX k f fd ps sp' :=
  ⟨fun vs H Q E q => F.many vs H Q E (h _ _ _ _ q), fun A fr s H args us vs Q E hG hr e0 hb r q => F.go A fr s H args us vs Q E hG hr e0 hb r (h _ _ _ _ q)⟩
theorem Cal.weaken {P : Program} {w : World} {K : PySem.W.Frag} {mg : Str → Option Value} {base : Heap} {CX : CXT} {k : Nat} {x : Str} {sp sp' : Sp} (c : Cal P w K mg base CX k x sp) (h : ∀ vs H Q E, sp' vs H Q E → sp vs H Q E) : Cal P w K mg base CX k x sp' := by
  obtain ⟨f, fd, ps, F, r⟩ := c.ex
  exact ⟨f, fd, ps, F.weaken h, r⟩
theorem CalK.weaken {P : Program} {w : World} {K : PySem.W.Frag} {mg : Str → Option Value} {base : Heap} {CX : CXT} {k : Nat} {x : Str} {ks : List Str} {ix : List Nat} {sp sp' : Sp} (c : CalK P w K mg base CX k x ks ix sp) (h : ∀ vs H Q E, sp' vs H Q E → sp vs H Q E) : CalK P w K mg base CX k x ks ix sp' := by
  obtain ⟨f, fd, ps, F, r⟩ := c.ex
  exact ⟨f, fd, ps, F.weaken h, r⟩
/-- the def at f, for callers that hold it -/
structure CalV (P : Program) (w : World) (K : PySem.W.Frag) (mg : Str → Option Value) (base : Heap) (CX : CXT) (k : Nat) (f : Addr) (sp : Sp) : Prop where
  ex : ∃ (fd : FuncData) (ps : List Str), FnG P w K mg base CX k f fd ps sp ∧ PySem.W.keepIn K (.ref f) = true ∧ Binds K fd ps []
theorem Cal.held {P : Program} {w : World} {K : PySem.W.Frag} {mg : Str → Option Value} {base : Heap} {CX : CXT} {k : Nat} {x : Str} {sp : Sp} (c : Cal P w K mg base CX k x sp) : ∃ f, mg x = some (.ref f) ∧ CalV P w K mg base CX k f sp := by
  obtain ⟨f, fd, ps, F, hm, hk, hb⟩ := c.ex
  exact ⟨f, hm, ⟨fd, ps, F, hk, hb⟩⟩
def tCallV (P : Program) (w : World) (K : PySem.W.Frag) (mg : Str → Option Value) (base : Heap) (CX : CXT) (k i : Nat) (E : XK) (t : TA) : TE := fun σ H Q => ∃ (f : Addr) (sp : Sp), σ[i]? = some (some (.ref f)) ∧ CalV P w K mg base CX k f sp ∧ t σ H fun vs H1 => sp vs H1 Q E
theorem pe_fv {X : Cx} {P : Program} {w : World} {K : PySem.W.Frag} {mg : Str → Option Value} {base : Heap} {CX : CXT} {k i : Nat} {x : Str} {E : XK} {p pos : Pos} {e : Expr} {es : List Expr} {t : TA}
    (hX : X.prog = P ∧ X.w = w ∧ X.K = K ∧ X.mg = mg ∧ X.base = base) (hN : X.N[i]? = some x) (hv : Vis X.env.scope x) (hG : X.A.guards = some []) (hr : Room k X.A) (hx : Passes CX X E)
    (ha : PA X (e :: es) t) (hdb : (x == ("__debug__" : Str)) = false := by decide) (hcd : (x == ("__classdict__" : Str)) = false := by decide)
    (he : starEach (e :: es) X.env = (false, eval e X.env) :: starEach es X.env := by rfl)
    (hpl : (backTo pos (starEach es X.env)).any (·.1) = false := by rfl) :
    PE X (.Call (.Name x p) (e :: es) [] pos) (tCallV P w K mg base CX k i E t) := by
  obtain ⟨rfl, rfl, rfl, rfl, rfl⟩ := hX
  constructor
  intro pins s σ H Q I ⟨f, sp, ei, c, h⟩
  obtain ⟨fd, ps, F, hk, hb⟩ := c.ex
  refine wpAny_Call_Name_kw (thn ((pe_var (pos := p) (i := i) hN hv hdb hcd).run pins s σ H (fun v H1 => v = .ref f ∧ H1 = H) I ⟨.ref f, ei, rfl, rfl⟩) fun u t ⟨v, H1, I1, r1, ev, eH⟩ => ?_)
  subst ev
  subst eH
  obtain rfl : u = Value.ref f := r1
  apply PySem.W.callWith_K (h₀ := X.base) I1.ok.mod.kin hk ?_ he hpl
  apply thn (ha.run pos pins t σ H1 _ I1 h)
  rintro us s1 ⟨vs, H2, I2, r, q⟩
  refine ⟨I2.kIn, goG F hG hr hb .nil hx I2 r ?_⟩
  rw [List.append_nil]
  exact q
theorem k_callV {P : Program} {w : World} {K : PySem.W.Frag} {mg : Str → Option Value} {base : Heap} {CX : CXT} {k i : Nat} {E : XK} {t : TA} {σ : L2.St} {H : Hp} {Q : VK} {f : Addr} {sp : Sp} (hi : σ[i]? = some (some (.ref f))) (c : CalV P w K mg base CX k f sp) (h : t σ H fun vs H1 => sp vs H1 Q E) : tCallV P w K mg base CX k i E t σ H Q := ⟨f, sp, hi, c, h⟩
theorem _root_.LamX.Tabs.put {T : List (Addr × Str)} {p : Addr} {H : Hp} {xs : List V} {o : HO} (t : LamX.Tabs T H) (e : H p = some (.lst xs)) : LamX.Tabs T (upd H p o) := by
  intro q hq
  obtain ⟨ps, e1, e2, e3⟩ := t q hq
  have n1 : q.1 ≠ p := fun z => by
    rw [z, e] at e1
    cases e1
  refine ⟨ps, (upd_ne n1).trans e1, e2, fun pos cv hc => ?_⟩
  obtain ⟨c', q1, q2⟩ := e3 pos cv hc
  refine ⟨c', q1, (upd_ne fun z => ?_).trans q2⟩
  rw [z, e] at q2
  have := Option.some.inj q2
  unfold CodeO at this
  cases this
/-! ### a fraction as a tuple or a list -/
def isFq (d : PyData) (q : Rat) : Prop := itemsD d = some [.int q.num, .int (q.den : Int)]
def FrA (r : Addr) (H : Hp) (v : V) (q : Rat) : Prop := ∃ a, v = .ref a ∧ a ≠ r ∧ (TupQ H a [.int q.num, .int (q.den : Int)] ∨ H a = some (.lst [.int q.num, .int (q.den : Int)]))
theorem Fr.any {r : Addr} {H : Hp} {v : V} {q : Rat} (h : Fr r H v q) : FrA r H v q := by
  obtain ⟨a, h1, h2, h3⟩ := h
  exact ⟨a, h1, h2, .inl h3⟩
theorem FrA.gr {r : Addr} {H H' : Hp} {v : V} {q : Rat} (h : FrA r H v q) (g : Gr r H H') : FrA r H' v q := by
  obtain ⟨a, h1, h2, h3⟩ := h
  exact ⟨a, h1, h2, trTo h3 fun u => g.all _ u h2⟩
theorem FrA.same {r : Addr} {H H' : Hp} {v : V} {q : Rat} (h : FrA r H v q) (s : Same H H') : FrA r H' v q := h.gr (Gr.same s)
theorem isFq_fq (q : Rat) : isFq (fq q) q := rfl
theorem isFq_frac {d : PyData} {q : Rat} (h : isFq d q) : fracD d = true := by
  unfold fracD
  rw [h]
  have h1 : (0 : Int) < (q.den : Int) := by have := q.den_nz; omega
  have h2 : Nat.gcd q.num.natAbs (q.den : Int).natAbs = 1 := by rw [Int.natAbs_natCast]; exact q.reduced
  show (decide (0 < (q.den : Int)) && decide (Nat.gcd q.num.natAbs (q.den : Int).natAbs = 1)) = true
  rw [decide_eq_true h1, decide_eq_true h2]
  rfl
theorem frac_isFq {d : PyData} (h : fracD d = true) : ∃ q, isFq d q := by
  obtain ⟨u, z, e⟩ := frac_of h
  unfold fracD at h
  rw [e] at h
  have h : (decide (0 < z) && decide (Nat.gcd u.natAbs z.natAbs = 1)) = true := h
  rw [Bool.and_eq_true] at h
  have h1 := of_decide_eq_true h.1
  have h2 := of_decide_eq_true h.2
  refine ⟨⟨u, z.natAbs, by omega, h2⟩, ?_⟩
  unfold isFq
  rw [e, Int.natAbs_of_nonneg (by omega)]
theorem Dr.frA {r : Addr} {H : Hp} {v : V} {d : PyData} {q : Rat} (h : Dr r H v d) (e : isFq d q) : FrA r H v q := by
  unfold isFq at e
  cases h with
  | lst n e1 ha =>
    obtain rfl := Option.some.inj e
    cases ha with
    | cons h1 h2 =>
    cases h2 with
    | cons h2 h3 =>
    cases h1
    cases h2
    cases h3
    exact ⟨_, rfl, n, .inr e1⟩
  | tup n e1 ha =>
    obtain rfl := Option.some.inj e
    cases ha with
    | cons h1 h2 =>
    cases h2 with
    | cons h2 h3 =>
    cases h1
    cases h2
    cases h3
    exact ⟨_, rfl, n, .inl e1⟩
  | _ => cases e
theorem k_ixA0 {K : PySem.W.Frag} {r : Addr} {v : V} {q : Rat} {H : Hp} {Q : VK} (h : FrA r H v q) (k : Q (.int q.num) H) : rIx K v (.int 0) H Q := by
  obtain ⟨a, rfl, _, h3⟩ := h
  rcases h3 with h3 | h3
  · exact .inr (.inl (k_ixT h3.sq rfl k))
  · exact .inl (k_ixL (.inl (.inl h3)) rfl k)
theorem k_ixA1 {K : PySem.W.Frag} {r : Addr} {v : V} {q : Rat} {H : Hp} {Q : VK} (h : FrA r H v q) (k : Q (.int (q.den : Int)) H) : rIx K v (.int 1) H Q := by
  obtain ⟨a, rfl, _, h3⟩ := h
  rcases h3 with h3 | h3
  · exact .inr (.inl (k_ixT h3.sq rfl k))
  · exact .inl (k_ixL (.inl (.inl h3)) rfl k)
def lenOk (d : PyData) : Prop := ∀ xs, itemsD d = some xs → xs.length ≤ 1000
theorem isFq_len {d : PyData} {q : Rat} (h : isFq d q) : lenOk d := fun xs e => by
  rw [h] at e
  cases e
  show (2 : Nat) ≤ 1000
  decide
/-! ### what reckons with fractions, and refuses what is none -/
theorem k_raiseC {W : WX} {C : Addr} {z : Str} {D : Ends} {σ : L2.St} {H : Hp} (hz : z.length ≤ 100) (q : ∀ d, H d = none → W (.ref C) (some d) σ (upd H d (.xd [("part", .str z)]))) :
    tRaiseE W C (spInit C ["part"]) (tCons (tC (.str z)) tNil) D σ H :=
  k_raiseE ⟨[z], rfl, rfl, by decide, fun y hy => by rw [List.mem_singleton.mp hy]; exact hz, q⟩ fun imp h => imp _ _ h
def spTwoX (C : Addr) : Sp := fun vs H Q E => ∃ (r : Addr) (v w : V) (d e : PyData), vs = [v, w] ∧ Dr r H v d ∧ Dr r H w e ∧ lenOk d ∧ lenOk e ∧
  (fracD d = true → fracD e = true → ∀ H', Same H H' → Q .non H') ∧ (fracD d = false → Outs E C "one" H) ∧ (fracD d = true → fracD e = false → Outs E C "other" H)
def spBinX (C : Addr) (f : Rat → Rat → Rat) : Sp := fun vs H Q E => ∃ (r : Addr) (v w : V) (d e : PyData), vs = [v, w] ∧ Dr r H v d ∧ Dr r H w e ∧ lenOk d ∧ lenOk e ∧
  (∀ p q, isFq d p → isFq e q → Sz 3000 p ∧ Sz 3000 q ∧ ∀ H' x, Same H H' → FrN H H' x (f p q) → Q x H') ∧ (fracD d = false → Outs E C "one" H) ∧ (fracD d = true → fracD e = false → Outs E C "other" H)
def spBelowX (C : Addr) : Sp := fun vs H Q E => ∃ (r : Addr) (v w : V) (d e : PyData), vs = [v, w] ∧ Dr r H v d ∧ Dr r H w e ∧ lenOk d ∧ lenOk e ∧
  (∀ p q, isFq d p → isFq e q → Sz 3000 p ∧ Sz 3000 q ∧ ∀ H', Same H H' → Q (.bl (decide (p < q))) H') ∧ (fracD d = false → Outs E C "one" H) ∧ (fracD d = true → fracD e = false → Outs E C "other" H)
def spRedX (C : Addr) : Sp := fun vs H Q E => ∃ (r : Addr) (v w : V) (d e : PyData), vs = [v, w] ∧ Dr r H v d ∧ Dr r H w e ∧
  (∀ u z, d = .int u → e = .int z → z ≠ 0 → z.natAbs < 2 ^ 8000 ∧ ∀ H' x, Same H H' → FrN H H' x (Rat.divInt u z) → Q x H') ∧ (ndInt d = false → Outs E C "up" H) ∧ (ndInt d = true → (ndInt e = false ∨ e = .int 0) → Outs E C "down" H)
theorem spRed_of {C : Addr} {vs : List V} {H : Hp} {Q : VK} {E : XK} (h : spRed vs H Q E) : spRedX C vs H Q E := by
  obtain ⟨u, w, rfl, h0, hw, q⟩ := h
  refine ⟨0, .int u, .int w, .int u, .int w, rfl, .int _, .int _, fun a b e1 e2 _ => ?_, (fun z => nomatch z), fun _ z => ?_⟩
  · cases e1
    cases e2
    exact ⟨hw, q⟩
  · rcases z with z | z
    · cases z
    · cases z
      exact absurd rfl h0
theorem isFq_two {p a : Rat} (h : isFq (fq p) a) : p.num = a.num ∧ p.den = a.den := by
  unfold isFq fq itemsD at h
  injection h with h
  injection h with h1 h2
  injection h2 with h2 h3
  injection h1 with h1
  injection h2 with h2
  exact ⟨h1, by omega⟩
theorem spBin_of {C : Addr} {f : Rat → Rat → Rat} {vs : List V} {H : Hp} {Q : VK} {E : XK} (h : spBin f vs H Q E) : spBinX C f vs H Q E := by
  obtain ⟨r, v, w, p, q, rfl, hp, hq, zp, zq, k⟩ := h
  refine ⟨r, v, w, fq p, fq q, rfl, hp.dr, hq.dr, isFq_len (isFq_fq p), isFq_len (isFq_fq q), fun a b e1 e2 => ?_, fun z => ?_, fun _ z => ?_⟩
  · obtain rfl : p = a := fq_inj (isFq_two e1)
    obtain rfl : q = b := fq_inj (isFq_two e2)
    exact ⟨zp, zq, k⟩
  · rw [isFq_frac (isFq_fq p)] at z
    cases z
  · rw [isFq_frac (isFq_fq q)] at z
    cases z
end Nd

namespace Nd
open PySem PySem.Spec PyProof.Rows L2 LamX
/-! ### sets built by a comprehension: O the new set, Ad what adding an item does -/
abbrev newSetObj (w : World) : Obj := { cls := .type "set", dict := none, data := .set #[] 0 (.fresh 0 0 (!w.params.followText "set-order")) }
abbrev AdT := V → Addr → Hp → (Hp → Prop) → Prop
def SetStarts (P : Program) (w : World) (O : Addr → HO) : Prop := ∀ (H : Hp) (h : Heap), ObjOk P w H (h.push (newSetObj w)) h.objs.size (O h.objs.size)
def SetAdds (P : Program) (w : World) (Ad : AdT) : Prop := ∀ (Y : Cx) (pins : List (Addr × Obj)) (σ : L2.St) (H : Hp) (s : Shared) (y : V) (z : Value) (D : Addr) (K : Hp → Prop) (E : Value → Shared → Prop) (Qs : Shared → Prop), Y.prog = P → Y.w = w →
  Inv Y pins σ H s → RelV y z → Ad y D H K → (∀ s' H', Inv Y pins σ H' s' → K H' → Qs s') → wpAny (model P w) Y.A (call (.builtin "set.add") [.ref D, z]) (fun _ s' => Qs s') E s
def ScIn (O : Addr → HO) (Ad : AdT) (J : It) (g : TG) (tt : TT) (te : TE) (vs : List Nat) (σ : L2.St) (H1 : Hp) (Q : VK) : Prop :=
  ∀ D, H1 D = none → ∃ W : Nat → Nat → Hp → Prop, (∃ m, W 0 m (upd H1 D (O D))) ∧ ∀ i m H, W i m H →
    (J.stop i H ∧ Q (.ref D) H) ∨ (J.go i H ∧ ∃ Nx : Hp → Prop, (∀ H', Nx H' → ∃ m', m' < m ∧ W (i + 1) m' H') ∧ ∀ x H', J.yld i H x H' → g x (wipe σ vs) H' fun σ2 H2 => wipe σ2 vs = wipe σ vs ∧ tt σ2 H2 fun b H3 =>
      if b = true then te σ2 H3 fun y H4 => Ad y D H4 Nx else Nx H3)
def tScG (O : Addr → HO) (Ad : AdT) (wi : TI) (g : TG) (tt : TT) (te : TE) (vs : List Nat) : TE := fun σ H Q => wi σ H fun J H1 => ScIn O Ad J g tt te vs σ H1 Q
section
variable {X : Cx}
theorem pe_scG {O : Addr → HO} {Ad : AdT} {elt tg iter : Expr} {ifs : List Expr} {scope : Scope} {own : List (PySem.Str × Nat)} {pos : Pos} {wi : TI} {g : TG} {tt : TT} {te : TE} (hO : SetStarts X.prog X.w O) (hA : SetAdds X.prog X.w Ad)
    (hc : X.calm = true) (hN : X.N.Nodup) (hi : PI X tg iter wi) (ok : BlkOk X.N X.env.scope scope own)
    (hg : ∀ (s : Shared) (H : Hp) (C : Addr) (cl : List (PySem.Str × Addr)) (fp : List Addr), PG (X.blk s H scope (compEnvC scope cl C X.env) fp) tg g) (ht : ∀ (s : Shared) (H : Hp) (C : Addr) (cl : List (PySem.Str × Addr)) (fp : List Addr), PTs (X.blk s H scope (compEnvC scope cl C X.env) fp) ifs tt)
    (he : ∀ (s : Shared) (H : Hp) (C : Addr) (cl : List (PySem.Str × Addr)) (fp : List Addr), PE (X.blk s H scope (compEnvC scope cl C X.env) fp) elt te) (hs : ∀ x, foldedSetIterable iter X.env x = pure x := by intro _; rfl) :
    PE X (.SetComp elt [⟨tg, iter, ifs, 0⟩] scope pos) (tScG O Ad wi g tt te (own.map (·.2))) := by
  refine ⟨fun pins s σ H Q I h => ?_⟩
  rw [PpSet.eval_SetComp]
  have hfree : ∀ y ∈ scope.names, y.2 = .free → ∃ c, X.env.cells.lookup y.1 = some c := fun y hy e => (ok.free y hy e).elim (fun k => I.ok.has _ (.inl k)) fun k => I.ok.has _ (.inr k)
  refine wpAny_comprehension_free (use := none) rfl hs (closure_ok hfree) ok.kind (fun y hy e => by rw [ok.uniq y hy, e])
    (thn (hi.run pins s σ H _ I h) fun xv s1 hx => thn hx fun itv s2 ⟨it, fp, tn, J, H2, e, I2, T, st2, f2, q⟩ => ?_)
  subst e
  refine PpSet.newSet_ok (newEnv_comp ?_)
  obtain ⟨D, hD⟩ : ∃ D, s2.heap.objs.size = D := ⟨_, rfl⟩
  rw [hD]
  obtain ⟨W, ⟨m0, w0⟩, turn⟩ := q D (I2.hok.fresh (Nat.le_of_eq hD))
  obtain ⟨s3, hs3⟩ : ∃ s3 : Shared, { s2 with heap := s2.heap.push (newSetObj X.w) } = s3 := ⟨_, rfl⟩
  obtain ⟨H3, hH3⟩ : ∃ H3 : Hp, upd H2 D (O D) = H3 := ⟨_, rfl⟩
  rw [hH3] at w0
  have h3 : s3.heap = s2.heap.push (newSetObj X.w) := by rw [← hs3]
  have I3 : Inv X pins σ H3 s3 := by
    rw [← hs3, ← hH3]
    refine I2.laid (t' := s2.toks) (fun b o e => Heap.get?_push_of_some _ e) (Nat.le_of_eq hD) ?_
    rw [← hD]
    exact hO _ _
  have f3 : ∀ b ∈ fp, FpOk X pins H3 b ∧ b < s3.heap.objs.size := fun b hb => by
    obtain ⟨o, e, _⟩ := T.obj _ _ st2 b hb
    have hlt := Heap.lt_size e
    refine ⟨⟨?_, (f2 b hb).2⟩, by rw [h3, Heap.size_push]; exact Nat.lt_succ_of_lt hlt⟩
    rw [← hH3, upd_ne (by rw [← hD]; exact Nat.ne_of_lt hlt)]
    exact (f2 b hb).1
  have st3 : tn 0 s3.heap := T.keep _ _ _ st2 fun b _ o e => by rw [h3]; exact Heap.get?_push_of_some _ e
  have I4 := block_start I3 ok hN f3
  have pg := hg s3 H3 s3.heap.objs.size (cellsFrom (s3.heap.objs.size + 1) scope.names (cloFrom X.env.cells scope.names [])) fp
  have pt := ht s3 H3 s3.heap.objs.size (cellsFrom (s3.heap.objs.size + 1) scope.names (cloFrom X.env.cells scope.names [])) fp
  have pe := he s3 H3 s3.heap.objs.size (cellsFrom (s3.heap.objs.size + 1) scope.names (cloFrom X.env.cells scope.names [])) fp
  have nfp : ∀ b ∈ fp, H3 b = none := fun b hb => (f3 b hb).1.1
  change codeAny _ _ (.compStart (.SetComp elt [⟨tg, iter, ifs, 0⟩] scope pos) 0 (.ref it) (.ref D) (compEnvC scope (cellsFrom ({ s2 with heap := s2.heap.push (newSetObj X.w) } : Shared).heap.objs.size.succ scope.names (cloFrom X.env.cells scope.names [])) ({ s2 with heap := s2.heap.push (newSetObj X.w) } : Shared).heap.objs.size X.env)) (compPost (model X.prog X.w) X.A X.xe none (EP X pins σ Q) (.ref D) ({ s2 with heap := s2.heap.push (newSetObj X.w) } : Shared).heap.objs.size) { ({ s2 with heap := s2.heap.push (newSetObj X.w) } : Shared) with heap := pushCells (({ s2 with heap := s2.heap.push (newSetObj X.w) } : Shared).heap.push { cls := .type "dict", data := .dict #[] }) scope.names }
  rw [hs3]
  generalize hce : compEnvC scope (cellsFrom (s3.heap.objs.size + 1) scope.names (cloFrom X.env.cells scope.names [])) s3.heap.objs.size X.env = ce at I4 pg pt pe ⊢
  have cL : ce.locals = s3.heap.objs.size := by subst hce; rfl
  generalize hs4 : ({ s3 with heap := pushCells (s3.heap.push { cls := .type "dict", data := .dict #[] }) scope.names } : Shared) = s4 at I4 ⊢
  have st4 : tn 0 s4.heap := T.keep _ _ _ st3 fun b _ o e => by rw [← hs4]; exact pushCells_keeps _ _ _ _ (Heap.get?_push_of_some _ e)
  have stat : ∀ {σ' : L2.St} {H' : Hp} {s' : Shared}, Inv (X.blk s3 H3 scope ce fp) [] σ' H' s' → (∀ b ∈ fp, H' b = none) → ∀ b ∈ fp, FpOk (X.blk s3 H3 scope ce fp) [] H' b := fun {σ' H' s'} I' hn b hb =>
    ⟨hn b hb, (I'.ok.exf b hb).1, I'.ok.exfs b hb, .inl hb, fun x c e => (I'.ok.exf b hb).2 x c e, fun p hp => absurd (show p ∈ ([] : List (Addr × Obj)) ++ [] from hp) (by simp)⟩
  have loop : codeAny (model X.prog X.w) X.A (.compLoop (.SetComp elt [⟨tg, iter, ifs, 0⟩] scope pos) 0 (.ref it) (.ref D) ce) (compPost (model X.prog X.w) X.A X.xe none (EP X pins σ Q) (.ref D) s3.heap.objs.size) s4 := by
    refine PpSet.compLoopS_any (fun n s' => ∃ i H', Inv (X.blk s3 H3 scope ce fp) [] (wipe σ (own.map (·.2))) H' s' ∧ tn i s'.heap ∧ (∀ b ∈ fp, H' b = none) ∧ W i n H') ?_ m0 ⟨0, H3, I4, st4, nfp, w0⟩
    rintro n s5 ⟨i, H5, I5, st5, n5, w5⟩
    rcases turn i n H5 w5 with ⟨stop, qq⟩ | ⟨go, Nx, hNx, step⟩
    · refine thnF (T.done (X.blk s3 H3 scope ce fp) rfl rfl rfl hc i [] s5 _ H5 (fun _ _ => False) I5 (stat I5 n5) st5 stop) fun r s6 ⟨hr, I6⟩ => ?_
      subst hr
      have I7 : Inv X pins σ H5 s6 := I3.call' (ch := fp) I6.os I6.base I6.hok I6.bare fun b hb => ⟨(f3 b hb).1.2.2.2.1, (f3 b hb).1.2.1, (f3 b hb).1.2.2.2.2.1, (f3 b hb).1.2.2.2.2.2⟩
      have nC : H5 s3.heap.objs.size = none := by
        have z : H5 ce.locals = none := I6.free
        rwa [cL] at z
      obtain ⟨m, hn, _⟩ := I6.loc
      have hn : s6.heap.Ns ce.locals m := hn
      rw [cL] at hn
      refine ⟨m, hn, fun h'' sb => ?_⟩
      obtain ⟨_, f1, f2', f3', f4, f5⟩ := I3.fpOk (Nat.le_refl _) nC
      exact ⟨.ref D, H5, I7.turned (t' := s6.toks) (fun b o hb e => (sb.2 b hb).trans e) nC f1 f3' f4 f5, rfl, qq⟩
    · refine thnF (T.item (X.blk s3 H3 scope ce fp) rfl rfl rfl hc i [] s5 _ H5 (fun _ _ => False) I5 (stat I5 n5) st5 go) fun r s6 ⟨u, hr, h6⟩ => ?_
      subst hr
      refine thnF h6 fun _ s7 ⟨x, H7, I7, r7, y7, st7, n7⟩ => ?_
      have I7' := I7.pinned (stat I7 n7) (T.obj _ _ st7)
      refine thnF (pg.run _ s7 _ H7 x u _ I7' r7 (step x H7 y7)) fun _ s8 ⟨σ8, H8, I8, hw8, q8⟩ => ?_
      refine thnF (pt.run _ s8 σ8 H8 _ I8 q8) fun b s9 ⟨H9, I9, q9⟩ => ?_
      have fin : ∀ (s' : Shared) (H' : Hp), Inv (X.blk s3 H3 scope ce fp) ([] ++ pinsAt fp s7.heap) σ8 H' s' → Nx H' → ∃ m, m < n ∧ ∃ i H', Inv (X.blk s3 H3 scope ce fp) [] (wipe σ (own.map (·.2))) H' s' ∧ tn i s'.heap ∧ (∀ b ∈ fp, H' b = none) ∧ W i m H' := fun s' H' I' nx => by
        obtain ⟨m', hm, w'⟩ := hNx H' nx
        have pin' : ∀ b ∈ fp, ∀ o, s7.heap.get? b = some o → s'.heap.get? b = some o ∧ H' b = none := fun b hb o e =>
          let z := I'.pin (b, o) (List.mem_append_right _ (List.mem_append_right _ (mem_pinsAt hb e)))
          ⟨z.1, z.2.1⟩
        have hl : (wipe σ (own.map (·.2))).length = σ8.length := by rw [← hw8, wipe_length]
        refine ⟨m', hm, i + 1, H', (I'.unpinned (pins := [])).weak hl (fun j v e => ?_), T.keep _ _ _ st7 fun b hb o e => (pin' b hb o e).1, fun b hb => ?_, w'⟩
        · rw [← hw8] at e
          exact (wipe_some e).1
        · obtain ⟨o, e, _⟩ := T.obj _ _ st7 b hb
          exact (pin' b hb o e).2
      cases b with
      | false => exact fin _ _ I9 (by simpa using q9)
      | true =>
        simp only [if_true] at q9 ⊢
        refine thnF (pe.run _ s9 σ8 H9 _ I9 q9) fun z s10 ⟨yv, H10, I10, r10, ad⟩ => ?_
        exact hA (X.blk s3 H3 scope ce fp) _ _ _ _ _ _ _ _ _ _ rfl rfl I10 r10 ad fin
  exact PpSet.codeAny_compStart_set loop (T.self X.A 0 _ _ _ st4 loop)
end
end Nd

namespace Nd
open PySem PySem.Spec PyProof.Rows L2 LamX
/-! ### a list or a tuple: walked, unpacked -/
def SqA (K : PySem.W.Frag) (H : Hp) (a : Addr) (xs : List V) : Prop := SqL K H a xs ∨ SqT K H a xs
theorem SqA.stay {K : PySem.W.Frag} {H H' : Hp} {a : Addr} {xs : List V} (h : SqA K H a xs) (k : ∀ o, H a = some o → H' a = some o) : SqA K H' a xs := by
  rcases h with ((h | ⟨o, h⟩) | h) | ((h | ⟨o, h⟩) | h)
  · exact .inl (.inl (.inl (k _ h)))
  · exact .inl (.inl (.inr ⟨o, k _ h⟩))
  · exact .inl (.inr h)
  · exact .inr (.inl (.inl (k _ h)))
  · exact .inr (.inl (.inr ⟨o, k _ h⟩))
  · exact .inr (.inr h)
def AnyWalk (K : PySem.W.Frag) (H1 : Hp) (a : Addr) (xs : List V) (R : It → Hp → Prop) : Prop :=
  ∀ (J : It) (G : Hp → Prop), Walk J xs.length G (YAt xs) → (∀ H', (∀ o, H1 a = some o → H' a = some o) → G H') → R J H1
def iAny (K : PySem.W.Frag) (tl : TE) : TI := fun σ H R => tl σ H fun x H1 => ∃ a xs, x = .ref a ∧ SqA K H1 a xs ∧ AnyWalk K H1 a xs R
section
variable {X : Cx} {tg : Expr}
theorem pi_any {l : Expr} {tl : TE} (hl : PE X l tl) : PI X tg l (iAny X.K tl) := by
  refine ⟨fun pins s σ H R I h => ?_⟩
  refine thn (hl.run pins s σ H _ I h) fun v s1 ⟨x, H1, I1, r1, a, xs, e, hq, q⟩ => ?_
  subst e
  cases r1
  have fresh : ∀ b ∈ [s1.heap.objs.size], FpOk X pins H1 b := fun b hb => by
    obtain rfl : b = s1.heap.objs.size := by simpa using hb
    exact I1.fpOk (Nat.le_refl _) (I1.hok.fresh (Nat.le_refl _))
  have kept : ∀ o : Obj, Inv X pins σ H1 { s1 with heap := s1.heap.push o } := fun o => I1.kept (t' := s1.toks) fun b o e => Heap.get?_push_of_some _ e
  rcases hq with hq | hq
  · obtain ⟨its, rv, p, hz⟩ := I1.list hq
    refine wpAny_pyIter_list p.isList ?_
    exact ⟨s1.heap.objs.size, [s1.heap.objs.size], _, _, H1, rfl, kept _, turn_list a _, ⟨_, Heap.get?_push_size _ rfl, rfl, rfl⟩, fresh, q _ _ walk_list fun H' k => (SqA.stay (.inl hq) k).elim id fun z => by
      rcases hq with (hq | ⟨o, hq⟩) | hq
      · exact .inl (.inl (k _ hq))
      · exact .inl (.inr ⟨o, k _ hq⟩)
      · exact .inr hq⟩
  · obtain ⟨its, rv, p, hz⟩ := I1.tuple hq
    refine wpAny_pyIter_tuple (show s1.heap.IsTuple a its.toArray from p) ?_
    exact ⟨s1.heap.objs.size, [s1.heap.objs.size], _, _, H1, rfl, kept _, turn_tuple a _, ⟨_, Heap.get?_push_size _ rfl, rfl, rfl⟩, fresh, q _ _ walk_tup fun H' k => by
      rcases hq with (hq | ⟨o, hq⟩) | hq
      · exact .inl (.inl (k _ hq))
      · exact .inl (.inr ⟨o, k _ hq⟩)
      · exact .inr hq⟩
def gAny (K : PySem.W.Frag) (n : Nat) (t : TGs) : TG := fun v σ H Q => ∃ a xs, v = .ref a ∧ SqA K H a xs ∧ xs.length = n ∧ t xs σ H Q
theorem pg_any {es : List Expr} {k : Nat} {t : TGs} {n : Nat} {pos : Pos} (hc : X.calm = true) (h : PGs X es t)
    (hn : (assignEach es X.env).length = n := by rfl) (hst : (assignEach es X.env).findIdx? (·.1) = none := by rfl) : PG X (.Tuple es k pos) (gAny X.K n t) := by
  refine ⟨fun pins s σ H v u Q I r ⟨a, xs, e, hq, hl, hw⟩ => ?_⟩
  rcases hq with hq | hq
  · exact (pg_unl (pos := pos) (k := k) hc h hn hst).run pins s σ H v u Q I r ⟨a, xs, e, hq, hl, hw⟩
  · exact (pg_tup (pos := pos) (k := k) hc h hn hst).run pins s σ H v u Q I r ⟨a, xs, e, hq, hl, hw⟩
end
theorem k_iAny {K : PySem.W.Frag} {tl : TE} {σ : L2.St} {H : Hp} {R : It → Hp → Prop} (h : tl σ H fun x H1 => ∃ a xs, x = .ref a ∧ SqA K H1 a xs ∧ AnyWalk K H1 a xs R) : iAny K tl σ H R := h
theorem k_gany {K : PySem.W.Frag} {n : Nat} {t : TGs} {a : Addr} {xs : List V} {σ : L2.St} {H : Hp} {Q : L2.St → Hp → Prop} (h1 : SqA K H a xs) (h2 : xs.length = n) (h : t xs σ H Q) : gAny K n t (.ref a) σ H Q := ⟨a, xs, rfl, h1, h2, h⟩
theorem lcIn_W {J : It} {G : Hp → Prop} {xs : List V} (W : Walk J xs.length G (YAt xs)) {j : Nat} {tt : TT} {te : TE} {vs : List Nat} {σ : L2.St} {H1 : Hp} {Q : VK} (f : Nat → Bool) (v : Nat → V)
    (hG : ∀ H', Same H1 H' → G H') (hz : xs.length ≤ 100000) (hw : ∀ x, wipe ((wipe σ vs).set j (some x)) vs = wipe σ vs)
    (step : ∀ i x H2, xs[i]? = some x → Same H1 H2 → Turn tt te ((wipe σ vs).set j (some x)) H2 (f i) (v i))
    (fin : ∀ p H', H1 p = none → Same H1 H' → H' p = some (.lst (given xs.length f v)) → Q (.ref p) H') : LcIn J (gName j) tt te vs σ H1 Q := fun D hD =>
  lc_it W (Cw H1 f v D) (cw_start hD) (fun i H' _ p => hG _ p.1) (fun i x H H' hi p y => by
    obtain ⟨rfl, hx⟩ := y
    exact cw_turn hD p (by omega) (hw x) (step i x _ hx p.1)) (fun H' p => fin D H' hD p.1 p.2)
/-! ### sets of ints by a comprehension -/
def AdI (w : World) : AdT := fun y D H Nx => ∃ (k : Int) (S : Int → Bool) (n : Nat), y = .int k ∧ H D = some (SetO w D S n) ∧ n + 1 < scanBound ∧ Nx (upd H D (SetO w D (fun j => S j || decide (j = k)) (if S k = true then n else n + 1)))
def O0 (w : World) : Addr → HO := fun D => SetO w D (fun _ => false) 0
theorem setI_starts {P : Program} {w : World} : SetStarts P w (O0 w) := fun H h => setO_new (setR_fresh w)
theorem setI_adds {P : Program} {w : World} : SetAdds P w (AdI w) := fun Y pins σ H s y z D Nx E Qs e1 e2 I r ⟨k, S, n, ey, eD, room, nx⟩ q => by
  subst e1
  subst e2
  subst ey
  obtain ⟨tk, rfl⟩ := r
  refine setR_add (setO_get I eD) room fun h' sb new => ?_
  have he : ∃ u, h'.get? D = some u := by
    have ⟨o, _, _, _, ho, _⟩ := new
    exact ⟨o, ho⟩
  exact q _ _ (I.write (e := D) (t' := s.toks + 1) (by rw [eD]; trivial) (.inl rfl) (fun b u hb hu => (sb.2 b hb).trans hu) he (setO_new new)) nx
def rLenS (w : World) : List V → Hp → VK → Prop := fun xs H Q => ∃ (a : Addr) (S : Int → Bool) (n : Nat), xs = [.ref a] ∧ H a = some (SetO w a S n) ∧ n < scanBound ∧ Q (.int (n : Int)) H
theorem call_lenS {X : Cx} : CallR X (.builtin "len") (rLenS X.w) := by
  intro pins s σ H xs us Q I r h
  obtain ⟨a, S, n, rfl, ha, hb, q⟩ := h
  obtain ⟨u, rfl, rx⟩ := vals1 r
  cases rx
  obtain ⟨o, es, ep, t, ho, hex, hd, _, _, _, hf, hn⟩ := (setO_get I ha).setOf (P := X.prog)
  have h63 : (es.size : Int) < 2 ^ 63 := by
    have : scanBound = 4096 := rfl
    omega
  refine call_len_set ho hex hd hf h63 ⟨.int (n : Int), H, I.tok _, ⟨_, by rw [hn]⟩, q⟩
/-- how many numbers a list has, each once -/
def dcR : List Int → Nat
  | [] => 0
  | k :: r => if k ∈ r then dcR r else dcR r + 1
theorem dcR_le : ∀ l : List Int, dcR l ≤ l.length
  | [] => Nat.le_refl _
  | k :: r => by
    have := dcR_le r
    rw [dcR, List.length_cons]
    split <;> omega
theorem dcR_nodup : ∀ l : List Int, dcR l = l.length ↔ l.Nodup
  | [] => by simp [dcR]
  | k :: r => by
    have h1 := dcR_le r
    have ih := dcR_nodup r
    rw [dcR, List.length_cons, List.nodup_cons]
    by_cases h : k ∈ r
    · rw [if_pos h]
      exact ⟨fun e => by omega, fun e => absurd h e.1⟩
    · rw [if_neg h]
      exact ⟨fun e => ⟨h, ih.mp (by omega)⟩, fun e => by rw [ih.mpr e.2]⟩
theorem dcR_same {c : Int} : ∀ l : List Int, (∀ k ∈ l, k = c) → dcR l ≤ 1
  | [], _ => by simp [dcR]
  | k :: r, h => by
    have ih := dcR_same r fun x hx => h x (List.mem_cons_of_mem _ hx)
    rw [dcR]
    by_cases hm : k ∈ r
    · rw [if_pos hm]
      exact ih
    · rw [if_neg hm]
      cases r with
      | nil => simp [dcR]
      | cons x xs => exact absurd (by rw [h k List.mem_cons_self, h x (by simp)]; exact List.mem_cons_self) hm
/-- over anything walked: f i the i-th item's number -/
theorem scIn_it {w : World} {J : It} {n : Nat} {G : Hp → Prop} {Y : Nat → Hp → V → Hp → Prop} (W : Walk J n G Y) {g : TG} {tt : TT} {te : TE} {vs : List Nat} {σ : L2.St} {H1 : Hp} {Q : VK} (f : List Int) (hf : f.length = n) (hn : n ≤ 4000)
    (hG : ∀ H', Same H1 H' → G H')
    (step : ∀ (i : Nat) (x : V) (H H' : Hp) (k : Int), f[i]? = some k → Same H1 H → Y i H x H' → ∀ (QE : VK) (Z : Hp → Prop), (∀ H4, Same H H4 → QE (.int k) H4) → g x (wipe σ vs) H' fun σ2 H2 => wipe σ2 vs = wipe σ vs ∧ tt σ2 H2 fun b H3 => if b = true then te σ2 H3 QE else Z H3)
    (fin : ∀ (p : Addr) (H' : Hp), H1 p = none → Same H1 H' → H' p = some (SetO w p (fun j => decide (j ∈ f)) (dcR f.reverse)) → Q (.ref p) H') : ScIn (O0 w) (AdI w) J g tt te vs σ H1 Q := by
  intro D hD
  refine ⟨fun i m H => m = n - i ∧ i ≤ n ∧ Same H1 H ∧ H D = some (SetO w D (fun j => decide (j ∈ f.take i)) (dcR (f.take i).reverse)), ⟨n, by simp, Nat.zero_le _, Same.new hD, ?_⟩, ?_⟩
  · rw [upd_same]
    simp [O0, dcR]
  rintro i m H ⟨rfl, hi, s1, eD⟩
  by_cases hlt : i < n
  · obtain ⟨k, hk⟩ : ∃ k, f[i]? = some k := ⟨f[i]'(by omega), by simp [hf, hlt]⟩
    have ht : f.take (i + 1) = f.take i ++ [k] := by rw [List.take_succ, hk]; rfl
    refine .inr ⟨W.goes i H hlt (hG H s1), fun H' => Same H1 H' ∧ H' D = some (SetO w D (fun j => decide (j ∈ f.take (i + 1))) (dcR (f.take (i + 1)).reverse)), fun H' p => ⟨n - (i + 1), by omega, rfl, hlt, p⟩, fun x H' y => ?_⟩
    refine step i x H H' k hk s1 (W.yields i H x H' hlt (hG H s1) y) _ _ fun H4 s4 => ?_
    have hle := dcR_le (f.take i).reverse
    rw [List.length_reverse, List.length_take] at hle
    refine ⟨k, _, _, rfl, s4 _ _ eD, by have : scanBound = 4096 := rfl; omega, fun b o e => ?_, ?_⟩
    · rw [upd_ne (ne_of_none e hD)]
      exact s4 _ _ (s1 _ _ e)
    · rw [upd_same, ht, List.reverse_append]
      have e1 : (fun j => decide (j ∈ f.take i) || decide (j = k)) = fun j => decide (j ∈ f.take i ++ [k]) := funext fun j => by
        rw [Bool.eq_iff_iff]
        simp
      have e2 : (if decide (k ∈ f.take i) = true then dcR (f.take i).reverse else dcR (f.take i).reverse + 1) = dcR ([k].reverse ++ (f.take i).reverse) := by
        show _ = dcR (k :: (f.take i).reverse)
        rw [dcR]
        by_cases hm : k ∈ f.take i
        · rw [if_pos (decide_eq_true hm), if_pos (List.mem_reverse.mpr hm)]
        · rw [if_neg (fun z => hm (of_decide_eq_true z)), if_neg (fun z => hm (List.mem_reverse.mp z))]
      rw [e1, e2]
  · have e : i = n := by omega
    subst e
    refine .inl ⟨W.stops H (hG H s1), ?_⟩
    rw [← hf, List.take_length] at eD
    exact fin D H hD s1 eD
theorem k_scG {O : Addr → HO} {Ad : AdT} {wi : TI} {g : TG} {tt : TT} {te : TE} {vs : List Nat} {σ : L2.St} {H : Hp} {Q : VK} (h : wi σ H fun J H1 => ScIn O Ad J g tt te vs σ H1 Q) : tScG O Ad wi g tt te vs σ H Q := h
/-! ### several things tracked at once -/
theorem inv_lay {X : Cx} {pins : List (Addr × Obj)} {σ : L2.St} {H H' : Hp} {s : Shared} {h' : Heap} {tk : Nat} (I : Inv X pins σ H s) (hk : ∀ b o, s.heap.get? b = some o → h'.get? b = some o) (kp : ∀ b o, H b = some o → H' b = some o)
    (new : ∀ b u, H' b = some u → H b = none → s.heap.objs.size ≤ b ∧ ObjOk X.prog X.w H' h' b u) : Inv X pins σ H' { s with heap := h', toks := tk } := by
  refine I.call' (ch := []) rfl ⟨fun b o q _ _ _ => hk b o q, fun b o q _ _ _ => ⟨o.slots, hk b o q⟩, fun b o q n _ => ?_, fun b o q _ => ⟨o, hk b o q⟩, fun b xs q => kp b _ q, fun b o u q => kp b _ q, fun b ps q => ⟨#[], by rw [kp b _ q]; simp⟩⟩ (fun b u q => ?_) I.bare fun b z => by simp at z
  · cases e : H' b with
    | none => rfl
    | some u => exact absurd (Heap.lt_size q) (Nat.not_lt.mpr (new b u e n).1)
  · cases e : H b with
    | none => exact (new b u q e).2
    | some u0 =>
      have e2 := kp b u0 e
      rw [q] at e2
      cases e2
      exact (I.hok b u e).stay (fun d v _ y => hk d v y) (fun d y => kp d _ y) fun d xs y => kp d _ y
end Nd

namespace Nd
open PySem PySem.Spec PyProof.Rows L2 LamX L2.DX
/-! ### sorted(d), sorted(d.items()), list(d.items()), any number of entries, keys all ints -/
def rSortD : List V → Hp → VK → Prop := fun xs H Q => ∃ (a : Addr) (kvs : List (Key × V)) (ks : List Int), xs = [.ref a] ∧ Rd H a (.dK kvs) ∧ kvs.map (·.1) = ks.map Sum.inl ∧
  ∀ (ys : List Int) (p : Addr), ys.Perm ks → ys.Pairwise (· ≤ ·) → H p = none → Q (.ref p) (upd H p (.lst (ys.map V.int)))
section
variable {X : Cx}
theorem cr_sortedD (hc : X.calm = true) : CallR X (.builtin "sorted") rSortD := by
  intro pins s σ H xs us Q I r ⟨a, kvs, ks, ex, hd, hks, q⟩
  subst ex
  obtain ⟨u, eu, rx⟩ := vals1 r
  subst eu
  cases rx
  have hz : kvs.length ≤ sizeLine := (hd.ok I.hok).1
  obtain ⟨z, lo, vs, rel, dd⟩ := dk_rd I.hok hd
  obtain ⟨ep, hat⟩ := dd.dictAt
  have hkeys : vs.map (·.1) = ks.map Sum.inl := rel.keys.symm.trans hks
  have hl : vs.length = ks.length := by
    have e := congrArg List.length hkeys
    rwa [List.length_map, List.length_map] at e
  have hlk : kvs.length = ks.length := by
    have e := congrArg List.length hks
    rwa [List.length_map, List.length_map] at e
  have hzs : ks.length ≤ sizeLine := by omega
  refine Calls.call_function_entry PyProof.Rows.kind_sorted PyProof.Rows.plain_sorted PyProof.Rows.entry_sorted (PyProof.Rows.args_sorted1 _) ?_
  unfold Builtin.«sorted»
  refine wpAny_bind (m := checkCount "sorted" 1 1 _) (wpAny_pure ?_)
  refine wpAny_bind (PySem.W.kdu_collect (A := X.A.in1) (PySem.W.kdl_dict (knd := mixKind X.prog X.w) (kvs := vs) (ep := ep) lo) (I.ok.hd hc) hat (by omega) fun h' tk acc hk hacc => ?_)
  have hal : acc.toList.length = ks.length := by rw [Array.length_toList, hacc.1, hl]
  have hS : IntsAre acc.toList ks := ints_each hal fun j v e => by
    obtain ⟨k, x, e1, e2⟩ := hacc.2 j v (by rw [← Array.getElem?_toList]; exact e)
    have e3 : (vs.map (·.1))[j]? = some k := by rw [List.getElem?_map, e1]; rfl
    rw [hkeys, List.getElem?_map] at e3
    obtain ⟨y, e4, e5⟩ := Option.map_eq_some_iff.mp e3
    subst e5
    rcases keyIs_shape (show keyIs (Sum.inl y) v = true from e2) with ⟨i, t, ek, ev⟩ | ⟨z, t, ek, ev⟩
    · cases ek
      exact ⟨y, t, e4, ev⟩
    · cases ek
  have I1 : Inv X pins σ H { s with heap := h', toks := tk } := I.kept hk
  refine wpAny_bind (wpAny_newList ?_ (by rw [hal]; exact hzs))
  have hoL : (h'.push (seqObj "list" acc.toList.toArray 0)).get? h'.objs.size = some (seqObj "list" acc.toList.toArray 0) := Heap.get?_push_size _ rfl
  show wpAny _ _ _ _ _ { s with heap := h'.push (seqObj "list" acc.toList.toArray 0), toks := tk }
  refine wpAny_bind (wpAny_holding (wpAny_call_entry PyProof.Rows.slot_list_sort ⟨_, hoL, rfl⟩ PyProof.Rows.entry_list_sort
    (SrtO.list_sort_ord (s := { s with heap := h'.push (seqObj "list" acc.toList.toArray 0), toks := tk }) SrtO.swo_int hoL (by rw [hal]; exact hzs) (fun h2 => SrtO.ints_sortable hS h2) fun out g1 g2 => ⟨_, rfl, ?_⟩) (PyProof.Rows.args_list_sort _)))
  obtain ⟨k1, k2, k3⟩ := SrtO.ints_out hS g1 g2
  obtain ⟨e', he'⟩ := PyProof.Rows.sortedHeap_at (vs := acc.toList) (out := out.toArray) hoL
  refine wpAny_pure ⟨_, rfl, .ref h'.objs.size, upd H h'.objs.size (.lst ((out.map SrtO.iv).map V.int)), I1.laid (t' := tk) (fun b u e => ?_) (Nat.le_refl _)
    (show ObjOk X.prog X.w _ _ _ (.lst ((out.map SrtO.iv).map V.int)) from ⟨by rw [List.length_map, k2.length_eq]; exact hzs, out, e', vals_of_ints k1, he'⟩), rfl, q _ _ k2 k3 (I1.hok.fresh (Nat.le_refl _))⟩
  have hb : b < h'.objs.size := Heap.lt_size e
  rw [PyProof.Rows.sortedHeap_old (Nat.ne_of_lt hb) (by rw [size_push']; exact Nat.lt_succ_of_lt hb)]
  exact Heap.get?_push_of_some _ e
def rItemsK : V → List V → Hp → VK → Prop := fun x xs H Q => ∃ (a : Addr) (kvs : List (Key × V)), x = .ref a ∧ xs = [] ∧ H a = some (.dK kvs) ∧ ∀ p, H p = none → Q (.ref p) (upd H p (itemsO p a))
theorem mt_itemsK : MtR X "dict.items" rItemsK := by
  intro pins s σ H x xs v us Q I rx rxs ⟨a, kvs, ex, exs, ha, q⟩
  subst ex
  subst exs
  cases rx
  cases rxs
  obtain ⟨z, hd, vs, kv, hdo⟩ := dk_of I.hok ha
  obtain ⟨ep, o, es, ho, hx, hdat, hk, hp, hn⟩ := hdo.dictAt
  refine DT.callItems (es := es) (ep := ep) hd ⟨o, ho, hx, hdat⟩ ?_
  exact ⟨.ref s.heap.objs.size, upd H s.heap.objs.size (itemsO s.heap.objs.size a), I.laid (t' := s.toks) (fun b u e => Heap.get?_push_of_some _ e) (Nat.le_refl _) (itemsO_ok (Heap.get?_push_size _ rfl)), rfl, q _ (I.hok.fresh (Nat.le_refl _))⟩
end
theorem prs_get {P : Program} {w : World} {es : List DictEntry} {vs : List (Key × Value)} (h : Pairs (mixKind P w) es vs) : ∀ {j : Nat} {e : DictEntry}, es[j]? = some e → ∃ kv, vs[j]? = some kv ∧ (mixKind P w).is kv.1 e.key = true ∧ e.val = kv.2 := by
  induction h with
  | nil => intro j e h; cases h
  | cons h1 h2 _ ih =>
    intro j e h
    cases j with
    | zero =>
      cases h
      exact ⟨_, rfl, h1, h2⟩
    | succ j => exact ih h
theorem prs_len {P : Program} {w : World} {es : List DictEntry} {vs : List (Key × Value)} (h : Pairs (mixKind P w) es vs) : es.length = vs.length := by
  induction h with
  | nil => rfl
  | cons _ _ _ ih => rw [List.length_cons, List.length_cons, ih]
def keyOfPair (h : Heap) : Value → Int × Int
  | .ref a => match h.get? a with
    | some o => match o.data with
      | .seq vs _ => match vs.toList with
        | [.int x _, .int y _] => (x, y)
        | _ => (0, 0)
      | _ => (0, 0)
    | none => (0, 0)
  | _ => (0, 0)
theorem keyOfPair_at {h : Heap} {a : Addr} {x y : Int} {t u : Tok} {o : Obj} {n : Nat} (e : h.get? a = some o) (d : o.data = .seq #[.int x t, .int y u] n) : keyOfPair h (.ref a) = (x, y) := by
  simp [keyOfPair, e, d]
def unRef : Value → Addr
  | .ref b => b
  | _ => 0
/-- p not behind q -/
def lexLe (p q : Int × Int) : Prop := p.1 < q.1 ∨ (p.1 = q.1 ∧ p.2 ≤ q.2)
def entI (p : Int × Int) : Key × V := (.inl p.1, .int p.2)
def rSortKI : List V → Hp → VK → Prop := fun vs H Q => ∃ (p a : Addr) (ps : List (Int × Int)), vs = [.ref p] ∧ H p = some (itemsO p a) ∧ H a = some (.dK (ps.map entI)) ∧
  ∀ (H' : Hp) (l : Addr) (ts : List Addr) (qs : List (Int × Int)), Same H H' → H l = none → H' l = some (.lst (ts.map V.ref)) → Paired (fun (t : Addr) (q : Int × Int) => H t = none ∧ H' t = some (.tup [.int q.1, .int q.2])) ts qs → qs.Perm ps → qs.Pairwise lexLe → Q (.ref l) H'
section
variable {X : Cx}
theorem cr_sortedKI (hc : X.calm = true) : CallR X (.builtin "sorted") rSortKI := by
  intro pins s σ H xs us Q I r ⟨p, a, ps, ex, hp, ha, q⟩
  subst ex
  obtain rfl := Vals.ref1 r
  have view : s.heap.IsItemsView p a := (show ObjOk X.prog X.w H s.heap p (itemsO p a) from I.hok p _ hp).1
  obtain ⟨hz, hd, vs, kv, hdo⟩ := dk_of I.hok ha
  obtain ⟨ep, o, es, ho, hx, hdat, hks, hprs, hnd⟩ := hdo.dictAt
  have lkv : (ps.map entI).length = vs.length := Paired.length kv
  have les : es.size = ps.length := by
    have := prs_len hprs
    rw [Array.length_toList] at this
    rw [List.length_map] at lkv
    omega
  rw [List.length_map] at hz lkv
  refine DT.sortedI (es := es) (ep := ep) (I.ok.hd hc) view ⟨o, ho, hx, hdat⟩ (by omega) fun h' tk as hk hlt hl hG => ?_
  have nd : as.Nodup := List.Pairwise.imp (fun h => Nat.ne_of_lt h) hG.rise
  have lak : as.length = ps.length := by omega
  obtain ⟨L, hL⟩ : ∃ L, L = h'.objs.size := ⟨_, rfl⟩
  obtain ⟨h2, hh2⟩ : ∃ h2, h2 = h'.push { cls := .type "list", data := .seq (as.map Value.ref).toArray } := ⟨_, rfl⟩
  rw [← hL, ← hh2]
  have hob : h2.get? L = some (seqObj "list" (as.map Value.ref).toArray 0) := by rw [hh2, hL]; exact Heap.get?_push_size _ rfl
  have ka : ∀ b o, h'.get? b = some o → h2.get? b = some o ∧ b < L := fun b o e => ⟨by rw [hh2]; exact Heap.get?_push_of_some _ e, by rw [hL]; exact Heap.lt_size e⟩
  have sz2 : h2.objs.size = L + 1 := by rw [hh2, hL]; exact size_push' ..
  -- what was made, place by place
  have made : ∀ (j : Nat) (b : Addr), as[j]? = some b → ∃ (e : Int × Int) (t u : Tok), ps[j]? = some e ∧ h2.get? b = some { cls := .type "tuple", data := .seq #[.int e.1 t, .int e.2 u] } ∧ b < L ∧ s.heap.objs.size ≤ b := by
    intro j b hj
    obtain ⟨en, he, hg⟩ := hG.pairs j b hj
    obtain ⟨kq, e1, e2, e3⟩ := prs_get hprs (show es.toList[j]? = some en by rw [Array.getElem?_toList]; exact he)
    have hjl : j < ps.length := by
      have := (List.getElem?_eq_some_iff.mp hj).1
      omega
    have hpj : ps[j]? = some ps[j] := by simp [hjl]
    obtain ⟨z, hz1, hz2⟩ := LiI.paired_get kv (show (ps.map entI)[j]? = some (entI ps[j]) by rw [List.getElem?_map, hpj]; rfl)
    rw [e1] at hz1
    cases hz1
    obtain ⟨z1, z2⟩ := hz2
    obtain ⟨u, hu⟩ := z2
    have z1 : (Sum.inl ps[j].1 : Key) = kq.1 := z1
    rw [← z1] at e2
    rcases keyIs_shape (show keyIs (Sum.inl ps[j].1) en.key = true from e2) with ⟨i, t, ek, ev⟩ | ⟨z, t, ek, ev⟩
    · cases ek
      rw [ev, e3, hu] at hg
      obtain ⟨g1, g2⟩ := ka _ _ hg
      exact ⟨_, t, u, hpj, g1, g2, Nat.le_of_lt (hG.above b (List.mem_of_getElem? hj))⟩
    · cases ek
  have isP : ∀ v ∈ as.map Value.ref, Srt.IsPair h2 v (keyOfPair h2 v).1 (keyOfPair h2 v).2 := fun v hv => by
    obtain ⟨b, hb, rfl⟩ := List.mem_map.mp hv
    obtain ⟨j, hj⟩ := List.mem_iff_getElem?.mp hb
    obtain ⟨e, t, u, _, h3, _⟩ := made j b hj
    rw [keyOfPair_at h3 rfl]
    exact ⟨b, _, t, u, 0, rfl, h3, rfl, rfl⟩
  refine wpAny_call_entry (s := { s with heap := h2, toks := tk }) PyProof.Rows.slot_list_sort ⟨_, hob, rfl⟩ PyProof.Rows.entry_list_sort
    (SrtO.list_sort_ord (s := { s with heap := h2, toks := tk }) (SrtO.swo_lex (keyOfPair h2)) hob (by rw [List.length_map]; omega) (fun g2 => SrtO.pairs_sortableO (s := { s with heap := h2, toks := tk }) (by omega) isP fun o e => by
      rw [hob] at e
      cases e
      intro c
      exact absurd (Value.type.inj c) (by decide)) fun out g1 g2 => ⟨_, rfl, ?_⟩) (PyProof.Rows.args_list_sort _)
  obtain ⟨ts, rfl⟩ : ∃ ts : List Addr, out = ts.map Value.ref := by
    have hall : ∀ v ∈ out, ∃ b, v = Value.ref b := fun v hv => by
      obtain ⟨b, _, e⟩ := List.mem_map.mp (g2.perm.mem_iff.mp hv)
      exact ⟨b, e.symm⟩
    clear g1 g2
    induction out with
    | nil => exact ⟨[], rfl⟩
    | cons v out ih =>
      obtain ⟨b, rfl⟩ := hall v List.mem_cons_self
      obtain ⟨ts, rfl⟩ := ih fun x hx => hall x (List.mem_cons_of_mem _ hx)
      exact ⟨b :: ts, rfl⟩
  have hperm : ts.Perm as := by
    have z := g2.perm.map unRef
    rw [List.map_map, List.map_map, show (unRef ∘ Value.ref) = id from rfl, List.map_id, List.map_id] at z
    exact z
  obtain ⟨e', he'⟩ := PyProof.Rows.sortedHeap_at (vs := as.map Value.ref) (out := (ts.map Value.ref).toArray) hob
  obtain ⟨hS, hhS⟩ : ∃ hS, hS = sortedHeap h2 L (as.map Value.ref) (ts.map Value.ref).toArray := ⟨_, rfl⟩
  rw [← hhS] at he'
  have kS : ∀ b o, h2.get? b = some o → b < L → hS.get? b = some o := fun b o e l => by
    rw [hhS, PyProof.Rows.sortedHeap_old (Nat.ne_of_lt l) (by rw [sz2]; exact Nat.lt_succ_of_lt l)]
    exact e
  have k0 : ∀ b o, s.heap.get? b = some o → hS.get? b = some o := fun b o e => kS b o (ka _ _ (hk b o e)).1 (ka _ _ (hk b o e)).2
  have aS : ∀ b ∈ as, b < L ∧ s.heap.objs.size ≤ b := fun b hb => by
    obtain ⟨j, hj⟩ := List.mem_iff_getElem?.mp hb
    obtain ⟨_, _, _, _, _, a1, a2⟩ := made j b hj
    exact ⟨a1, a2⟩
  have hLn : L ∉ as := fun z => Nat.lt_irrefl _ (aS L z).1
  have sL : s.heap.objs.size ≤ L := by rw [hL]; exact Nat.le_of_lt hlt
  have fL : H L = none := I.hok.fresh sL
  have atP := LiI.putT_at as (ps.map entI) (upd H L (.lst (ts.map V.ref))) (by rw [List.length_map]; omega) nd
  obtain ⟨H', hH'⟩ : ∃ H', H' = LiI.putT (upd H L (.lst (ts.map V.ref))) as (ps.map entI) := ⟨_, rfl⟩
  rw [← hH'] at atP
  have off : ∀ b, b ∉ as → b ≠ L → H' b = H b := fun b h1 h2 => by rw [hH', LiI.putT_off as _ _ h1, upd_ne h2]
  have eL : H' L = some (.lst (ts.map V.ref)) := by rw [hH', LiI.putT_off as _ _ hLn, upd_same]
  have kp : Same H H' := fun b u e => by
    rw [off b (fun z => ?_) (fun z => ?_)]
    · exact e
    · rw [I.hok.fresh (aS b z).2] at e
      cases e
    · rw [z, fL] at e
      cases e
  have at1 : ∀ b ∈ as, ∃ (e : Int × Int) (t u : Tok), H' b = some (.tup [.int e.1, .int e.2]) ∧ hS.get? b = some { cls := .type "tuple", data := .seq #[.int e.1 t, .int e.2 u] } ∧ keyOfPair h2 (.ref b) = e ∧ ∃ j, as[j]? = some b ∧ ps[j]? = some e := fun b hb => by
    obtain ⟨j, y, e1, e2, e3⟩ := LiI.paired_ix atP hb
    obtain ⟨e, t, u, f1, f2, f3, _⟩ := made j b e1
    rw [List.getElem?_map, f1] at e2
    cases e2
    exact ⟨e, t, u, e3, kS _ _ f2 f3, keyOfPair_at f2 rfl, j, e1, f1⟩
  have J : Inv X pins σ H' { s with heap := hS, toks := tk } := inv_lay I k0 kp fun b u e n => by
    by_cases hb : b ∈ as
    · obtain ⟨z, t, w', f1, f2, _⟩ := at1 b hb
      rw [e] at f1
      cases f1
      exact ⟨(aS b hb).2, show 2 ≤ sizeLine by decide, [.int z.1 t, .int z.2 w'], .cons ⟨_, rfl⟩ (.cons ⟨_, rfl⟩ .nil), ⟨_, f2, rfl, _, rfl⟩⟩
    · by_cases hbL : b = L
      · subst hbL
        rw [eL] at e
        cases e
        refine ⟨sL, ?_, ts.map Value.ref, e', LiI.vals_refs ts, he'⟩
        rw [List.length_map, hperm.length_eq]
        omega
      · rw [off b hb hbL, n] at e
        cases e
  rw [← hhS]
  refine ⟨.ref L, H', J, rfl, q H' L ts (ts.map fun t => keyOfPair h2 (.ref t)) kp fL eL ?_ ?_ ?_⟩
  · have : ∀ t ∈ ts, H t = none ∧ H' t = some (.tup [.int (keyOfPair h2 (.ref t)).1, .int (keyOfPair h2 (.ref t)).2]) := fun t ht => by
      have ha := hperm.mem_iff.mp ht
      obtain ⟨z, _, _, f1, _, f3, _⟩ := at1 t ha
      rw [f3]
      exact ⟨I.hok.fresh (aS t ha).2, f1⟩
    clear g1 g2 hperm hhS he' eL hH'
    induction ts with
    | nil => exact .nil
    | cons t ts ih => exact .cons (this t List.mem_cons_self) (ih fun x hx => this x (List.mem_cons_of_mem _ hx))
  · refine (hperm.map _).trans ?_
    have : as.map (fun t => keyOfPair h2 (.ref t)) = ps := List.ext_getElem? fun j => by
      rw [List.getElem?_map]
      cases h : as[j]? with
      | none => 
        rw [List.getElem?_eq_none_iff] at h
        rw [Option.map_none, List.getElem?_eq_none (by omega)]
      | some b =>
        obtain ⟨e, t, u, f1, f2, _⟩ := made j b h
        rw [Option.map_some, keyOfPair_at f2 rfl, f1]
    rw [this]
  · refine List.pairwise_map.mpr ((List.pairwise_map.mp g1).imp fun {x y} h => ?_)
    have := SrtO.lexB_no.mp h
    unfold lexLe
    omega
end
end Nd

namespace Nd
open PySem PySem.Spec PyProof.Rows L2 LamX
/-! ### heaps: pairs of a spot and how many chips, each a list or a tuple, in a list or a tuple -/
def PrA (r : Addr) (H : Hp) (v : V) (p : Int × Int) : Prop := ∃ a, v = .ref a ∧ a ≠ r ∧ (TupQ H a [.int p.1, .int p.2] ∨ H a = some (.lst [.int p.1, .int p.2]))
theorem PrA.gr {r : Addr} {H H' : Hp} {v : V} {p : Int × Int} (h : PrA r H v p) (g : Gr r H H') : PrA r H' v p := by
  obtain ⟨a, h1, h2, h3⟩ := h
  exact ⟨a, h1, h2, trTo h3 fun u => g.all _ u h2⟩
theorem PrA.same {r : Addr} {H H' : Hp} {v : V} {p : Int × Int} (h : PrA r H v p) (s : Same H H') : PrA r H' v p := h.gr (Gr.same s)
theorem PrA.seq {r : Addr} {K : PySem.W.Frag} {H : Hp} {v : V} {p : Int × Int} (h : PrA r H v p) : ∃ a, v = .ref a ∧ SqA K H a [.int p.1, .int p.2] := by
  obtain ⟨a, h1, h2, h3⟩ := h
  exact ⟨a, h1, h3.elim (fun e => .inr e.sq) fun e => .inl (.inl (.inl e))⟩
theorem PrA.any {r : Addr} {K : PySem.W.Frag} {H : Hp} {v : V} {p : Int × Int} {t : TGs} {σ : L2.St} {Q : L2.St → Hp → Prop} (h : PrA r H v p) (q : t [.int p.1, .int p.2] σ H Q) : gAny K 2 t v σ H Q := by
  obtain ⟨a, rfl, hs⟩ := h.seq (K := K)
  exact k_gany hs rfl q
theorem Dr.prA {r : Addr} {H : Hp} {v : V} {d : PyData} {x y : Int} (h : Dr r H v d) (e : itemsD d = some [.int x, .int y]) : PrA r H v (x, y) := by
  cases h with
  | lst n e1 ha =>
    obtain rfl := Option.some.inj e
    cases ha with
    | cons h1 h2 =>
    cases h2 with
    | cons h2 h3 =>
    cases h1
    cases h2
    cases h3
    exact ⟨_, rfl, n, .inr e1⟩
  | tup n e1 ha =>
    obtain rfl := Option.some.inj e
    cases ha with
    | cons h1 h2 =>
    cases h2 with
    | cons h2 h3 =>
    cases h1
    cases h2
    cases h3
    exact ⟨_, rfl, n, .inl e1⟩
  | _ => cases e
theorem k_pr0 {K : PySem.W.Frag} {r : Addr} {v : V} {p : Int × Int} {H : Hp} {Q : VK} (h : PrA r H v p) (k : Q (.int p.1) H) : rIx K v (.int 0) H Q := by
  obtain ⟨a, rfl, _, h3⟩ := h
  rcases h3 with h3 | h3
  · exact .inr (.inl (k_ixT h3.sq rfl k))
  · exact .inl (k_ixL (.inl (.inl h3)) rfl k)
theorem k_pr1 {K : PySem.W.Frag} {r : Addr} {v : V} {p : Int × Int} {H : Hp} {Q : VK} (h : PrA r H v p) (k : Q (.int p.2) H) : rIx K v (.int 1) H Q := by
  obtain ⟨a, rfl, _, h3⟩ := h
  rcases h3 with h3 | h3
  · exact .inr (.inl (k_ixT h3.sq rfl k))
  · exact .inl (k_ixL (.inl (.inl h3)) rfl k)
/-- a heap: spot and chips within their bounds -/
def okHeap (p : Int × Int) : Bool := (decide (-1000000 ≤ p.1) && decide (p.1 ≤ 1000000)) && (decide (1 ≤ p.2) && decide (p.2 ≤ 10 ^ 60))
def pairD (d : PyData) : Int × Int := match itemsD d with
  | some [.int x, .int y] => (x, y)
  | _ => (0, 0)
def heapD (d : PyData) : Bool := areIntsD d 2 && okHeap (pairD d)
theorem pairD_of {d : PyData} {x y : Int} (e : itemsD d = some [.int x, .int y]) : pairD d = (x, y) := by
  unfold pairD
  rw [e]
theorem heapD_no {d : PyData} (h : areIntsD d 2 = false) : heapD d = false := by rw [heapD, h, Bool.false_and]
theorem heapD_ints {d : PyData} (h : heapD d = true) : ∃ x y, itemsD d = some [.int x, .int y] := by
  rw [heapD, Bool.and_eq_true] at h
  exact two_ints h.1
def spIsHeap : Sp := fun vs H Q _ => ∃ (r : Addr) (v : V) (d : PyData), vs = [v] ∧ Dr r H v d ∧ lenOk d ∧ ∀ H', Same H H' → Q (.bl (heapD d)) H'
theorem Dr.items {r : Addr} {H : Hp} {v : V} {d : PyData} {ds : List PyData} (h : Dr r H v d) (e : itemsD d = some ds) : ∃ a xs, v = .ref a ∧ a ≠ r ∧ (H a = some (.lst xs) ∨ TupQ H a xs) ∧ DrAll r H xs ds := by
  cases h with
  | lst n e1 ha =>
    obtain rfl := Option.some.inj e
    exact ⟨_, _, rfl, n, .inl e1, ha⟩
  | tup n e1 ha =>
    obtain rfl := Option.some.inj e
    exact ⟨_, _, rfl, n, .inr e1, ha⟩
  | _ => cases e
theorem isD_items (d : PyData) : (isD "list" d || isD "tuple" d) = (itemsD d).isSome := by cases d <;> rfl
def heapsD (d : PyData) : Bool := match itemsD d with
  | some xs => decide (xs.length ≤ 60) && (xs.all heapD && decide ((xs.map fun d => (pairD d).1).Nodup))
  | none => false
/-- lengths that the rules want, two levels deep -/
def lenOk2 (d : PyData) : Prop := lenOk d ∧ ∀ xs, itemsD d = some xs → ∀ x ∈ xs, lenOk x
def spAreHeaps : Sp := fun vs H Q _ => ∃ (r : Addr) (v : V) (d : PyData), vs = [v] ∧ Dr r H v d ∧ lenOk2 d ∧ ∀ H', Same H H' → Q (.bl (heapsD d)) H'
def spNeedHeaps : Sp := fun vs H Q _ => ∃ (r : Addr) (v x : V) (d : PyData), vs = [v, x] ∧ Dr r H v d ∧ lenOk2 d ∧ heapsD d = true ∧ ∀ H', Same H H' → Q .non H'
theorem seqA {K : PySem.W.Frag} {H : Hp} {a : Addr} {xs : List V} (h : H a = some (.lst xs) ∨ TupQ H a xs) : SqA K H a xs := h.elim (fun e => .inl (.inl (.inl e))) fun e => .inr e.sq
structure Hs (r : Addr) (H : Hp) (v : V) (hs : List (Int × Int)) : Prop where
  ex : ∃ a xs, v = .ref a ∧ a ≠ r ∧ (H a = some (.lst xs) ∨ TupQ H a xs) ∧ Paired (PrA r H) xs hs
theorem Hs.gr {r : Addr} {H H' : Hp} {v : V} {hs : List (Int × Int)} (h : Hs r H v hs) (g : Gr r H H') : Hs r H' v hs := by
  obtain ⟨a, xs, e, n, ea, hp⟩ := h.ex
  exact ⟨a, xs, e, n, seqTo ea fun u => g.all _ u n, pairs_mono (fun _ _ h => PrA.gr h g) hp⟩
theorem Hs.same {r : Addr} {H H' : Hp} {v : V} {hs : List (Int × Int)} (h : Hs r H v hs) (s : Same H H') : Hs r H' v hs := h.gr (Gr.same s)
def spOneColour : Sp := fun vs H Q _ => ∃ (r : Addr) (v : V) (hs : List (Int × Int)) (c : Int), vs = [v] ∧ Hs r H v hs ∧ hs.length ≤ 60 ∧ (∀ p ∈ hs, p.1 % 2 = c) ∧ ∀ H', Same H H' → Q .non H'
/-- what stands at spot, times 2 ** t, after t ticks -/
def cnt (hs : List (Int × Int)) (t : Nat) (spot : Int) : Int := (hs.map fun p => p.2 * (W t (spot - p.1) : Int)).sum
def spRows : Sp := fun vs H Q _ => ∃ (r : Addr) (v : V) (hs : List (Int × Int)) (spot : Int) (t : Nat), vs = [v, .int spot, .int (t : Int)] ∧ Hs r H v hs ∧ hs.length ≤ 60 ∧ (∀ p ∈ hs, p.2.natAbs ≤ 10 ^ 60) ∧ t ≤ 200 ∧ ∀ H', Same H H' → Q (.int (cnt hs t spot)) H'
theorem lcIn_prA {K : PySem.W.Frag} {J : It} {G : Hp → Prop} {r : Addr} {xs : List V} {hs : List (Int × Int)} {i j : Nat} {te : TE} {vs : List Nat} {σ : L2.St} {H1 : Hp} {Q : VK} (W : Walk J xs.length G (YAt xs)) (v : Int × Int → V) (hG : ∀ H', Same H1 H' → G H') (hall : Paired (PrA r H1) xs hs) (hz : xs.length ≤ 50000)
    (hw : ∀ x y, wipe (((wipe σ vs).set i (some x)).set j (some y)) vs = wipe σ vs)
    (step : ∀ (m : Nat) (p : Int × Int) (H2 : Hp), hs[m]? = some p → Same H1 H2 → ∀ QE : VK, (∀ H4, Same H2 H4 → QE (v p) H4) → te (((wipe σ vs).set i (some (.int p.1))).set j (some (.int p.2))) H2 QE)
    (fin : ∀ p H', H1 p = none → Same H1 H' → H' p = some (.lst (hs.map v)) → Q (.ref p) H') :
    LcIn J (gAny K 2 (gCons (gName i) (gCons (gName j) gNil))) tYes te vs σ H1 Q := fun D hD =>
  lc_it W (fun m H => Same H1 H ∧ H D = some (.lst ((hs.take m).map v))) ⟨Same.new hD, upd_same⟩ (fun m H _ p => hG _ p.1)
    (fun m x H H' hm p y => by
      obtain ⟨rfl, hx⟩ := y
      obtain ⟨s1, eD⟩ := p
      obtain ⟨z, hz1, f⟩ := Nd.paired_get hall hx
      refine (f.same s1).any ?_
      refine k_gcons (k_gname (k_gcons (k_gname (k_gnil ?_))))
      refine ⟨hw _ _, k_tYes ?_⟩
      rw [if_pos rfl]
      refine step m z _ hz1 s1 _ fun H4 s4 => ?_
      refine ⟨_, s4 _ _ eD, ?_, fun b o e => ?_, ?_⟩
      · rw [List.length_map, List.length_take]
        exact Nat.lt_of_le_of_lt (Nat.min_le_left _ _) (Nat.lt_of_lt_of_le hm (Nat.le_trans hz (by decide)))
      · rw [upd_ne (ne_of_none e hD)]
        exact s4 _ _ (s1 _ _ e)
      · rw [upd_same, List.take_succ, hz1, List.map_append]
        rfl)
    (fun H' p => fin D H' hD p.1 (by
      have := p.2
      rwa [pairs_len hall, List.take_length] at this))
structure OkHs (hs : List (Int × Int)) : Prop where
  few : hs.length ≤ 60
  ok : ∀ p ∈ hs, okHeap p = true
  nd : (hs.map (·.1)).Nodup
  col : ∃ c : Int, ∀ p ∈ hs, p.1 % 2 = c
theorem okHeap_of {p : Int × Int} (h : okHeap p = true) : -1000000 ≤ p.1 ∧ p.1 ≤ 1000000 ∧ 1 ≤ p.2 ∧ p.2 ≤ 10 ^ 60 := by
  unfold okHeap at h
  simp only [Bool.and_eq_true, decide_eq_true_eq] at h
  exact ⟨h.1.1, h.1.2, h.2.1, h.2.2⟩
theorem OkHs.chips {hs : List (Int × Int)} (h : OkHs hs) : ∀ p ∈ hs, p.2.natAbs ≤ 10 ^ 60 := fun p hp => by
  obtain ⟨_, _, a, b⟩ := okHeap_of (h.ok p hp)
  omega
def hpD (d : PyData) (p : Int × Int) : Prop := itemsD d = some [.int p.1, .int p.2]
theorem PrA.dr {r : Addr} {H : Hp} {v : V} {p : Int × Int} (h : PrA r H v p) : ∃ d, Dr r H v d ∧ hpD d p := by
  obtain ⟨a, rfl, n, e | e⟩ := h
  · exact ⟨_, .tup n e (.cons (.int _) (.cons (.int _) .nil)), rfl⟩
  · exact ⟨_, .lst n e (.cons (.int _) (.cons (.int _) .nil)), rfl⟩
theorem prAs_dr {r : Addr} {H : Hp} : ∀ {xs : List V} {hs : List (Int × Int)}, Paired (PrA r H) xs hs → ∃ ds, DrAll r H xs ds ∧ Paired hpD ds hs
  | _, _, .nil => ⟨[], .nil, .nil⟩
  | _, _, .cons h t => by
    obtain ⟨d, h1, h2⟩ := h.dr
    obtain ⟨ds, t1, t2⟩ := prAs_dr t
    exact ⟨d :: ds, .cons h1 t1, .cons h2 t2⟩
theorem hpD_heap {d : PyData} {p : Int × Int} (h : hpD d p) (o : okHeap p = true) : heapD d = true := by
  unfold heapD
  rw [pairD_of h, Bool.and_eq_true]
  refine ⟨?_, o⟩
  unfold areIntsD
  rw [h]
  rfl
theorem hpDs_len {ds : List PyData} {hs : List (Int × Int)} (h : Paired hpD ds hs) : ∀ d ∈ ds, lenOk d := by
  induction h with
  | nil => exact fun _ z => nomatch z
  | cons h _ ih =>
    intro d hd
    rcases List.mem_cons.mp hd with rfl | hd
    · intro xs e
      rw [h] at e
      cases e
      show (2 : Nat) ≤ 1000
      decide
    · exact ih d hd
theorem hpDs_all {ds : List PyData} {hs : List (Int × Int)} (h : Paired hpD ds hs) (o : ∀ p ∈ hs, okHeap p = true) : ds.all heapD = true ∧ (ds.map fun d => (pairD d).1) = hs.map (·.1) := by
  induction h with
  | nil => exact ⟨rfl, rfl⟩
  | cons h _ ih =>
    obtain ⟨i1, i2⟩ := ih fun p hp => o p (List.mem_cons_of_mem _ hp)
    refine ⟨?_, ?_⟩
    · rw [List.all_cons, i1, hpD_heap h (o _ List.mem_cons_self)]
      rfl
    · rw [List.map_cons, List.map_cons, i2, pairD_of h]
theorem Hs.dr {r : Addr} {H : Hp} {v : V} {hs : List (Int × Int)} (h : Hs r H v hs) (o : OkHs hs) : ∃ d, Dr r H v d ∧ lenOk2 d ∧ heapsD d = true := by
  obtain ⟨a, xs, rfl, n, e, hp⟩ := h.ex
  obtain ⟨ds, h1, h2⟩ := prAs_dr hp
  obtain ⟨a1, a2⟩ := hpDs_all h2 o.ok
  have hl : ds.length ≤ 60 := by rw [pairs_len h2]; exact o.few
  have key : ∀ d, itemsD d = some ds → lenOk2 d ∧ heapsD d = true := fun d e => by
    refine ⟨⟨fun xs e2 => ?_, fun xs e2 x hx => ?_⟩, ?_⟩
    · rw [e] at e2
      cases e2
      omega
    · rw [e] at e2
      cases e2
      exact hpDs_len h2 x hx
    · unfold heapsD
      rw [e]
      simp only [a1, a2, Bool.true_and, Bool.and_eq_true, decide_eq_true_eq]
      exact ⟨hl, o.nd⟩
  rcases e with e | e
  · exact ⟨.list ds, .lst n e h1, key _ rfl⟩
  · exact ⟨.tuple ds, .tup n e h1, key _ rfl⟩
theorem sum_abs {B : Nat} : ∀ {l : List Int}, (∀ x ∈ l, x.natAbs ≤ B) → l.sum.natAbs ≤ l.length * B
  | [], _ => by simp
  | x :: l, h => by
    have h1 := h x List.mem_cons_self
    have h2 := sum_abs (l := l) fun y hy => h y (List.mem_cons_of_mem _ hy)
    rw [List.sum_cons, List.length_cons, Nat.add_mul, Nat.one_mul]
    omega
theorem cnt_abs {hs : List (Int × Int)} (o : OkHs hs) {t : Nat} (ht : t ≤ 200) (s : Int) : (cnt hs t s).natAbs < 2 ^ 500 := by
  have h : (cnt hs t s).natAbs ≤ (hs.map fun p => p.2 * (W t (s - p.1) : Int)).length * (10 ^ 60 * 2 ^ 200) := sum_abs fun x hx => by
    obtain ⟨p, hp, rfl⟩ := List.mem_map.mp hx
    rw [Int.natAbs_mul, Int.natAbs_natCast]
    exact Nat.mul_le_mul (o.chips p hp) (Nat.le_trans (W_le _ _) (Nat.pow_le_pow_right (by decide) ht))
  rw [List.length_map] at h
  have h2 : hs.length * (10 ^ 60 * 2 ^ 200) ≤ 60 * (10 ^ 60 * 2 ^ 200) := Nat.mul_le_mul_right _ o.few
  exact Nat.lt_of_le_of_lt (Nat.le_trans h h2) (by decide +kernel)
def spMeanAt : Sp := fun vs H Q _ => ∃ (r : Addr) (v : V) (hs : List (Int × Int)) (spot : Int) (t : Nat), vs = [v, .int spot, .int (t : Int)] ∧ Hs r H v hs ∧ OkHs hs ∧ t ≤ 200 ∧ ∀ H' x, Same H H' → FrN H H' x (Rat.divInt (cnt hs t spot) (2 ^ t)) → Q x H'
end Nd

namespace Nd
open PySem PySem.Spec PyProof.Rows L2 LamX
/-! ### dicts of ints whose values are all above 0: their keys are where the function is not 0 -/
structure DnP (kvs : List (Key × V)) (f : Int → Int) (lo hi : Int) : Prop where
  dn : Dn kvs f lo hi
  pos : ∀ (k : Int) (v : V), valV kvs (.inl k) = some v → 0 < f k
theorem DnP.nil {lo hi : Int} : DnP [] (fun _ => 0) lo hi := ⟨Dn.nil, fun k v h => by cases h⟩
theorem DnP.put {kvs : List (Key × V)} {f g : Int → Int} {lo hi : Int} (d : DnP kvs f lo hi) (k v : Int) (h1 : lo ≤ k) (h2 : k ≤ hi) (h0 : 0 < v) (hg : ∀ j, g j = if j = k then v else f j) : DnP (putK kvs (.inl k) (.int v)) g lo hi := by
  refine ⟨d.dn.put k v h1 h2 hg, fun j u hj => ?_⟩
  rw [hg]
  by_cases e : j = k
  · rw [if_pos e]
    exact h0
  · rw [if_neg e]
    rw [valV_put, if_neg (fun z => e (Sum.inl.inj z))] at hj
    exact d.pos j u hj
theorem DnP.congr {kvs : List (Key × V)} {f g : Int → Int} {lo hi : Int} (d : DnP kvs f lo hi) (h : ∀ k, g k = f k) : DnP kvs g lo hi := by
  have : g = f := funext h
  rw [this]
  exact d
theorem DnP.congr2 {kvs : List (Key × V)} {f : Int → Int} {lo hi lo' hi' : Int} (d : DnP kvs f lo hi) (h1 : lo' ≤ lo) (h2 : hi ≤ hi') : DnP kvs f lo' hi' := ⟨d.dn.mono h1 h2, d.pos⟩
theorem valV_some {kvs : List (Key × V)} {k : Key} (h : k ∈ kvs.map (·.1)) : ∃ v, valV kvs k = some v := by
  obtain ⟨kv, h1, rfl⟩ := List.mem_map.mp h
  unfold valV
  cases e : kvs.find? (fun x => decide (x.1 = kv.1)) with
  | none => exact absurd (List.find?_eq_none.mp e kv h1) (by simp)
  | some x => exact ⟨x.2, rfl⟩
theorem DnP.keys {kvs : List (Key × V)} {f : Int → Int} {lo hi : Int} (d : DnP kvs f lo hi) : ∃ ks : List Int, kvs.map (·.1) = ks.map Sum.inl ∧ ks.Nodup ∧ (∀ k, k ∈ ks ↔ f k ≠ 0) ∧ kvs = ks.map fun k => (.inl k, .int (f k)) := by
  have e : kvs = (kvs.map fun kv => keyI kv.1).map fun k => (.inl k, .int (f k)) := by
    rw [List.map_map]
    refine (List.map_id _).symm.trans (List.map_congr_left fun kv hkv => ?_)
    obtain ⟨k, rfl, _⟩ := d.dn.key kv hkv
    rfl
  have e1 : kvs.map (·.1) = (kvs.map fun kv => keyI kv.1).map Sum.inl := by
    rw [List.map_map]
    refine List.map_congr_left fun kv hkv => ?_
    obtain ⟨k, rfl, _⟩ := d.dn.key kv hkv
    rfl
  refine ⟨kvs.map fun kv => keyI kv.1, e1, ?_, fun k => ⟨fun h => ?_, fun h => ?_⟩, e⟩
  · have hn := d.dn.nd
    rw [e1] at hn
    exact (List.pairwise_map.mp hn).imp fun h z => h (by rw [z])
  · have : (Sum.inl k : Key) ∈ kvs.map (·.1) := by
      rw [e1]
      exact List.mem_map.mpr ⟨k, h, rfl⟩
    obtain ⟨v, hv⟩ := valV_some this
    exact Int.ne_of_gt (d.pos k v hv)
  · cases hv : valV kvs (.inl k) with
    | none => exact absurd (d.dn.off k hv) h
    | some v => exact List.mem_map.mpr ⟨_, valV_mem hv, rfl⟩
theorem sorted_uniq : ∀ {l m : List Int}, l.Pairwise (· < ·) → m.Pairwise (· < ·) → (∀ k, k ∈ l ↔ k ∈ m) → l = m
  | [], [], _, _, _ => rfl
  | [], y :: m, _, _, h => absurd ((h y).mpr List.mem_cons_self) (by simp)
  | x :: l, [], _, _, h => absurd ((h x).mp List.mem_cons_self) (by simp)
  | x :: l, y :: m, hl, hm, h => by
    obtain ⟨l1, l2⟩ := List.pairwise_cons.mp hl
    obtain ⟨m1, m2⟩ := List.pairwise_cons.mp hm
    have e : x = y := by
      rcases List.mem_cons.mp ((h x).mp List.mem_cons_self) with a | a
      · exact a
      rcases List.mem_cons.mp ((h y).mpr List.mem_cons_self) with b | b
      · exact b.symm
      have := m1 x a
      have := l1 y b
      omega
    subst e
    refine congrArg (x :: ·) (sorted_uniq l2 m2 fun k => ⟨fun hk => ?_, fun hk => ?_⟩)
    · have hne := l1 k hk
      rcases List.mem_cons.mp ((h k).mp (List.mem_cons_of_mem _ hk)) with a | a
      · omega
      · exact a
    · have hne := m1 k hk
      rcases List.mem_cons.mp ((h k).mpr (List.mem_cons_of_mem _ hk)) with a | a
      · omega
      · exact a
theorem strict_of {ys ks : List Int} (hp : ys.Perm ks) (hs : ys.Pairwise (· ≤ ·)) (hn : ks.Nodup) : ys.Pairwise (· < ·) := by
  have h2 : ys.Nodup := hp.nodup_iff.mpr hn
  exact (List.Pairwise.and hs h2).imp fun ⟨a, b⟩ => by omega
/-- where f is not 0, in order -/
structure Spots (f : Int → Int) (ys : List Int) : Prop where
  srt : ys.Pairwise (· < ·)
  mem : ∀ k, k ∈ ys ↔ f k ≠ 0
theorem Spots.uniq {f : Int → Int} {ys zs : List Int} (a : Spots f ys) (b : Spots f zs) : ys = zs := sorted_uniq a.srt b.srt fun k => (a.mem k).trans (b.mem k).symm
theorem DnP.spots {kvs : List (Key × V)} {f : Int → Int} {lo hi : Int} (d : DnP kvs f lo hi) {ks ys : List Int} (h : kvs.map (·.1) = ks.map Sum.inl) (hp : ys.Perm ks) (hs : ys.Pairwise (· ≤ ·)) : Spots f ys := by
  obtain ⟨ks', h1, h2, h3, _⟩ := d.keys
  have e : ks = ks' := by
    have := h.symm.trans h1
    exact List.map_inj_right (fun a b => Sum.inl.inj) |>.mp this
  subst e
  exact ⟨strict_of hp hs h2, fun k => (hp.mem_iff).trans (h3 k)⟩
/-! ### the rows' shares, laid step by step -/
def wj (t j : Nat) (x : Int) : Int := if (x + t) % 2 = 0 ∧ 0 ≤ x + t ∧ x + t < 2 * (j : Int) then (W t x : Int) else 0
theorem wj_zero (t : Nat) (x : Int) : wj t 0 x = 0 := by
  unfold wj
  rw [if_neg (by omega)]
theorem wj_step (t j : Nat) (x : Int) : wj t (j + 1) x = wj t j x + if x = 2 * (j : Int) - t then (ch t j : Int) else 0 := by
  unfold wj
  by_cases e : x = 2 * (j : Int) - t
  · rw [if_pos e, if_pos (by omega), if_neg (by omega), e, W_ch, Int.zero_add]
  · rw [if_neg e, Int.add_zero]
    by_cases c : (x + t) % 2 = 0 ∧ 0 ≤ x + t ∧ x + t < 2 * (j : Int)
    · rw [if_pos c, if_pos (by omega)]
    · rw [if_neg c, if_neg (by omega)]
theorem wj_all (t : Nat) (x : Int) : wj t (t + 1) x = (W t x : Int) := by
  unfold wj
  by_cases c : (x + t) % 2 = 0 ∧ 0 ≤ x + t ∧ x + t < 2 * ((t + 1 : Nat) : Int)
  · rw [if_pos c]
  · rw [if_neg c]
    by_cases h : (x + t) % 2 = 0
    · rw [W_far t x (by omega)]
      rfl
    · rw [W_odd t x h]
      rfl
theorem wj_nonneg (t j : Nat) (x : Int) : 0 ≤ wj t j x := by
  unfold wj
  split <;> omega
theorem cnt_nil (t : Nat) (s : Int) : Nd.cnt [] t s = 0 := rfl
theorem cnt_snoc (hs : List (Int × Int)) (p : Int × Int) (t : Nat) (s : Int) : Nd.cnt (hs ++ [p]) t s = Nd.cnt hs t s + p.2 * (W t (s - p.1) : Int) := by
  unfold Nd.cnt
  rw [List.map_append, List.sum_append]
  simp
theorem cnt_nonneg {t : Nat} {s : Int} : ∀ {hs : List (Int × Int)}, (∀ p ∈ hs, 1 ≤ p.2) → 0 ≤ Nd.cnt hs t s
  | [], _ => Int.le_refl _
  | p :: hs, h => by
    have h1 := cnt_nonneg (t := t) (s := s) fun q hq => h q (List.mem_cons_of_mem _ hq)
    have h2 : 0 ≤ p.2 * (W t (s - p.1) : Int) := Int.mul_nonneg (by have := h p List.mem_cons_self; omega) (by omega)
    unfold Nd.cnt at h1 ⊢
    rw [List.map_cons, List.sum_cons]
    omega
theorem PrA.gx {r D : Addr} {H H' : Hp} {v : V} {p : Int × Int} {l : List (Key × V)} (h : PrA r H v p) (g : Gx D H H') (e : H D = some (.dK l)) : PrA r H' v p := by
  obtain ⟨a, h1, h2, h3⟩ := h
  refine ⟨a, h1, h2, ?_⟩
  have ne : a ≠ D := fun z => by
    rw [z] at h3
    exact trDk h3 e
  exact trTo h3 fun u => g _ u ne
theorem k_dget {td ty : TE} {σ : L2.St} {H : Hp} {Q : VK} (h : td σ H fun x H1 => ty σ H1 fun y H2 => ∃ a v, x = .ref a ∧ DGet H2 a y (some v) ∧ Q v H2) : tDGet td ty σ H Q := h
/-! ### rows of a spot and its mean -/
def MeanN (H H' : Hp) (v : V) (m : Int × Rat) : Prop := ∃ a y, v = .ref a ∧ H a = none ∧ H' a = some (.tup [.int m.1, y]) ∧ FrN H H' y m.2
theorem MeanN.same {H H1 H2 : Hp} {v : V} {m : Int × Rat} (h : MeanN H H1 v m) (s : Same H1 H2) : MeanN H H2 v m := by
  obtain ⟨a, y, e, n, ea, b, e2, n2, eb⟩ := h
  exact ⟨a, y, e, n, s _ _ ea, b, e2, n2, s _ _ eb⟩
theorem MeanN.from {H H1 H2 : Hp} {v : V} {m : Int × Rat} (s : Same H H1) (h : MeanN H1 H2 v m) : MeanN H H2 v m := by
  obtain ⟨a, y, e, n, ea, f⟩ := h
  exact ⟨a, y, e, s.free n, ea, f.from s⟩
theorem MeanN.put {D : Addr} {H H1 : Hp} {xs ys : List V} {v : V} {m : Int × Rat} (h : MeanN H H1 v m) (hD : H1 D = some (.lst xs)) : MeanN H (upd H1 D (.lst ys)) v m := by
  obtain ⟨a, y, e, n, ea, b, e2, n2, eb⟩ := h
  have ne : ∀ {c : Addr} {zs : List V}, H1 c = some (.tup zs) → c ≠ D := fun e z => by
    rw [z, hD] at e
    cases e
  exact ⟨a, y, e, n, (upd_ne (ne ea)).trans ea, b, e2, n2, (upd_ne (ne eb)).trans eb⟩
def meanD (m : Int × Rat) : PyData := .tuple [.int m.1, fq m.2]
theorem MeanN.dp {K : PySem.W.Frag} {H H' : Hp} {v : V} {m : Int × Rat} (h : MeanN H H' v m) : Dp K H' v (meanD m) := by
  obtain ⟨a, y, rfl, n, ea, b, rfl, n2, eb⟩ := h
  exact .tup (.inl (.inl ea)) (.cons (.int _) (.cons (.tup (.inl (.inl eb)) (.cons (.int _) (.cons (.int _) .nil))) .nil))
theorem lcIn_mean {K : PySem.W.Frag} {a : Addr} {ys : List Int} {j : Nat} {te : TE} {vs : List Nat} {σ : L2.St} {H1 : Hp} {Q : VK} (q : Int → Rat) (hx : SqL K H1 a (ys.map V.int)) (hz : (ys.map V.int).length ≤ sizeLine)
    (hw : ∀ x, wipe ((wipe σ vs).set j (some x)) vs = wipe σ vs)
    (step : ∀ (k : Int) (H2 : Hp), k ∈ ys → Same H1 H2 → ∀ QE : VK, (∀ H4 y, Same H2 H4 → MeanN H2 H4 y (k, q k) → QE y H4) → te ((wipe σ vs).set j (some (.int k))) H2 QE)
    (fin : ∀ p H' zs, H1 p = none → Same H1 H' → H' p = some (.lst zs) → Paired (MeanN H1 H') zs (ys.map fun k => (k, q k)) → Q (.ref p) H') :
    LcIn (Itl K a) (gName j) tYes te vs σ H1 Q := fun D hD =>
  lc_list (xs := ys.map V.int) (fun m H => Same H1 H ∧ ∃ zs, H D = some (.lst zs) ∧ Paired (MeanN H1 H) zs ((ys.take m).map fun k => (k, q k))) ⟨Same.new hD, [], upd_same, .nil⟩ (fun m H _ p => p.1.seq hx)
    (fun m x H hm p => by
      obtain ⟨s1, zs, eD, hp⟩ := p
      rw [List.getElem?_map] at hm
      obtain ⟨k, hk, rfl⟩ := Option.map_eq_some_iff.mp hm
      have hlt := (List.getElem?_eq_some_iff.mp hk).1
      refine k_gname ?_
      refine ⟨hw _, k_tYes ?_⟩
      rw [if_pos rfl]
      refine step k H (List.mem_of_getElem? hk) s1 _ fun H4 y s4 hy => ?_
      have eD4 := s4 _ _ eD
      refine ⟨zs, eD4, ?_, fun b o e => ?_, zs ++ [y], upd_same, ?_⟩
      · rw [pairs_len hp, List.length_map, List.length_take]
        rw [List.length_map] at hz
        omega
      · rw [upd_ne (ne_of_none e hD)]
        exact s4 _ _ (s1 _ _ e)
      · rw [List.take_succ, hk, List.map_append]
        exact Paired.snoc (pairs_mono (fun _ _ h => MeanN.put (h.same s4) eD4) hp) ((hy.from s1).put eD4))
    (fun H' p => by
      obtain ⟨s1, zs, eD, hp⟩ := p
      rw [List.length_map, List.take_length] at hp
      exact fin D H' zs hD s1 eD hp)
def spMeans : Sp := fun vs H Q _ => ∃ (r : Addr) (v : V) (hs : List (Int × Int)) (t : Nat), vs = [v, .int (t : Int)] ∧ Hs r H v hs ∧ OkHs hs ∧ t ≤ 200 ∧
  ∀ H' a ys zs, Same H H' → Spots (Nd.cnt hs t) ys → H a = none → H' a = some (.tup zs) → Paired (MeanN H H') zs (ys.map fun k => (k, Rat.divInt (Nd.cnt hs t k) (2 ^ t))) → Q (.ref a) H'
theorem cnt_cons (p : Int × Int) (hs : List (Int × Int)) (t : Nat) (s : Int) : Nd.cnt (p :: hs) t s = p.2 * (W t (s - p.1) : Int) + Nd.cnt hs t s := by
  unfold Nd.cnt
  rw [List.map_cons, List.sum_cons]
theorem cnt_succ (t : Nat) (s : Int) : ∀ hs : List (Int × Int), Nd.cnt hs (t + 1) s = Nd.cnt hs t (s + 1) + Nd.cnt hs t (s - 1)
  | [] => rfl
  | p :: hs => by
    have h1 : ((W t (s - p.1 - 1) + W t (s - p.1 + 1) : Nat) : Int) = (W t (s - 1 - p.1) : Int) + (W t (s + 1 - p.1) : Int) := by
      rw [Int.natCast_add, show s - p.1 - 1 = s - 1 - p.1 by omega, show s - p.1 + 1 = s + 1 - p.1 by omega]
    rw [cnt_cons, cnt_cons, cnt_cons, cnt_succ t s hs, W_succ, h1, Int.mul_add]
    omega
theorem cnt_zero_off {k : Int} : ∀ {hs : List (Int × Int)}, k ∉ hs.map (·.1) → Nd.cnt hs 0 k = 0
  | [], _ => rfl
  | p :: hs, h => by
    rw [List.map_cons, List.mem_cons, not_or] at h
    rw [cnt_cons, cnt_zero_off h.2, W, if_neg (by omega)]
    simp
theorem cnt_zero_at {p : Int × Int} : ∀ {hs : List (Int × Int)}, (hs.map (·.1)).Nodup → p ∈ hs → Nd.cnt hs 0 p.1 = p.2
  | q :: hs, hn, hp => by
    rw [List.map_cons, List.nodup_cons] at hn
    rw [cnt_cons, W]
    rcases List.mem_cons.mp hp with rfl | hp
    · rw [if_pos (by omega), cnt_zero_off hn.1]
      simp
    · have : q.1 ≠ p.1 := fun e => hn.1 (List.mem_map.mpr ⟨p, hp, e.symm⟩)
      rw [if_neg (by omega), cnt_zero_at hn.2 hp]
      simp
theorem ent_keys (hs : List (Int × Int)) : (hs.map entI).map (·.1) = (hs.map (·.1)).map Sum.inl := by
  rw [List.map_map, List.map_map]
  rfl
theorem dnP_start {hs : List (Int × Int)} {lo hi : Int} (hn : (hs.map (·.1)).Nodup) (hp : ∀ p ∈ hs, 1 ≤ p.2 ∧ lo ≤ p.1 ∧ p.1 ≤ hi) : DnP (hs.map entI) (fun s => Nd.cnt hs 0 s) lo hi := by
  refine ⟨⟨fun kv hkv => ?_, ?_, fun k h => ?_⟩, fun k v h => ?_⟩
  · obtain ⟨p, h1, rfl⟩ := List.mem_map.mp hkv
    refine ⟨p.1, ?_, (hp p h1).2.1, (hp p h1).2.2⟩
    rw [cnt_zero_at hn h1]
    rfl
  · rw [ent_keys]
    exact List.pairwise_map.mpr (hn.imp fun h z => h (Sum.inl.inj z))
  · refine cnt_zero_off fun z => ?_
    have : (Sum.inl k : Key) ∈ (hs.map entI).map (·.1) := by
      rw [ent_keys]
      exact List.mem_map.mpr ⟨k, z, rfl⟩
    obtain ⟨v, hv⟩ := valV_some this
    rw [h] at hv
    cases hv
  · obtain ⟨p, h1, h2⟩ := List.mem_map.mp (valV_mem h)
    have e : p.1 = k := Sum.inl.inj (congrArg Prod.fst h2)
    subst e
    show 0 < Nd.cnt hs 0 p.1
    rw [cnt_zero_at hn h1]
    exact (hp p h1).1
/-- a new pair of two ints -/
def PrI (H H' : Hp) (t : Addr) (p : Int × Int) : Prop := H t = none ∧ H' t = some (.tup [.int p.1, .int p.2])
theorem lcIn_prT {K : PySem.W.Frag} {J : It} {G : Hp → Prop} {r : Addr} {xs : List V} {hs : List (Int × Int)} {i j : Nat} {te : TE} {vs : List Nat} {σ : L2.St} {H1 : Hp} {Q : VK} (W : Walk J xs.length G (YAt xs)) (f : Int × Int → Int × Int) (hG : ∀ H', Same H1 H' → G H') (hall : Paired (PrA r H1) xs hs) (hz : xs.length ≤ 50000)
    (hw : ∀ x y, wipe (((wipe σ vs).set i (some x)).set j (some y)) vs = wipe σ vs)
    (step : ∀ (m : Nat) (p : Int × Int) (H2 : Hp), hs[m]? = some p → Same H1 H2 → ∀ QE : VK, (∀ H4 b, Same H2 H4 → H2 b = none → H4 b = some (.tup [.int (f p).1, .int (f p).2]) → QE (.ref b) H4) → te (((wipe σ vs).set i (some (.int p.1))).set j (some (.int p.2))) H2 QE)
    (fin : ∀ (p : Addr) (H' : Hp) (ts : List Addr), H1 p = none → Same H1 H' → H' p = some (.lst (ts.map V.ref)) → Paired (PrI H1 H') ts (hs.map f) → Q (.ref p) H') :
    LcIn J (gAny K 2 (gCons (gName i) (gCons (gName j) gNil))) tYes te vs σ H1 Q := fun D hD =>
  lc_it W (fun m H => Same H1 H ∧ ∃ ts : List Addr, H D = some (.lst (ts.map V.ref)) ∧ Paired (PrI H1 H) ts ((hs.take m).map f)) ⟨Same.new hD, [], upd_same, .nil⟩ (fun m H _ p => hG _ p.1)
    (fun m x H H' hm p y => by
      obtain ⟨rfl, hx⟩ := y
      obtain ⟨s1, ts, eD, hp⟩ := p
      obtain ⟨z, hz1, g⟩ := Nd.paired_get hall hx
      refine (g.same s1).any ?_
      refine k_gcons (k_gname (k_gcons (k_gname (k_gnil ?_))))
      refine ⟨hw _ _, k_tYes ?_⟩
      rw [if_pos rfl]
      refine step m z _ hz1 s1 _ fun H4 b s4 nb eb => ?_
      have eD4 := s4 _ _ eD
      refine ⟨_, eD4, ?_, fun c o e => ?_, ts ++ [b], ?_, ?_⟩
      · rw [List.length_map, pairs_len hp, List.length_map, List.length_take]
        exact Nat.lt_of_le_of_lt (Nat.min_le_left _ _) (Nat.lt_of_lt_of_le hm (Nat.le_trans hz (by decide)))
      · rw [upd_ne (ne_of_none e hD)]
        exact s4 _ _ (s1 _ _ e)
      · rw [upd_same, List.map_append]
        rfl
      · have ne : ∀ {c : Addr} {zs : List V}, H4 c = some (.tup zs) → c ≠ D := fun e z => by
          rw [z, eD4] at e
          cases e
        rw [List.take_succ, hz1, List.map_append]
        exact Paired.snoc (pairs_mono (fun _ _ h => ⟨h.1, (upd_ne (ne (s4 _ _ h.2))).trans (s4 _ _ h.2)⟩) hp) ⟨s1.free nb, (upd_ne (ne eb)).trans eb⟩)
    (fun H' p => by
      obtain ⟨s1, ts, eD, hp⟩ := p
      rw [pairs_len hall, List.take_length] at hp
      exact fin D H' ts hD s1 eD hp)
def spShares : Sp := fun vs H Q _ => ∃ (r : Addr) (v : V) (hs : List (Int × Int)) (t : Nat), vs = [v, .int (t : Int)] ∧ Hs r H v hs ∧ OkHs hs ∧ t ≤ 200 ∧
  ∀ H' p kvs, Same H H' → H p = none → H' p = some (.dK kvs) → DnP kvs (fun s => Nd.cnt hs t s) (-1000400) 1000400 → Q (.ref p) H'
theorem pairs_mapR {α β γ : Type} {F : α → β → Prop} {G : α → γ → Prop} {f : β → γ} (h : ∀ a b, F a b → G a (f b)) : ∀ {l : List α} {m : List β}, Paired F l m → Paired G l (m.map f)
  | _, _, .nil => .nil
  | _, _, .cons a t => .cons (h _ _ a) (pairs_mapR h t)
theorem seen_nonneg {kvs : List (Key × V)} {f : Int → Int} {j : Nat} {k : Int} (h : 0 ≤ f k) : 0 ≤ seen kvs f j k := by
  unfold seen
  split
  · exact h
  · exact Int.le_refl _
theorem ents_nd {hs : List (Int × Int)} (h : (hs.map (·.1)).Nodup) : ((([] : List (Key × V)) ++ hs.map entI).map (·.1)).Nodup := by
  rw [List.nil_append, ent_keys]
  exact List.pairwise_map.mpr (h.imp fun h z => h (Sum.inl.inj z))
/-- a list of tuples of two ints -/
def HTu (r : Addr) (H : Hp) (v : V) (hs : List (Int × Int)) : Prop := ∃ (a : Addr) (ts : List Addr), v = .ref a ∧ a ≠ r ∧ H a = some (.lst (ts.map V.ref)) ∧ Paired (fun t p => t ≠ r ∧ H t = some (.tup [.int p.1, .int p.2])) ts hs
theorem HTu.gr {r : Addr} {H H' : Hp} {v : V} {hs : List (Int × Int)} (h : HTu r H v hs) (g : Gr r H H') : HTu r H' v hs := by
  obtain ⟨a, ts, e, n, ea, hp⟩ := h
  exact ⟨a, ts, e, n, g.all _ _ n ea, pairs_mono (fun _ _ h => ⟨h.1, g.all _ _ h.1 h.2⟩) hp⟩
theorem HTu.same {r : Addr} {H H' : Hp} {v : V} {hs : List (Int × Int)} (h : HTu r H v hs) (s : Same H H') : HTu r H' v hs := h.gr (Gr.same s)
theorem pairs_mapL {α β γ : Type} {F : α → β → Prop} {G : γ → β → Prop} {f : α → γ} (h : ∀ a b, F a b → G (f a) b) : ∀ {l : List α} {m : List β}, Paired F l m → Paired G (l.map f) m
  | _, _, .nil => .nil
  | _, _, .cons a t => .cons (h _ _ a) (pairs_mapL h t)
theorem HTu.hs {r : Addr} {H : Hp} {v : V} {hs : List (Int × Int)} (h : HTu r H v hs) : Hs r H v hs := by
  obtain ⟨a, ts, e, n, ea, hp⟩ := h
  exact ⟨⟨a, _, e, n, .inl ea, pairs_mapL (fun t p h => ⟨t, rfl, h.1, .inl h.2⟩) hp⟩⟩
/-- a dict of drawn heaps -/
structure Dh (ps : List (Int × Int)) (c : Int) (m : Nat) : Prop where
  nd : (ps.map (·.1)).Nodup
  ok : ∀ p ∈ ps, okHeap p = true ∧ p.1 % 2 = c
  few : ps.length ≤ m
theorem Dh.okHs {ps : List (Int × Int)} {c : Int} {m : Nat} (h : Dh ps c m) (hm : m ≤ 60) : OkHs ps := ⟨Nat.le_trans h.few hm, fun p hp => (h.ok p hp).1, h.nd, c, fun p hp => (h.ok p hp).2⟩
theorem Dh.put {ps : List (Int × Int)} {c : Int} {m : Nat} (h : Dh ps c m) {k v : Int} (o : okHeap (k, v) = true) (hc : k % 2 = c) : ∃ qs, putK (ps.map entI) (.inl k) (.int v) = qs.map entI ∧ Dh qs c (m + 1) := by
  unfold putK
  split
  · refine ⟨ps.map fun p => if p.1 = k then (p.1, v) else p, ?_, ?_, fun p hp => ?_, ?_⟩
    · rw [List.map_map, List.map_map]
      refine List.map_congr_left fun p _ => ?_
      show (if (entI p).1 = Sum.inl k then ((entI p).1, V.int v) else entI p) = entI (if p.1 = k then (p.1, v) else p)
      by_cases e : p.1 = k
      · rw [if_pos e, if_pos (by rw [← e]; rfl)]
        rfl
      · rw [if_neg e, if_neg (show ¬ (entI p).1 = Sum.inl k from fun z => e (Sum.inl.inj z))]
    · have : (ps.map fun p => if p.1 = k then (p.1, v) else p).map (·.1) = ps.map (·.1) := by
        rw [List.map_map]
        refine List.map_congr_left fun p _ => ?_
        show (if p.1 = k then (p.1, v) else p).1 = p.1
        split <;> rfl
      rw [this]
      exact h.nd
    · obtain ⟨q, hq, rfl⟩ := List.mem_map.mp hp
      by_cases e : q.1 = k
      · rw [if_pos e, e]
        exact ⟨o, hc⟩
      · rw [if_neg e]
        exact h.ok q hq
    · rw [List.length_map]
      exact Nat.le_succ_of_le h.few
  · rename_i hno
    refine ⟨ps ++ [(k, v)], by rw [List.map_append]; rfl, ?_, fun p hp => ?_, ?_⟩
    · rw [List.map_append, List.nodup_append]
      refine ⟨h.nd, by simp, fun a ha b hb e => ?_⟩
      obtain ⟨q, hq, rfl⟩ := List.mem_map.mp ha
      simp only [List.map_cons, List.map_nil, List.mem_singleton] at hb
      exact hno (List.any_eq_true.mpr ⟨entI q, List.mem_map.mpr ⟨q, hq, rfl⟩, by simp [entI, e, hb]⟩)
    · rcases List.mem_append.mp hp with hp | hp
      · exact h.ok p hp
      · rw [List.mem_singleton.mp hp]
        exact ⟨o, hc⟩
    · rw [List.length_append]
      exact Nat.succ_le_succ h.few
theorem putK_len {kvs : List (Key × V)} {k : Key} {v : V} : (putK kvs k v).length ≤ kvs.length + 1 := by
  unfold putK
  split
  · rw [List.length_map]
    exact Nat.le_succ _
  · rw [List.length_append]
    exact Nat.le_refl _
theorem grPutNew {r D : Addr} {H H' : Hp} {o : HO} (g : Gr r H H') (n : H D = none) (e : ∃ u, H r = some u) : Gr r H (upd H' D o) := by
  obtain ⟨u, e⟩ := e
  have nr : r ≠ D := ne_of_none e n
  exact ⟨fun b o ne eb => (upd_ne (ne_of_none eb n)).trans (g.all b o ne eb), fun c t h => by
    obtain ⟨t', h'⟩ := g.own c t h
    exact ⟨t', (upd_ne nr).trans h'⟩⟩
theorem pairs_unmapR {α β γ : Type} {F : α → γ → Prop} {f : β → γ} : ∀ {m : List β} {l : List α}, Paired F l (m.map f) → Paired (fun a b => F a (f b)) l m
  | [], _, h => by cases h; exact .nil
  | _ :: _, _, h => by
    cases h with
    | cons a t => exact .cons a (pairs_unmapR t)
theorem pairs_mem {α β : Type} {F : α → β → Prop} {P : α → Prop} : ∀ {l : List α} {m : List β}, Paired F l m → (∀ a ∈ l, P a) → Paired (fun a b => P a ∧ F a b) l m
  | _, _, .nil, _ => .nil
  | _, _, .cons a t, h => .cons ⟨h _ List.mem_cons_self, a⟩ (pairs_mem t fun x hx => h x (List.mem_cons_of_mem _ hx))
theorem k_listItems {te : TE} {σ : L2.St} {H : Hp} {Q : VK} (h : te σ H fun x H1 => LiI.rItemsL x H1 Q) : LiI.tListItems te σ H Q := h
theorem ridN_of {D r : Addr} {n m : Nat} {H H' : Hp} (R : Rid r n H) (g : Gr r H H') (k : Rid r m H') (hD : H D = none) : RidN D r m H' := ⟨k, R.ne hD, fun c' t e => by
  obtain ⟨c, ns, a, z, h1, h2, h3, _⟩ := R.ex
  obtain ⟨t', e'⟩ := g.own c _ h2
  rw [e] at e'
  have e3 : V.ref c' = V.ref c := by
    injection e' with e'
    injection e' with e'
    injection e'
  cases e3
  exact ne_of_none h3 hD⟩
def spStart : Sp := fun vs H Q _ => ∃ (r : Addr) (n : Nat), vs = [.ref r, .int 4] ∧ Rid r n H ∧ n + 60 < 1000000 ∧
  ∀ H' p ph lf hs, Gr r H H' → Rid r (n + 60) H' → p ≠ r → H' p = some (.tup [ph, lf]) → HTu r H' ph hs → OkHs hs → hs.length ≤ 4 → Q (.ref p) H'
end Nd

namespace Nd
open PySem PySem.Spec PyProof.Rows L2 LamX
/-! ### texts -/
structure TxW (W : Nat) (d : PyData) : Prop where
  sh : d.showable = true
  dp : d.depth ≤ 3
  lf : PyData.leavesShort 80 d = true
  wt : PyData.weight d ≤ W
theorem txw_int {i : Int} {n : Nat} (h : i.natAbs < 10 ^ 75) (h2 : i.natAbs < 2 ^ n) (h0 : 0 < n) : PyData.showable (.int i) = true ∧ PyData.leavesShort 80 (.int i) = true ∧ PyData.weight (.int i) ≤ n + 10 := by
  have l1 : i.natAbs.log2 < 300 := PySem.Flt.log2_lt_of (k := 300) (by decide) (Nat.lt_of_lt_of_le h (by decide +kernel))
  have l2 : i.natAbs.log2 < n := PySem.Flt.log2_lt_of (k := n) h0 h2
  have b1 : (PyData.shown (.int i)).length ≤ 80 := by
    have e := int_text_length_le10 (k := 75) (by decide) h
    change (Str.ofString (toString i)).length ≤ 80
    rw [PySem.ofString_length]
    exact Nat.le_trans e (by decide)
  refine ⟨?_, ?_, ?_⟩
  · simp [PyData.showable]
    omega
  · simp [PyData.leavesShort, b1]
  · simp [PyData.weight]
    split <;> omega
def pD (p : Int × Int) : PyData := .tuple [.int p.1, .int p.2]
theorem txw_pD {p : Int × Int} (h1 : p.1.natAbs < 2 ^ 24) (h2 : p.2.natAbs ≤ 10 ^ 60) : TxW 300 (pD p) := by
  obtain ⟨a1, a2, a3⟩ := txw_int (n := 24) (Nat.lt_of_lt_of_le h1 (by decide +kernel)) h1 (by decide)
  obtain ⟨b1, b2, b3⟩ := txw_int (n := 210) (Nat.lt_of_le_of_lt h2 (by decide +kernel)) (Nat.lt_of_le_of_lt h2 (by decide +kernel)) (by decide)
  refine ⟨?_, ?_, ?_, ?_⟩
  · simp [pD, PyData.showable, PyData.showableAll] at a1 b1 ⊢
    exact ⟨a1, b1⟩
  · simp [pD, PyData.depth, PyData.depthAll]
  · simp [pD, PyData.leavesShort, PyData.leavesShortAll] at a2 b2 ⊢
    exact ⟨a2, b2⟩
  · simp [pD, PyData.weight, PyData.weightAll] at a3 b3 ⊢
    omega
/-- a share of not many ticks -/
def Sh (q : Rat) : Prop := q.num.natAbs < 10 ^ 75 ∧ q.den < 2 ^ 30
theorem txw_fq {q : Rat} (h : Sh q) : TxW 340 (fq q) := by
  obtain ⟨a1, a2, a3⟩ := txw_int (n := 250) h.1 (Nat.lt_of_lt_of_le h.1 (by decide +kernel)) (by decide)
  obtain ⟨b1, b2, b3⟩ := txw_int (n := 30) (i := (q.den : Int)) (by rw [Int.natAbs_natCast]; exact Nat.lt_of_lt_of_le h.2 (by decide +kernel)) (by rw [Int.natAbs_natCast]; exact h.2) (by decide)
  refine ⟨?_, ?_, ?_, ?_⟩
  · simp [fq, PyData.showable, PyData.showableAll] at a1 b1 ⊢
    exact ⟨a1, b1⟩
  · simp [fq, PyData.depth, PyData.depthAll]
  · simp [fq, PyData.leavesShort, PyData.leavesShortAll] at a2 b2 ⊢
    exact ⟨a2, b2⟩
  · have : PyData.weight (fq q) = PyData.weight (.list [.int q.num, .int (q.den : Int)]) := by simp [fq, PyData.weight]
    simp [PyData.weight, PyData.weightAll] at a3 b3 this ⊢
    omega
theorem txw_mean {k : Int} {q : Rat} (hk : k.natAbs < 2 ^ 24) (h : Sh q) : TxW 400 (meanD (k, q)) := by
  obtain ⟨a1, a2, a3⟩ := txw_int (n := 24) (Nat.lt_of_lt_of_le hk (by decide +kernel)) hk (by decide)
  obtain ⟨b1, b2, b3, b4⟩ := txw_fq h
  refine ⟨?_, ?_, ?_, ?_⟩
  · simp [meanD, PyData.showable, PyData.showableAll] at a1 b1 ⊢
    exact ⟨a1, b1⟩
  · simp [meanD, PyData.depth, PyData.depthAll, fq]
  · simp [meanD, PyData.leavesShort, PyData.leavesShortAll] at a2 b3 ⊢
    exact ⟨a2, b3⟩
  · simp [meanD, PyData.weight, PyData.weightAll] at a3 b4 ⊢
    omega
theorem TxW.le {W W' : Nat} {d : PyData} (h : TxW W d) (l : W ≤ W') : TxW W' d := ⟨h.sh, h.dp, h.lf, Nat.le_trans h.wt l⟩
theorem txw_all {W : Nat} : ∀ {ds : List PyData}, (∀ d ∈ ds, TxW W d) → PyData.showableAll ds = true ∧ PyData.depthAll ds ≤ 3 ∧ PyData.leavesShortAll 80 ds = true ∧ PyData.weightAll ds ≤ (W + 10) * ds.length
  | [], _ => by simp [PyData.showableAll, PyData.depthAll, PyData.leavesShortAll, PyData.weightAll]
  | d :: ds, h => by
    obtain ⟨a1, a2, a3, a4⟩ := h d List.mem_cons_self
    obtain ⟨b1, b2, b3, b4⟩ := txw_all fun x hx => h x (List.mem_cons_of_mem _ hx)
    refine ⟨by simp [PyData.showableAll, a1, b1], ?_, by simp [PyData.leavesShortAll, a3, b3], ?_⟩
    · simp [PyData.depthAll]
      omega
    · rw [List.length_cons, Nat.mul_add]
      simp [PyData.weightAll]
      omega
abbrev Rp (d : PyData) : Prop := d.showable = true ∧ d.depth ≤ 60 ∧ d.shown.length ≤ sizeLine
theorem rep_of {d : PyData} (h1 : d.showable = true) (h2 : d.depth ≤ 60) (h3 : PyData.leavesShort 80 d = true) (h4 : PyData.weight d ≤ 150000) : Rp d :=
  ⟨h1, h2, Nat.le_trans (PyData.shown_le 80 (by decide) d h3) (Nat.le_trans (Nat.add_le_add_right (Nat.mul_le_mul_left _ h4) _) (show (80 + 2) * 150000 + 80 ≤ sizeLine by decide))⟩
theorem rep_list {W : Nat} {ds : List PyData} (h : ∀ d ∈ ds, TxW W d) (hw : (W + 10) * ds.length ≤ 149000) : Rp (.list ds) := by
  obtain ⟨b1, b2, b3, b4⟩ := txw_all h
  refine rep_of ?_ ?_ ?_ ?_
  · simp [PyData.showable, b1]
  · simp [PyData.depth]
    omega
  · simp [PyData.leavesShort, b3]
  · simp [PyData.weight]
    omega
theorem rep_two {W : Nat} {ds : List PyData} (h : ∀ d ∈ ds, TxW W d) (hw : (W + 10) * ds.length ≤ 74000) : Rp (.list [.tuple ds, .tuple ds]) := by
  obtain ⟨b1, b2, b3, b4⟩ := txw_all h
  refine rep_of ?_ ?_ ?_ ?_
  · simp [PyData.showable, PyData.showableAll, b1]
  · simp [PyData.depth, PyData.depthAll]
    omega
  · simp [PyData.leavesShort, PyData.leavesShortAll, b3]
  · simp [PyData.weight, PyData.weightAll]
    omega
/-! ### reckoning with counts -/
theorem cnt_reverse (t : Nat) (s : Int) : ∀ hs : List (Int × Int), Nd.cnt hs.reverse t s = Nd.cnt hs t s
  | [] => rfl
  | p :: hs => by
    rw [List.reverse_cons, cnt_snoc, cnt_reverse t s hs, cnt_cons]
    omega
theorem OkHs.reverse {hs : List (Int × Int)} (o : OkHs hs) : OkHs hs.reverse := by
  obtain ⟨c, hc⟩ := o.col
  refine ⟨by rw [List.length_reverse]; exact o.few, fun p hp => o.ok p (List.mem_reverse.mp hp), ?_, c, fun p hp => hc p (List.mem_reverse.mp hp)⟩
  rw [List.map_reverse]
  exact (List.reverse_perm _).nodup_iff.mpr o.nd
theorem Spots.congr {f g : Int → Int} {ys : List Int} (h : Spots f ys) (e : ∀ k, g k = f k) : Spots g ys := by
  have : g = f := funext e
  rw [this]
  exact h
/-- what sorted(d.items()) gives -/
theorem items_spots {f : Int → Int} {ks : List Int} {qs : List (Int × Int)} (hn : ks.Nodup) (hm : ∀ k, k ∈ ks ↔ f k ≠ 0) (hp : qs.Perm (ks.map fun k => (k, f k))) (hs : qs.Pairwise lexLe) : ∃ ys, Spots f ys ∧ qs = ys.map fun k => (k, f k) := by
  have hq : ∀ q ∈ qs, q.1 ∈ ks ∧ q.2 = f q.1 := fun q hq => by
    obtain ⟨k, h1, rfl⟩ := List.mem_map.mp (hp.mem_iff.mp hq)
    exact ⟨h1, rfl⟩
  have hk : (qs.map (·.1)).Perm ks := by
    have := hp.map (·.1)
    rw [List.map_map] at this
    rwa [show ((fun x : Int × Int => x.1) ∘ fun k => (k, f k)) = id from rfl, List.map_id] at this
  refine ⟨qs.map (·.1), ⟨strict_of hk (List.pairwise_map.mpr (hs.imp fun h => by unfold lexLe at h; omega)) hn, fun k => (hk.mem_iff).trans (hm k)⟩, ?_⟩
  rw [List.map_map]
  refine (List.map_id _).symm.trans (List.map_congr_left fun q h => ?_)
  have := (hq q h).2
  exact Prod.ext rfl this
/-! ### comprehensions over pairs that give a spot and its mean -/
theorem lcIn_prM {K : PySem.W.Frag} {J : It} {G : Hp → Prop} {r : Addr} {xs : List V} {hs : List (Int × Int)} {i j : Nat} {te : TE} {vs : List Nat} {σ : L2.St} {H1 : Hp} {Q : VK} (W : Walk J xs.length G (YAt xs)) (f : Int × Int → Int × Rat) (hG : ∀ H', Same H1 H' → G H') (hall : Paired (PrA r H1) xs hs) (hz : xs.length ≤ 10000000)
    (hw : ∀ x y, wipe (((wipe σ vs).set i (some x)).set j (some y)) vs = wipe σ vs)
    (step : ∀ (m : Nat) (p : Int × Int) (H2 : Hp), hs[m]? = some p → Same H1 H2 → ∀ QE : VK, (∀ H4 y, Same H2 H4 → MeanN H2 H4 y (f p) → QE y H4) → te (((wipe σ vs).set i (some (.int p.1))).set j (some (.int p.2))) H2 QE)
    (fin : ∀ (p : Addr) (H' : Hp) (zs : List V), H1 p = none → Same H1 H' → H' p = some (.lst zs) → Paired (MeanN H1 H') zs (hs.map f) → Q (.ref p) H') :
    LcIn J (gAny K 2 (gCons (gName i) (gCons (gName j) gNil))) tYes te vs σ H1 Q := fun D hD =>
  lc_it W (fun m H => Same H1 H ∧ ∃ zs : List V, H D = some (.lst zs) ∧ Paired (MeanN H1 H) zs ((hs.take m).map f)) ⟨Same.new hD, [], upd_same, .nil⟩ (fun m H _ p => hG _ p.1)
    (fun m x H H' hm p y => by
      obtain ⟨rfl, hx⟩ := y
      obtain ⟨s1, zs, eD, hp⟩ := p
      obtain ⟨z, hz1, g⟩ := Nd.paired_get hall hx
      refine (g.same s1).any ?_
      refine k_gcons (k_gname (k_gcons (k_gname (k_gnil ?_))))
      refine ⟨hw _ _, k_tYes ?_⟩
      rw [if_pos rfl]
      refine step m z _ hz1 s1 _ fun H4 y s4 hy => ?_
      have eD4 := s4 _ _ eD
      refine ⟨_, eD4, ?_, fun c o e => ?_, zs ++ [y], upd_same, ?_⟩
      · rw [pairs_len hp, List.length_map, List.length_take]
        exact Nat.lt_of_le_of_lt (Nat.min_le_left _ _) (Nat.lt_of_lt_of_le hm (Nat.le_trans hz (by decide)))
      · rw [upd_ne (ne_of_none e hD)]
        exact s4 _ _ (s1 _ _ e)
      · rw [List.take_succ, hz1, List.map_append]
        exact Paired.snoc (pairs_mono (fun _ _ h => MeanN.put (h.same s4) eD4) hp) ((hy.from s1).put eD4))
    (fun H' p => by
      obtain ⟨s1, zs, eD, hp⟩ := p
      rw [pairs_len hall, List.take_length] at hp
      exact fin D H' zs hD s1 eD hp)
theorem k_bm0 {K : PySem.W.Frag} {T : String} {r : V → List V → Hp → VK → Prop} {to : TE} {σ : L2.St} {H : Hp} {Q : VK} (h : to σ H fun x H1 => tyV K T x H1 ∧ r x [] H1 Q) : tBM0 K T r to σ H Q := h
theorem sum_filter0 (f : Int → Int) : ∀ l : List Int, ((l.filter fun k => decide (f k ≠ 0)).map f).sum = (l.map f).sum
  | [] => rfl
  | k :: l => by
    have ih := sum_filter0 f l
    by_cases h : f k = 0
    · rw [List.filter_cons_of_neg (by simp [h]), ih, List.map_cons, List.sum_cons, h, Int.zero_add]
    · rw [List.filter_cons_of_pos (by simp [h]), List.map_cons, List.sum_cons, ih, List.map_cons, List.sum_cons]
theorem range_srt (lo : Int) (N : Nat) : ((List.range N).map fun i : Nat => lo + (i : Int)).Pairwise (· < ·) := List.pairwise_map.mpr ((List.pairwise_lt_range).imp fun h => by omega)
theorem spots_filter {f : Int → Int} {ys : List Int} (h : Spots f ys) (lo : Int) (N : Nat) (hr : ∀ k, f k ≠ 0 → lo ≤ k ∧ k < lo + N) : ys = ((List.range N).map fun i : Nat => lo + (i : Int)).filter fun k => decide (f k ≠ 0) := by
  refine sorted_uniq h.srt ((range_srt lo N).sublist List.filter_sublist) fun k => ?_
  rw [h.mem, List.mem_filter]
  refine ⟨fun hk => ⟨?_, by simp [hk]⟩, fun hk => by simpa using hk.2⟩
  obtain ⟨a, b⟩ := hr k hk
  exact List.mem_map.mpr ⟨(k - lo).toNat, List.mem_range.mpr (by omega), by omega⟩
theorem spots_sum {f : Int → Int} {ys : List Int} (h : Spots f ys) (lo : Int) (N : Nat) (hr : ∀ k, f k ≠ 0 → lo ≤ k ∧ k < lo + N) : (ys.map f).sum = ((List.range N).map fun i : Nat => f (lo + (i : Int))).sum := by
  rw [spots_filter h lo N hr, sum_filter0, List.map_map]
  rfl
theorem sum_mulL (c : Int) (f : Nat → Int) : ∀ l : List Nat, (l.map fun i => c * f i).sum = c * (l.map f).sum
  | [] => by simp
  | k :: l => by rw [List.map_cons, List.sum_cons, sum_mulL c f l, List.map_cons, List.sum_cons, Int.mul_add]
theorem cnt_sum {t N : Nat} {lo : Int} : ∀ {hs : List (Int × Int)}, (∀ p ∈ hs, lo - p.1 ≤ -(t : Int) ∧ (t : Int) < lo - p.1 + N) → ((List.range N).map fun i : Nat => Nd.cnt hs t (lo + (i : Int))).sum = (hs.map (·.2)).sum * 2 ^ t
  | [], _ => by
    have : (fun i : Nat => Nd.cnt [] t (lo + (i : Int))) = fun i : Nat => 0 * (i : Int) := funext fun (i : Nat) => by rw [cnt_nil, Int.zero_mul]
    rw [this, sum_mulL]
    simp
  | p :: hs, h => by
    have e : (fun i : Nat => Nd.cnt (p :: hs) t (lo + (i : Int))) = fun i : Nat => p.2 * (W t ((lo - p.1) + (i : Int)) : Int) + Nd.cnt hs t (lo + (i : Int)) := funext fun i => by
      rw [cnt_cons, show lo + (i : Int) - p.1 = (lo - p.1) + (i : Int) by omega]
    obtain ⟨h1, h2⟩ := h p List.mem_cons_self
    rw [e, sum_add2, cnt_sum fun q hq => h q (List.mem_cons_of_mem _ hq), sum_mulL, sumW t N (lo - p.1) h1 h2, List.map_cons, List.sum_cons, Int.add_mul]
theorem cnt_far {hs : List (Int × Int)} (o : OkHs hs) {t : Nat} (ht : t ≤ 200) {k : Int} (h : Nd.cnt hs t k ≠ 0) : -1000400 ≤ k ∧ k ≤ 1000400 := by
  refine Classical.byContradiction fun c => h ?_
  have ho := o.ok
  clear o h
  induction hs with
  | nil => rfl
  | cons p hs ih =>
    obtain ⟨b1, b2, _⟩ := okHeap_of (ho p List.mem_cons_self)
    rw [cnt_cons, ih fun q hq => ho q (List.mem_cons_of_mem _ hq), W_far t _ (by omega)]
    simp
/-- all the shares together -/
theorem shares_sum {hs : List (Int × Int)} (o : OkHs hs) {t : Nat} (ht : t ≤ 200) {ys : List Int} (h : Spots (Nd.cnt hs t) ys) : (ys.map (Nd.cnt hs t)).sum = (hs.map (·.2)).sum * 2 ^ t := by
  rw [spots_sum h (-1000400) 2000801 fun k hk => by have := cnt_far o ht hk; omega]
  exact cnt_sum fun p hp => by
    obtain ⟨b1, b2, _⟩ := okHeap_of (o.ok p hp)
    omega
/-- how many spots there are -/
theorem cnt_near {hs : List (Int × Int)} {t : Nat} {k : Int} (h : Nd.cnt hs t k ≠ 0) : ∃ p ∈ hs, ∃ j : Nat, j ≤ t ∧ k = p.1 - t + 2 * (j : Int) := by
  induction hs with
  | nil => exact absurd rfl h
  | cons p hs ih =>
    by_cases c : W t (k - p.1) = 0
    · rw [cnt_cons, c] at h
      obtain ⟨q, hq, j, h1, h2⟩ := ih (by simpa using h)
      exact ⟨q, List.mem_cons_of_mem _ hq, j, h1, h2⟩
    · have p1 : (k - p.1 + t) % 2 = 0 := Classical.byContradiction fun z => c (W_odd t _ z)
      have p2 : ¬ ((t : Int) < k - p.1 ∨ k - p.1 < -(t : Int)) := fun z => c (W_far t _ z)
      exact ⟨p, List.mem_cons_self, ((k - p.1 + t) / 2).toNat, by omega, by omega⟩
theorem spots_len {hs : List (Int × Int)} {t : Nat} {ys : List Int} (h : Spots (Nd.cnt hs t) ys) : ys.length ≤ hs.length * (t + 1) := by
  have sub : ys ⊆ hs.flatMap fun p => (List.range (t + 1)).map fun j : Nat => p.1 - (t : Int) + 2 * (j : Int) := fun k hk => by
    obtain ⟨p, hp, j, h1, h2⟩ := cnt_near ((h.mem k).mp hk)
    exact List.mem_flatMap.mpr ⟨p, hp, List.mem_map.mpr ⟨j, List.mem_range.mpr (by omega), h2.symm⟩⟩
  have nd : ys.Nodup := h.srt.imp fun h e => by omega
  refine Nat.le_trans (List.Nodup.length_le_of_subset nd sub) ?_
  clear sub nd h
  induction hs with
  | nil => simp
  | cons p hs ih =>
    rw [List.flatMap_cons, List.length_append, List.length_map, List.length_range, List.length_cons, Nat.add_mul]
    omega
theorem sh_mean {hs : List (Int × Int)} (o : OkHs hs) (h4 : hs.length ≤ 4) {t : Nat} (ht : t ≤ 26) (k : Int) : Sh (Rat.divInt (Nd.cnt hs t k) (2 ^ t)) := by
  have e : (2 : Int) ^ t ≠ 0 := Int.ne_of_gt (Int.pow_pos (by decide))
  have d := divInt_le (u := Nd.cnt hs t k) e
  have h : (Nd.cnt hs t k).natAbs ≤ (hs.map fun p => p.2 * (W t (k - p.1) : Int)).length * (10 ^ 60 * 2 ^ 26) := sum_abs fun x hx => by
    obtain ⟨p, hp, rfl⟩ := List.mem_map.mp hx
    rw [Int.natAbs_mul, Int.natAbs_natCast]
    exact Nat.mul_le_mul (o.chips p hp) (Nat.le_trans (W_le _ _) (Nat.pow_le_pow_right (by decide) ht))
  rw [List.length_map] at h
  have h2 : hs.length * (10 ^ 60 * 2 ^ 26) ≤ 4 * (10 ^ 60 * 2 ^ 26) := Nat.mul_le_mul_right _ h4
  have h3 : ((2 : Int) ^ t).natAbs = 2 ^ t := by rw [Int.natAbs_pow]; rfl
  have h5 : 2 ^ t ≤ 2 ^ 26 := Nat.pow_le_pow_right (by decide) ht
  refine ⟨Nat.lt_of_le_of_lt (Nat.le_trans d.1 (Nat.le_trans h h2)) (by decide +kernel), ?_⟩
  rw [h3] at d
  omega
def rListA (K : PySem.W.Frag) : List V → Hp → VK → Prop := fun xs H Q => ∃ p ys, xs = [.ref p] ∧ (SqL K H p ys ∨ SqT K H p ys) ∧ ∀ l, H l = none → Q (.ref l) (upd H l (.lst ys))
theorem prs_dp {K : PySem.W.Frag} {r : Addr} {H : Hp} : ∀ {ts : List Addr} {hs : List (Int × Int)}, Paired (fun t p => t ≠ r ∧ H t = some (.tup [.int p.1, .int p.2])) ts hs → DpAll K H (ts.map V.ref) (hs.map pD)
  | _, _, .nil => .nil
  | _, _, .cons a t => .cons (.tup (.inl (.inl a.2)) (.cons (.int _) (.cons (.int _) .nil))) (prs_dp t)
/-- a spot and its mean, off r -/
def MeanR (r : Addr) (H : Hp) (v : V) (m : Int × Rat) : Prop := ∃ a y, v = .ref a ∧ a ≠ r ∧ H a = some (.tup [.int m.1, y]) ∧ Fr r H y m.2
theorem MeanN.toR {r : Addr} {n : Nat} {H H' : Hp} {v : V} {m : Int × Rat} (h : MeanN H H' v m) (R : Rid r n H) : MeanR r H' v m := by
  obtain ⟨a, y, e, n, ea, f⟩ := h
  exact ⟨a, y, e, R.ne n, ea, f.fr R⟩
theorem MeanR.gr {r : Addr} {H H' : Hp} {v : V} {m : Int × Rat} (h : MeanR r H v m) (g : Gr r H H') : MeanR r H' v m := by
  obtain ⟨a, y, e, n, ea, f⟩ := h
  exact ⟨a, y, e, n, g.all _ _ n ea, f.gr g⟩
theorem MeanR.dp {K : PySem.W.Frag} {r : Addr} {H : Hp} {v : V} {m : Int × Rat} (h : MeanR r H v m) : Dp K H v (meanD m) := by
  obtain ⟨a, y, rfl, n, ea, f⟩ := h
  exact .tup (.inl (.inl ea)) (.cons (.int _) (.cons f.dp .nil))
theorem means_dp {K : PySem.W.Frag} {r : Addr} {H : Hp} : ∀ {zs : List V} {ms : List (Int × Rat)}, Paired (fun v m => MeanR r H v m) zs ms → DpAll K H zs (ms.map meanD)
  | _, _, .nil => .nil
  | _, _, .cons a t => .cons a.dp (means_dp t)
theorem pra_no_int {r : Addr} {H : Hp} {i : Int} {ys : List V} {ms : List (Int × Int)} (h : Paired (PrA r H) (V.int i :: ys) ms) : False := by
  cases h with
  | cons h1 _ =>
    obtain ⟨_, z, _⟩ := h1
    cases z
theorem pairs_app {α β : Type} {F : α → β → Prop} : ∀ {l : List α} {m : List β} {l2 : List α} {m2 : List β}, Paired F l m → Paired F l2 m2 → Paired F (l ++ l2) (m ++ m2)
  | _, _, _, _, .nil, h => h
  | _, _, _, _, .cons a t, h => .cons a (pairs_app t h)
theorem pairs_rev {α β : Type} {F : α → β → Prop} : ∀ {l : List α} {m : List β}, Paired F l m → Paired F l.reverse m.reverse
  | _, _, .nil => .nil
  | _, _, .cons a t => by
    rw [List.reverse_cons, List.reverse_cons]
    exact pairs_app (pairs_rev t) (.cons a .nil)
theorem k_revL {K : PySem.W.Frag} {te : TE} {σ : L2.St} {H : Hp} {Q : VK} (h : te σ H fun x H1 => ∃ a xs, x = .ref a ∧ SqL K H1 a xs ∧ ∀ p, H1 p = none → Q (.ref p) (upd H1 p (.lst xs.reverse))) : tRevL K te σ H Q := h
/-- over a list of tuples: one drawn for each that tells the same pair -/
theorem passIn {K : PySem.W.Frag} {a r : Addr} {ts : List Addr} {hs : List (Int × Int)} {j N : Nat} {te : TE} {vs : List Nat} {σ : L2.St} {H1 : Hp} {Q : VK} {h4 : hs.length ≤ 4} (R : Rid r N H1) (na : a ≠ r) (ea : H1 a = some (.lst (ts.map V.ref))) (hts : Paired (fun t p => t ≠ r ∧ H1 t = some (.tup [.int p.1, .int p.2])) ts hs)
    (hw : ∀ x, wipe ((wipe σ vs).set j (some x)) vs = wipe σ vs)
    (step : ∀ (m : Nat) (t : Addr) (p : Int × Int) (H2 : Hp), m < 4 → t ≠ r → Gr r H1 H2 → Rid r (N + m) H2 → H2 t = some (.tup [.int p.1, .int p.2]) → ∀ QE : VK, (∀ H4 y, Gr r H2 H4 → Rid r (N + m + 1) H4 → PrA r H4 y p → QE y H4) → te ((wipe σ vs).set j (some (.ref t))) H2 QE)
    (fin : ∀ (p : Addr) (H' : Hp) (ys : List V), H1 p = none → Gr r H1 H' → Rid r (N + hs.length) H' → H' p = some (.lst ys) → Paired (PrA r H') ys hs → Q (.ref p) H') :
    LcIn (Itl K a) (gName j) tYes te vs σ H1 Q := fun D hD =>
  have nD := R.ne hD
  have eR : ∃ u, H1 r = some u := by
    obtain ⟨c, ns, a, z, h1, h2, _⟩ := R.ex
    exact ⟨_, h2⟩
  have hl : (ts.map V.ref).length = hs.length := by rw [List.length_map, pairs_len hts]
  lc_it walk_list (fun m H => Gr r H1 H ∧ Rid r (N + m) H ∧ ∃ ys : List V, H D = some (.lst ys) ∧ Paired (PrA r H) ys (hs.take m)) ⟨Gr.new hD, R.new hD, [], upd_same, .nil⟩ (fun m H _ p => .inl (.inl (p.1.all _ _ na ea)))
    (fun m x H H' hm p y => by
      obtain ⟨rfl, hx⟩ := y
      obtain ⟨g1, Rm, ys, eD, hp⟩ := p
      rw [List.getElem?_map] at hx
      obtain ⟨t, ht, rfl⟩ := Option.map_eq_some_iff.mp hx
      obtain ⟨z, hz1, nt, et⟩ := Nd.paired_get hts ht
      refine k_gname ?_
      refine ⟨hw _, k_tYes ?_⟩
      rw [if_pos rfl]
      refine step m t z _ (by omega) nt g1 Rm (g1.all _ _ nt et) _ fun H4 y g4 R4 hy => ?_
      have eD4 := g4.all _ _ nD eD
      have gz := g1.trans g4
      refine ⟨_, eD4, ?_, grPutNew gz hD eR, (ridN_of R gz R4 hD).put.rid, ys ++ [y], upd_same, ?_⟩
      · rw [pairs_len hp, List.length_take]
        exact Nat.lt_of_le_of_lt (Nat.min_le_right _ _) (Nat.lt_of_le_of_lt h4 (by decide))
      · have hp4 : Paired (PrA r H4) ys (hs.take m) := pairs_mono (fun _ _ h => PrA.gr h g4) hp
        have put : ∀ {v : V} {p : Int × Int}, PrA r H4 v p → PrA r (upd H4 D (.lst (ys ++ [y]))) v p := fun h => by
          obtain ⟨b, rfl, nb, e⟩ := h
          have : b ≠ D := fun z => by
            rw [z] at e
            rcases e with e | e
            · rcases e.is eD4 with e | ⟨_, e⟩ <;> cases e
            · rw [eD4] at e
              cases e
              exact pra_no_int hp4
          exact ⟨b, rfl, nb, trTo e fun u eu => (upd_ne this).trans eu⟩
        rw [List.take_succ, hz1]
        exact Paired.snoc (pairs_mono (fun _ _ h => put h) hp4) (put hy))
    (fun H' p => by
      obtain ⟨g1, Rm, ys, eD, hp⟩ := p
      rw [hl] at Rm
      rw [hl, List.take_length] at hp
      exact fin D H' ys hD g1 Rm eD hp)
theorem cut5 (xs : List V) : cutV xs none (some 5) = xs.take 5 := by
  unfold cutV
  rw [_root_.HT.sIx_none, show _root_.HT.sIx xs.length xs.length (some 5) = min 5 xs.length from _root_.HT.sIx_nat _ _ 5]
  simp
theorem k_sl5 {K : PySem.W.Frag} {a : Addr} {xs : List V} {H : Hp} {Q : VK} (h : H a = some (.tup xs)) (q : ∀ p H', Same H H' → H' p = some (.tup (xs.take 5)) → Q (.ref p) H') : rSlA K (.ref a) none (some 5) H Q := by
  refine ⟨a, xs, rfl, .inl (.inl h), fun c => ?_, fun _ p hp => ?_⟩
  · have c2 := c.2
    rw [show _root_.HT.sIx xs.length xs.length (some 5) = min 5 xs.length from _root_.HT.sIx_nat _ _ 5] at c2
    refine q a H (Same.refl _) ?_
    rw [List.take_of_length_le (by omega)]
    exact h
  · refine q p _ (Same.new hp) ?_
    rw [upd_same, cut5]
theorem pairs_take {α β : Type} {F : α → β → Prop} : ∀ {l : List α} {m : List β} (n : Nat), Paired F l m → Paired F (l.take n) (m.take n)
  | _, _, 0, _ => by rw [List.take_zero, List.take_zero]; exact .nil
  | _, _, n + 1, .nil => by rw [List.take_nil, List.take_nil]; exact .nil
  | _, _, n + 1, .cons a t => by rw [List.take_succ_cons, List.take_succ_cons]; exact .cons a (pairs_take n t)
theorem MeanR.same {r : Addr} {H H' : Hp} {v : V} {m : Int × Rat} (h : MeanR r H v m) (s : Same H H') : MeanR r H' v m := h.gr (Gr.same s)
/-- over a tuple of spots and means: a value each -/
theorem lcIn_mF {K : PySem.W.Frag} {a r : Addr} {zs : List V} {ms : List (Int × Rat)} {i j : Nat} {te : TE} {vs : List Nat} {σ : L2.St} {H1 : Hp} {Q : VK} (v : Int × Rat → V) (hx : H1 a = some (.tup zs)) (hall : Paired (MeanR r H1) zs ms) (hz : zs.length ≤ 50000)
    (hw : ∀ x y, wipe (((wipe σ vs).set i (some x)).set j (some y)) vs = wipe σ vs)
    (step : ∀ (n : Nat) (m : Int × Rat) (y : V) (H2 : Hp), ms[n]? = some m → Same H1 H2 → Fr r H2 y m.2 → ∀ QE : VK, (∀ H4, Same H2 H4 → QE (v m) H4) → te (((wipe σ vs).set i (some (.int m.1))).set j (some y)) H2 QE)
    (fin : ∀ p H', H1 p = none → Same H1 H' → H' p = some (.lst (ms.map v)) → Q (.ref p) H') :
    LcIn (Itt K a) (gTup K 2 (gCons (gName i) (gCons (gName j) gNil))) tYes te vs σ H1 Q := fun D hD =>
  lc_it walk_tup (fun m H => Same H1 H ∧ H D = some (.lst ((ms.take m).map v))) ⟨Same.new hD, upd_same⟩ (fun m H _ p => .inl (.inl (p.1 _ _ hx)))
    (fun m x H H' hm p y => by
      obtain ⟨rfl, hx⟩ := y
      obtain ⟨s1, eD⟩ := p
      obtain ⟨z, hz1, f⟩ := Nd.paired_get hall hx
      obtain ⟨b, y, rfl, nb, eb, fy⟩ := f.same s1
      refine k_gtup (.inl (.inl eb)) rfl ?_
      refine k_gcons (k_gname (k_gcons (k_gname (k_gnil ?_))))
      refine ⟨hw _ _, k_tYes ?_⟩
      rw [if_pos rfl]
      refine step m z y _ hz1 s1 fy _ fun H4 s4 => ?_
      refine ⟨_, s4 _ _ eD, ?_, fun b o e => ?_, ?_⟩
      · rw [List.length_map, List.length_take]
        exact Nat.lt_of_le_of_lt (Nat.min_le_left _ _) (Nat.lt_of_lt_of_le hm (Nat.le_trans hz (by decide)))
      · rw [upd_ne (ne_of_none e hD)]
        exact s4 _ _ (s1 _ _ e)
      · rw [upd_same, List.take_succ, hz1, List.map_append]
        rfl)
    (fun H' p => fin D H' hD p.1 (by
      have := p.2
      rwa [pairs_len hall, List.take_length] at this))
theorem pDs_lay : ∀ hs : List (Int × Int), PyData.canLayAll0 (hs.map pD) = true ∧ PyData.depthAll (hs.map pD) ≤ 1
  | [] => by simp [PyData.canLayAll0, PyData.depthAll]
  | p :: hs => by
    obtain ⟨h1, h2⟩ := pDs_lay hs
    refine ⟨by simp [PyData.canLayAll0, PyData.canLay0, pD, h1], ?_⟩
    simp [PyData.depthAll, PyData.depth, pD]
    omega
theorem sh_pDs (hs : List (Int × Int)) : SeqAt.shaped (.list (hs.map pD)) = true := by
  obtain ⟨h1, h2⟩ := pDs_lay hs
  simp [SeqAt.shaped, PyData.canLay0, PyData.depth, h1]
  omega
/-- over a tuple of spots and means, the mean taken apart -/
theorem lcIn_mG {K : PySem.W.Frag} {a r : Addr} {zs : List V} {ms : List (Int × Rat)} {i j l : Nat} {te : TE} {vs : List Nat} {σ : L2.St} {H1 : Hp} {Q : VK} (v : Int × Rat → V) (hx : H1 a = some (.tup zs)) (hall : Paired (MeanR r H1) zs ms) (hz : zs.length ≤ 50000)
    (hw : ∀ x y z, wipe ((((wipe σ vs).set i (some x)).set j (some y)).set l (some z)) vs = wipe σ vs)
    (step : ∀ (n : Nat) (m : Int × Rat) (H2 : Hp), ms[n]? = some m → Same H1 H2 → ∀ QE : VK, (∀ H4, Same H2 H4 → QE (v m) H4) → te ((((wipe σ vs).set i (some (.int m.1))).set j (some (.int m.2.num))).set l (some (.int (m.2.den : Int)))) H2 QE)
    (fin : ∀ p H', H1 p = none → Same H1 H' → H' p = some (.lst (ms.map v)) → Q (.ref p) H') :
    LcIn (Itt K a) (gTup K 2 (gCons (gName i) (gCons (gTup K 2 (gCons (gName j) (gCons (gName l) gNil))) gNil))) tYes te vs σ H1 Q := fun D hD =>
  lc_it walk_tup (fun m H => Same H1 H ∧ H D = some (.lst ((ms.take m).map v))) ⟨Same.new hD, upd_same⟩ (fun m H _ p => .inl (.inl (p.1 _ _ hx)))
    (fun m x H H' hm p y => by
      obtain ⟨rfl, hx⟩ := y
      obtain ⟨s1, eD⟩ := p
      obtain ⟨z, hz1, f⟩ := Nd.paired_get hall hx
      obtain ⟨b, y, rfl, nb, eb, c, rfl, nc, ec⟩ := f.same s1
      refine k_gtup (.inl (.inl eb)) rfl ?_
      refine k_gcons (k_gname (k_gcons ?_))
      refine k_gtup (.inl (.inl ec)) rfl ?_
      refine k_gcons (k_gname (k_gcons (k_gname (k_gnil (k_gnil ?_)))))
      refine ⟨hw _ _ _, k_tYes ?_⟩
      rw [if_pos rfl]
      refine step m z _ hz1 s1 _ fun H4 s4 => ?_
      refine ⟨_, s4 _ _ eD, ?_, fun b o e => ?_, ?_⟩
      · rw [List.length_map, List.length_take]
        exact Nat.lt_of_le_of_lt (Nat.min_le_left _ _) (Nat.lt_of_lt_of_le hm (Nat.le_trans hz (by decide)))
      · rw [upd_ne (ne_of_none e hD)]
        exact s4 _ _ (s1 _ _ e)
      · rw [upd_same, List.take_succ, hz1, List.map_append]
        rfl)
    (fun H' p => fin D H' hD p.1 (by
      have := p.2
      rwa [pairs_len hall, List.take_length] at this))
end Nd

namespace Nd
open PySem PySem.Spec PyProof.Rows L2 LamX
theorem meansD_lay : ∀ ms : List (Int × Rat), PyData.canLayAll0 (ms.map meanD) = true ∧ PyData.depthAll (ms.map meanD) ≤ 2
  | [] => by simp [PyData.canLayAll0, PyData.depthAll]
  | m :: ms => by
    obtain ⟨h1, h2⟩ := meansD_lay ms
    refine ⟨by simp [PyData.canLayAll0, PyData.canLay0, meanD, fq, h1], ?_⟩
    simp [PyData.depthAll, PyData.depth, meanD, fq]
    omega
theorem sh_meansD (ms : List (Int × Rat)) : SeqAt.shaped (.tuple (ms.map meanD)) = true := by
  obtain ⟨h1, h2⟩ := meansD_lay ms
  simp [SeqAt.shaped, PyData.canLay0, PyData.depth, h1]
  omega
theorem eqvs_meansD : ∀ ms : List (Int × Rat), PyData.eqvAll (ms.map meanD) (ms.map meanD) = true
  | [] => by simp only [List.map_nil, PyData.eqvAll]
  | m :: ms => by
    have h : PyData.eqv (fq m.2) (fq m.2) = true := by rw [eqv_fq]; simp
    simp [PyData.eqvAll, PyData.eqv, meanD, h, eqvs_meansD ms]
theorem ne_meansD (ms : List (Int × Rat)) : (!PyData.eqv (.tuple (ms.map meanD)) (.tuple (ms.map meanD))) = false := by
  simp only [PyData.eqv, eqvs_meansD, Bool.not_true]
/-- over a range: a tuple of a known and a drawn int each -/
theorem manyIn {r : Addr} {n N j : Nat} {te : TE} {vs : List Nat} {σ : L2.St} {H1 : Hp} {Q : VK} (f : Nat → Int) (hi : Int) (R : Rid r N H1) (hn : n ≤ 1000)
    (hw : ∀ x, wipe ((wipe σ vs).set j (some x)) vs = wipe σ vs)
    (step : ∀ (m : Nat) (H2 : Hp), m < n → Gr r H1 H2 → Rid r (N + m) H2 → ∀ QE : VK, (∀ H4 t v, Gr r H2 H4 → Rid r (N + m + 1) H4 → t ≠ r → 1 ≤ v → v ≤ hi → H4 t = some (.tup [.int (f m), .int v]) → QE (.ref t) H4) → te ((wipe σ vs).set j (some (.int (0 + (m : Int))))) H2 QE)
    (fin : ∀ (p : Addr) (H' : Hp) (ts : List Addr) (ps : List (Int × Int)), H1 p = none → p ≠ r → Gr r H1 H' → Rid r (N + n) H' → H' p = some (.lst (ts.map V.ref)) → Paired (fun t p => t ≠ r ∧ H' t = some (.tup [.int p.1, .int p.2])) ts ps → ps.map (·.1) = (List.range n).map f → (∀ p ∈ ps, 1 ≤ p.2 ∧ p.2 ≤ hi) → Q (.ref p) H') :
    LcIn (Itr 0 n) (gName j) tYes te vs σ H1 Q := fun D hD =>
  have nD := R.ne hD
  have eR : ∃ u, H1 r = some u := by
    obtain ⟨c, ns, a, z, h1, h2, _⟩ := R.ex
    exact ⟨_, h2⟩
  lc_it (walk_range (lo := 0) (n := n)) (fun m H => Gr r H1 H ∧ Rid r (N + m) H ∧ ∃ (ts : List Addr) (ps : List (Int × Int)), H D = some (.lst (ts.map V.ref)) ∧ Paired (fun t p => t ≠ r ∧ H t = some (.tup [.int p.1, .int p.2])) ts ps ∧ ps.map (·.1) = (List.range m).map f ∧ ∀ p ∈ ps, 1 ≤ p.2 ∧ p.2 ≤ hi)
    ⟨Gr.new hD, R.new hD, [], [], upd_same, .nil, rfl, fun _ h => nomatch h⟩ (fun _ _ _ _ => trivial)
    (fun m x H H' hm p y => by
      obtain ⟨rfl, rfl⟩ := y
      obtain ⟨g1, Rm, ts, ps, eD, hp, e1, e2⟩ := p
      refine k_gname ?_
      refine ⟨hw _, k_tYes ?_⟩
      rw [if_pos rfl]
      refine step m _ hm g1 Rm _ fun H4 t v g4 R4 nt v1 v2 et => ?_
      have eD4 := g4.all _ _ nD eD
      have gz := g1.trans g4
      have ne : ∀ {c : Addr} {zs : List V}, H4 c = some (.tup zs) → c ≠ D := fun e z => by
        rw [z, eD4] at e
        cases e
      refine ⟨_, eD4, ?_, grPutNew gz hD eR, (ridN_of R gz R4 hD).put.rid, ts ++ [t], ps ++ [(f m, v)], ?_, ?_, ?_, fun p hp => ?_⟩
      · have := congrArg List.length e1
        rw [List.length_map, List.length_map, List.length_range] at this
        rw [List.length_map, pairs_len hp, this]
        exact Nat.lt_of_lt_of_le hm (Nat.le_trans hn (by decide))
      · rw [upd_same, List.map_append]
        rfl
      · exact Paired.snoc (pairs_mono (fun _ _ h => ⟨h.1, (upd_ne (ne (g4.all _ _ h.1 h.2))).trans (g4.all _ _ h.1 h.2)⟩) hp) ⟨nt, (upd_ne (ne et)).trans et⟩
      · rw [List.map_append, List.range_succ, List.map_append, e1]
        rfl
      · rcases List.mem_append.mp hp with h | h
        · exact e2 p h
        · rw [List.mem_singleton.mp h]
          exact ⟨v1, v2⟩)
    (fun H' p => by
      obtain ⟨g1, Rm, ts, ps, eD, hp, e1, e2⟩ := p
      exact fin D H' ts ps hD nD g1 Rm eD hp e1 e2)
/-- over ints: new fractions -/
theorem lcIn_ksF {K : PySem.W.Frag} {a : Addr} {ks : List Int} {j : Nat} {te : TE} {vs : List Nat} {σ : L2.St} {H1 : Hp} {Q : VK} (q : Int → Rat) (hx : H1 a = some (.tup (ks.map V.int))) (hz : ks.length ≤ 50000)
    (hw : ∀ x, wipe ((wipe σ vs).set j (some x)) vs = wipe σ vs)
    (step : ∀ (k : Int) (H2 : Hp), k ∈ ks → Same H1 H2 → ∀ QE : VK, (∀ H4 y, Same H2 H4 → FrN H2 H4 y (q k) → QE y H4) → te ((wipe σ vs).set j (some (.int k))) H2 QE)
    (fin : ∀ p H' zs, H1 p = none → Same H1 H' → H' p = some (.lst zs) → Paired (FrN H1 H') zs (ks.map q) → Q (.ref p) H') :
    LcIn (Itt K a) (gName j) tYes te vs σ H1 Q := fun D hD =>
  lc_it walk_tup (fun m H => Same H1 H ∧ ∃ zs, H D = some (.lst zs) ∧ Paired (FrN H1 H) zs ((ks.take m).map q)) ⟨Same.new hD, [], upd_same, .nil⟩ (fun m H _ p => .inl (.inl (p.1 _ _ hx)))
    (fun m x H H' hm p y => by
      obtain ⟨rfl, hx⟩ := y
      obtain ⟨s1, zs, eD, hp⟩ := p
      rw [List.getElem?_map] at hx
      obtain ⟨k, hk, rfl⟩ := Option.map_eq_some_iff.mp hx
      refine k_gname ?_
      refine ⟨hw _, k_tYes ?_⟩
      rw [if_pos rfl]
      refine step k _ (List.mem_of_getElem? hk) s1 _ fun H4 y s4 hy => ?_
      have eD4 := s4 _ _ eD
      refine ⟨zs, eD4, ?_, fun b o e => ?_, zs ++ [y], upd_same, ?_⟩
      · rw [pairs_len hp, List.length_map, List.length_take]
        rw [List.length_map] at hm
        exact Nat.lt_of_le_of_lt (Nat.min_le_left _ _) (Nat.lt_of_lt_of_le hm (Nat.le_trans hz (by decide)))
      · rw [upd_ne (ne_of_none e hD)]
        exact s4 _ _ (s1 _ _ e)
      · rw [List.take_succ, hk, List.map_append]
        exact Paired.snoc (pairs_mono (fun _ _ h => FrN.put (h.same s4) eD4) hp) ((hy.from s1).put eD4))
    (fun H' p => by
      obtain ⟨s1, zs, eD, hp⟩ := p
      rw [List.length_map, List.take_length] at hp
      exact fin D H' zs hD s1 eD hp)
/-- one chip: each other spot within reach -/
theorem spots_one {t : Nat} {ys : List Int} (h : Spots (Nd.cnt [(0, 1)] t) ys) : ys.length = t + 1 := by
  have h2 : Spots (Nd.cnt [(0, 1)] t) ((List.range (t + 1)).map fun j : Nat => -(t : Int) + 2 * (j : Int)) := by
    refine ⟨List.pairwise_map.mpr ((List.pairwise_lt_range).imp fun h => by omega), fun k => ?_⟩
    have e : Nd.cnt [(0, 1)] t k = (W t k : Int) := by
      rw [cnt_cons, cnt_nil]
      simp
    rw [e]
    constructor
    · intro hk
      obtain ⟨j, hj, rfl⟩ := List.mem_map.mp hk
      rw [show -(t : Int) + 2 * (j : Int) = 2 * (j : Int) - t by omega, W_ch]
      have := Nd.ch_pos (n := t) (k := j) (by have := List.mem_range.mp hj; omega)
      omega
    · intro hk
      have hk : W t k ≠ 0 := fun z => hk (by rw [z]; rfl)
      have p1 : (k + t) % 2 = 0 := Classical.byContradiction fun z => hk (W_odd t _ z)
      have p2 : ¬ ((t : Int) < k ∨ k < -(t : Int)) := fun z => hk (W_far t _ z)
      exact List.mem_map.mpr ⟨((k + t) / 2).toNat, List.mem_range.mpr (by omega), by omega⟩
  rw [h.uniq h2, List.length_map, List.length_range]
end Nd

namespace Nd
open PySem PySem.Spec PyProof.Rows L2 LamX
/-! ### a call that may raise, or end -/
/-- try: body, which may raise / except x as n: suite, which ends -/
theorem ps_tryN {X : Cx} {x n : Str} {c : Value} {i : Nat} {body su : List Stmt} {b0 : Stmt} {q1 q2 q3 : Pos} {tb : WX → TS} {ts : Addr → Value → Option Addr → TS} (hst : X.stack = X.env :: X.outer) (hfr : X.env.frame = some X.env.locals) (hex : X.ex = [])
    (nd : X.N.Nodup) (hi : X.N[i]? = some n) (hln : X.env.kindOf n = some .local) (hc : Names X x c)
    (hB : ∀ (W : WX) (pn : List (Addr × Obj)) (xe : Value → Shared → Prop), Takes (X.tr pn xe) W → PassesOwn (model X.prog X.w) X.A X.env xe → PSs (X.tr pn xe) body (tb W))
    (hS : ∀ (a : Addr) (ob : Obj) (cls : Value) (d : Option Addr) (pn : List (Addr × Obj)), Zc cls d ob → (∃ fs, ob.data = .fields fs) → PSs (X.suite a ((a, ob) :: pn)) (b0 :: su) (ts a cls d)) :
    PS X (.Try body [.ExceptHandler (some (.Name x q1)) (some n) (b0 :: su) q2] [] [] q3) (fun D σ H => tb (wKeep X.K c i ts D) (Ends.mk D.nx (fun _ _ => False) (fun _ _ => False) (fun _ _ => False)) σ H) := by
  refine ⟨fun pins s σ H D I rd => ?_⟩
  have ok := I.ok
  have hA : X.A.frames = some (X.env :: X.outer) := by rw [ok.frames, hst]
  have own : Loc X.env.scope n := .inl hln
  refine wpAny_Try_except ?_
  let up1 : Value → Shared → Prop := fun e t => wpAny (model X.prog X.w) X.A (noteFrame e X.env) (fun _ t2 => wpAny (model X.prog X.w) X.A (setFlight e none) (fun _ t3 =>
    wpAny (model X.prog X.w) X.A (handleBy e X.env [.ExceptHandler (some (.Name x q1)) (some n) (b0 :: su) q2]) (SP X pins D) X.xe t3) X.xe t2) X.xe t
  refine wpAny_mono ((hB (wKeep X.K c i ts D) (X.pn ++ pins) up1 (fun u t xx => ?_) PassesOwn.looking).run [] s σ H _ (I.toTry _) rd) (fun fl t hsp => ?_) (fun e t h => h)
  · obtain ⟨a, B, sI, pns, σ1, H1, cls, d, rfl, J1, nb, upS, sky, na, os, bare, hyes, hrd⟩ := xx
    have J : Inv X pins σ1 H1 sI := J1.ofTry ok
    replace sky : Sky B (X.env :: X.outer) a (Zc cls d) X.env.locals t.heap := hst ▸ sky
    change wpAny (model X.prog X.w) X.A (noteFrame (.ref a) X.env) _ _ _
    refine Sky.land Zc.steady hA hfr sky fun g3 f3 u3 => ?_
    have J3 : Inv X pins σ1 H1 { t with heap := g3 } := J.landed nb f3.1 (upS.trans u3) os bare
    obtain ⟨o3, v3, e3, z3, d3⟩ := f3.there
    have frn : a ∉ frs (X.env :: X.outer) := fun hm => by
      obtain ⟨_, o', e', no⟩ := f3.2.2.1.mem hm
      rw [e3] at e'
      cases e'
      exact no _ d3
    have nL : a ≠ X.env.locals := fun z => frn (List.mem_filterMap.mpr ⟨X.env, List.mem_cons_self, by rw [hfr, z]⟩)
    have nF : a ∉ X.fs := fun hm => by
      obtain ⟨e, he, q⟩ := List.mem_filterMap.mp hm
      exact frn (List.mem_filterMap.mpr ⟨e, List.mem_cons_of_mem _ he, q⟩)
    have notI : ∀ o, sI.heap.get? a ≠ some o := fun o e => by
      have := nb a o e (hst ▸ frn)
      rw [f3.2.1] at this
      cases this
    have n0 : X.s_0.heap.get? a = none := by
      cases h0 : X.s_0.heap.get? a with
      | none => rfl
      | some o =>
        obtain ⟨o', e'⟩ := J.base.there a o h0 (by rw [hex]; exact List.not_mem_nil)
        exact (notI _ e').elim
    have npin : ∀ p ∈ X.pn ++ pins, p.1 ≠ a := fun p hp z => notI p.2 (z ▸ (J.pin p hp).1)
    have S3 := J3.suite e3 d3 na nL nF
    refine wpAny_handleBy_cons (codeAny_handlers_test ?_) (by intro q; cases q)
    have LT : PySem.W.Looks (model X.prog X.w) g3 (typeOf (.ref a)) cls := fun A Q E s k q => wpAny_typeOf_ref (k _ _ e3) (z3.1.symm ▸ q)
    have LM := PySem.W.exm_one (M := model X.prog X.w) J3.kIn LT hyes
    have nm : ∀ {Q : Value → Shared → Prop} {E : Value → Shared → Prop}, Q c { t with heap := g3 } → wpAny (model X.prog X.w) (X.A.mark (some (.ref a))) (eval (.Name x q1) X.env) Q E { t with heap := g3 } := fun {Q E} k => by
      obtain ⟨hg, hdb, hm | ⟨hm, hv, hnn⟩⟩ := hc
      · exact ld_glob (X := X.suite a ((a, o3) :: (X.pn ++ pins))) S3 hg hm k hdb
      · exact ld_blt (X := X.suite a ((a, o3) :: (X.pn ++ pins))) S3 hg hm hv k hnn hdb
    refine nm (LM.here ?_)
    refine codeAny_handlers_suite_as ?_
    refine HandSPX.lands_againZ f3 fun g4 f4 u4 => ?_
    have J4 : Inv X pins σ1 H1 { t with heap := g4 } := J.landed nb f4.1 ((upS.trans u3).trans u4) os bare
    obtain ⟨o4, v4, e4, z4, d4⟩ := f4.there
    refine store_ok (X := X.suite a ((a, o4) :: (X.pn ++ pins))) (v := .ref a) (J4.suite e4 d4 na nL nF) nd hi own rfl (fun s5 S5 => ?_) (.inr hln)
    refine wpAny_mono ((hS a o4 cls d (X.pn ++ pins) z4 ⟨_, d4⟩).run [] s5 _ H1 _ S5 (hrd a na)) (fun fl s6 hsp => ?_) (fun _ _ z => z.elim)
    cases fl with
    | next =>
      obtain ⟨σ6, H6, S6, q6⟩ := hsp
      obtain ⟨p1, p2, _⟩ := S6.pin (a, o4) (by simp)
      exact gone_ok (Inv.track (S6.unsuite ok) p1 z4 d4 n0 p2 nL npin) nd hi hln fun s7 J7 => ⟨_, _, J7, q6⟩
    | brk =>
      obtain ⟨σ6, H6, S6, q6⟩ := hsp
      exact q6.elim
    | cont =>
      obtain ⟨σ6, H6, S6, q6⟩ := hsp
      exact q6.elim
    | ret u =>
      obtain ⟨v6, σ6, H6, S6, r6, q6⟩ := hsp
      exact q6.elim
  · cases fl with
    | next =>
      obtain ⟨σ', H', J, q⟩ := hsp
      exact (pss_nil (X := X)).run pins t σ' H' D (J.ofTry ok) q
    | brk =>
      obtain ⟨_, _, _, q⟩ := hsp
      exact q.elim
    | cont =>
      obtain ⟨_, _, _, q⟩ := hsp
      exact q.elim
    | ret u =>
      obtain ⟨_, _, _, _, _, q⟩ := hsp
      exact q.elim
/-! ### isinstance of None or of a kept error, against the program's classes -/
def rIsO (K : PySem.W.Frag) : List V → Hp → VK → Prop := fun xs H Q => rIsi K xs H Q ∨ rIsX K xs H Q
theorem call_isO {X : Cx} : CallR X (.builtin "isinstance") (rIsO X.K) := call_isi.or call_isX
theorem k_isNone {K : PySem.W.Frag} {C : Addr} {H : Hp} {Q : VK} (h : PySem.W.kitOne K (.type "NoneType") (.ref C) = some false) (q : Q (.bl false) H) : rIsO K [.non, .ref C] H Q :=
  .inl ⟨.non, .ref C, .type "NoneType", .ref C, false, rfl, .own C, Dr.ty (r := 0) (H := H) (K := K) .non, h, q⟩
theorem k_isErr {K : PySem.W.Frag} {a C1 C2 d : Addr} {fs : List (Str × V)} {b : Bool} {H : Hp} {Q : VK} (ha : H a = some (ExV (.ref C1) (some d) a)) (hd : H d = some (.xd fs)) (T : ExcC K C1) (hc : (PySem.W.clsIn K C1).isSome = true) (h : PySem.W.kitOne K (.ref C1) (.ref C2) = some b) (q : Q (.bl b) H) : rIsO K [.ref a, .ref C2] H Q :=
  .inr ⟨a, C1, d, fs, .ref C2, .ref C2, b, rfl, ha, hd, T, hc, fun u r => r, h, q⟩
theorem kit_self (K : PySem.W.Frag) (C : Addr) : PySem.W.kitOne K (.ref C) (.ref C) = some true := by unfold PySem.W.kitOne; exact if_pos (by simp)
/-! ### what a law's part makes of a call: nothing raised, or which error with which fields -/
def TTh (N : Addr → List (Str × V) → Option (List V)) : (XK → Hp → VK → Prop) → Hp → VK → Prop := fun tl H Q =>
  ∀ (E : XK) (Qn : Hp → Prop), (∀ (C d : Addr) (fs : List (Str × V)) (xs : List V) (H' : Hp), N C fs = some xs → H' d = some (.xd fs) → (∀ H2 p, Same H' H2 → H' p = none → H2 p = some (.tup xs) → Q (.ref p) H2) → E (.ref C) (some d) H') →
    (∀ H', (∀ H2, Same H' H2 → Q .non H2) → Qn H') → tl E H (fun _ H' => Qn H')
/-- an error of the class at C, with those fields, is out -/
def OutsF (E : XK) (C : Addr) (fs : List (Str × V)) (H : Hp) : Prop := ∀ H' dd, Same H H' → H dd = none → H' dd = some (.xd fs) → E (.ref C) (some dd) H'
theorem OutsF.same {E : XK} {C : Addr} {fs : List (Str × V)} {H H1 : Hp} (o : OutsF E C fs H) (s : Same H H1) : OutsF E C fs H1 := fun H' dd s' n e => o H' dd (s.trans s') (s.free n) e
theorem OutsF.new {E : XK} {C : Addr} {fs : List (Str × V)} {H H1 : Hp} (o : OutsF E C fs H) (s : Same H H1) : ∀ d, H1 d = none → E (.ref C) (some d) (upd H1 d (.xd fs)) := fun d hd => o _ d (s.trans (Same.new hd)) (s.free hd) upd_same
theorem Outs.toF {E : XK} {C : Addr} {z : Str} {H : Hp} (o : Outs E C z H) : OutsF E C [("part", .str z)] H := o
theorem OutsF.part {E : XK} {C : Addr} {z : Str} {H : Hp} (o : OutsF E C [("part", .str z)] H) : Outs E C z H := o
theorem k_lamH {T : List (Addr × Str)} {N : Addr → List (Str × V) → Option (List V)} {t : XK → TE} {σ : L2.St} {H : Hp} {Q : VK} (hT : Tabs T H)
    (h : ∀ (H1 : Hp) (E : XK) (Qn : Hp → Prop), ExtN H H1 → Tabs T H1 → (∀ (C : Addr) (fs : List (Str × V)) (xs : List V), N C fs = some xs → (∀ H2 p, ExtN H1 H2 → Tabs T H2 → H1 p = none → H2 p = some (.tup xs) → Q (.ref p) H2) → OutsF E C fs H1) →
      (∀ H', Same H1 H' → (∀ H2, ExtN H1 H2 → Tabs T H2 → Q .non H2) → Qn H') → t E σ H1 (fun _ H' => Qn H')) : tLam T (TTh N) t σ H Q :=
  ⟨hT, fun H1 x1 T1 E Qn hE hN => h H1 E Qn x1 T1 (fun C fs xs hn k H' dd s nd e => hE C dd fs xs H' hn e fun H2 p s2 np e2 => k H2 p (ExtN.of (s.trans s2)) (T1.ext (s.trans s2)) (s.free np) e2) fun H' s' k => hN H' fun H2 s2 => k H2 (ExtN.of (s'.trans s2)) (T1.ext (s'.trans s2))⟩
/-! ### an error that keeps a text and a value: TooMany -/
def spInitTM (C : Addr) : Sp := fun vs H Q _ => ∃ (a : Addr) (z : Str) (y : V), vs = [.ref a, .str z, y] ∧ z.length ≤ 100 ∧ H a = some (exo a C none) ∧
  ∀ d, H d = none → d ≠ a → Q .non (upd (upd H d (exd d [("most", y), ("what", .str z)])) a (exo a C (some d)))
theorem k_ost2 {K : PySem.W.Frag} {f : Str} {i j : Nat} {a d C : Addr} {y : V} {fs : List (Str × V)} {D : Ends} {σ : L2.St} {H : Hp} (hi : σ[i]? = some (some (.ref a))) (hj : σ[j]? = some (some y)) (T : OexC K C) (n : PySem.W.findIn K (.ref C) f = some none) (e : H a = some (exo a C (some d))) (ed : H d = some (exd d fs)) (hl : fs.length ≤ 900)
    (q : D.nx σ (upd H d (exd d ((f, y) :: fs)))) : tOst K f (tVar i) (tVar j) D σ H := ⟨y, hj, .ref a, hi, a, C, rfl, T, n, .inr ⟨d, fs, e, ed, hl, q⟩⟩
theorem k_raiseTM {W : WX} {C : Addr} {ta : TA} {D : Ends} {σ : L2.St} {H : Hp}
    (h : ta σ H fun vs H1 => ∃ (z : Str) (y : V), vs = [.str z, y] ∧ z.length ≤ 100 ∧ ∀ d, H1 d = none → W (.ref C) (some d) σ (upd H1 d (.xd [("most", y), ("what", .str z)])))
    (mono : ∀ {Q Q' : List V → Hp → Prop}, (∀ vs H', Q vs H' → Q' vs H') → ta σ H Q → ta σ H Q') : tRaiseE W C (spInitTM C) ta D σ H := by
  refine mono (fun vs H1 ⟨z, y, e, hz, q⟩ => ?_) h
  subst e
  refine ⟨by show 2 ≤ 1000; decide, fun a na => ⟨a, z, y, rfl, hz, upd_same, fun d hd ne => ?_⟩⟩
  rw [upd_ne ne] at hd
  refine ⟨rfl, d, _, upd_same, (upd_ne ne).trans upd_same, hd, ?_⟩
  have eH : upd (del (upd (upd (upd H1 a (exo a C none)) d (exd d [("most", y), ("what", V.str z)])) a (exo a C (some d))) a) d (.xd [("most", y), ("what", V.str z)]) = upd H1 d (.xd [("most", y), ("what", V.str z)]) := by
    funext b
    by_cases e1 : b = d
    · rw [e1, upd_same, upd_same]
    · rw [upd_ne e1, upd_ne e1]
      by_cases e2 : b = a
      · rw [e2, del_same, na]
      · rw [del_ne e2, upd_ne e2, upd_ne e1, upd_ne e2]
  rw [eH]
  exact q d hd
end Nd
namespace Nd
open PySem PySem.Spec PyProof.Rows L2 LamX
theorem k_tB' {t : TE} {σ : L2.St} {H : Hp} {Q : Bool → Hp → Prop} (h : t σ H fun x H1 => ∃ c, x = .bl c ∧ Q c H1) : tB t σ H Q := h
/-- over pairs of a word and a truth: the words whose truth is so -/
theorem lcIn_words {K : PySem.W.Frag} {a : Addr} {ts : List Addr} {ps : List (Str × Bool)} {i j : Nat} {vs : List Nat} {σ : L2.St} {H1 : Hp} {Q : VK} (hx : H1 a = some (.lst (ts.map V.ref))) (hp : Paired (fun t p => H1 t = some (.tup [.str p.1, .bl p.2])) ts ps) (hz : ts.length ≤ 1000)
    (hw : ∀ x y, wipe (((wipe σ vs).set i (some x)).set j (some y)) vs = wipe σ vs)
    (hj : ∀ x y, (((wipe σ vs).set i (some x)).set j (some y))[j]? = some (some y)) (hi : ∀ x y, (((wipe σ vs).set i (some x)).set j (some y))[i]? = some (some x))
    (fin : ∀ p H', H1 p = none → Same H1 H' → H' p = some (.lst ((ps.filter (·.2)).map fun p => V.str p.1)) → Q (.ref p) H') :
    LcIn (Itl K a) (gTup K 2 (gCons (gName i) (gCons (gName j) gNil))) (tTest (tVar j)) (tVar i) vs σ H1 Q := fun D hD =>
  lc_it walk_list (fun m H => Same H1 H ∧ H D = some (.lst (((ps.take m).filter (·.2)).map fun p => V.str p.1))) ⟨Same.new hD, upd_same⟩ (fun m H _ p => .inl (.inl (p.1 _ _ hx)))
    (fun m x H H' hm p y => by
      obtain ⟨rfl, hx⟩ := y
      obtain ⟨s1, eD⟩ := p
      rw [List.getElem?_map] at hx
      obtain ⟨t, ht, rfl⟩ := Option.map_eq_some_iff.mp hx
      obtain ⟨z, hz1, et⟩ := Nd.paired_get hp ht
      refine k_gtup (.inl (.inl (s1 _ _ et))) rfl ?_
      refine k_gcons (k_gname (k_gcons (k_gname (k_gnil ?_))))
      refine ⟨hw _ _, ?_⟩
      refine k_test (k_var (hj _ _) ⟨_, rfl, ?_⟩)
      have hlen : (((ps.take m).filter (·.2)).map fun p => V.str p.1).length < sizeLine := by
        rw [List.length_map]
        refine Nat.lt_of_le_of_lt (List.length_filter_le _ _) (Nat.lt_of_le_of_lt (List.length_take_le _ _) ?_)
        rw [List.length_map] at hm
        exact Nat.lt_of_le_of_lt (Nat.le_trans (Nat.le_of_lt hm) hz) (by decide)
      cases hb : z.2 with
      | true =>
        rw [if_pos rfl]
        refine k_var (hi _ _) ⟨_, eD, hlen, fun b o e => ?_, ?_⟩
        · rw [upd_ne (ne_of_none e hD)]
          exact s1 _ _ e
        · rw [upd_same, List.take_succ, hz1, List.filter_append, List.map_append]
          simp [hb]
      | false =>
        rw [if_neg (by decide)]
        refine ⟨s1, ?_⟩
        rw [eD, List.take_succ, hz1, List.filter_append, List.map_append]
        simp [hb])
    (fun H' p => fin D H' hD p.1 (by
      have := p.2
      rwa [List.length_map, pairs_len hp, List.take_length] at this))
end Nd

namespace Nd
open PySem PySem.Spec PyProof.Rows L2 LamX
/-! ### heaps that are refused -/
def spNeedHeapsX (C : Addr) : Sp := fun vs H Q E => ∃ (r : Addr) (v : V) (z : Str) (d : PyData), vs = [v, .str z] ∧ z.length ≤ 100 ∧ Dr r H v d ∧ lenOk2 d ∧ (heapsD d = true → ∀ H', Same H H' → Q .non H') ∧ (heapsD d = false → Outs E C z H)
/-- all of one colour -/
def oneCol (hs : List (Int × Int)) : Bool := decide (dcR ((hs.map fun p => p.1 % 2).reverse) ≤ 1)
theorem dcR_col (hs : List (Int × Int)) : oneCol hs = true ↔ dcR ((hs.map fun p => p.1 % 2).reverse) ≤ 1 := by unfold oneCol; exact decide_eq_true_iff
theorem oneCol_of {hs : List (Int × Int)} {c : Int} (h : ∀ p ∈ hs, p.1 % 2 = c) : oneCol hs = true := (dcR_col hs).mpr (dcR_same (c := c) _ fun k hk => by
  rw [List.mem_reverse] at hk
  obtain ⟨p, hp, rfl⟩ := List.mem_map.mp hk
  exact h p hp)
theorem dcR_pos : ∀ {l : List Int} {x : Int}, x ∈ l → 1 ≤ dcR l
  | k :: r, x, h => by
    rw [dcR]
    by_cases hm : k ∈ r
    · rw [if_pos hm]
      exact dcR_pos hm
    · rw [if_neg hm]
      omega
theorem dcR_two : ∀ {l : List Int} {x y : Int}, x ∈ l → y ∈ l → x ≠ y → 2 ≤ dcR l
  | k :: r, x, y, hx, hy, n => by
    rw [dcR]
    by_cases hm : k ∈ r
    · rw [if_pos hm]
      have hx' : x ∈ r := (List.mem_cons.mp hx).elim (fun e => e ▸ hm) id
      have hy' : y ∈ r := (List.mem_cons.mp hy).elim (fun e => e ▸ hm) id
      exact dcR_two hx' hy' n
    · rw [if_neg hm]
      have : 1 ≤ dcR r := by
        rcases List.mem_cons.mp hx with rfl | hx
        · rcases List.mem_cons.mp hy with e | hy
          · exact absurd e.symm n
          · exact dcR_pos hy
        · exact dcR_pos hx
      omega
theorem oneCol_not {hs : List (Int × Int)} {p q : Int × Int} (hp : p ∈ hs) (hq : q ∈ hs) (n : p.1 % 2 ≠ q.1 % 2) : oneCol hs = false := by
  have := dcR_two (l := (hs.map fun p => p.1 % 2).reverse) (List.mem_reverse.mpr (List.mem_map.mpr ⟨p, hp, rfl⟩)) (List.mem_reverse.mpr (List.mem_map.mpr ⟨q, hq, rfl⟩)) n
  unfold oneCol
  exact decide_eq_false (by omega)
def spColourX (C : Addr) : Sp := fun vs H Q E => ∃ (r : Addr) (v : V) (hs : List (Int × Int)), vs = [v] ∧ Hs r H v hs ∧ hs.length ≤ 120 ∧ (oneCol hs = true → ∀ H', Same H H' → Q .non H') ∧ (oneCol hs = false → Outs E C "colour" H)
def hsOf (d : PyData) : List (Int × Int) := match itemsD d with
  | some xs => xs.map pairD
  | none => []
theorem prs_of {r : Addr} {H : Hp} : ∀ {xs : List V} {ds : List PyData}, DrAll r H xs ds → ds.all heapD = true → Paired (PrA r H) xs (ds.map pairD)
  | _, _, .nil, _ => .nil
  | _, _, .cons (d := d) h t, a => by
    rw [List.all_cons, Bool.and_eq_true] at a
    obtain ⟨x, y, e⟩ := heapD_ints a.1
    rw [List.map_cons, pairD_of e]
    exact .cons (h.prA e) (prs_of t a.2)
/-- what are_heaps holds of heaps -/
structure OkH (hs : List (Int × Int)) : Prop where
  few : hs.length ≤ 60
  ok : ∀ p ∈ hs, okHeap p = true
  nd : (hs.map (·.1)).Nodup
theorem Dr.hsOf {r : Addr} {H : Hp} {v : V} {d : PyData} (h : Dr r H v d) (hh : heapsD d = true) : Hs r H v (Nd.hsOf d) ∧ OkH (Nd.hsOf d) := by
  unfold heapsD at hh
  unfold Nd.hsOf
  cases e : itemsD d with
  | none =>
    rw [e] at hh
    cases hh
  | some ds =>
    rw [e] at hh
    simp only [Bool.and_eq_true, decide_eq_true_eq] at hh
    obtain ⟨h60, hall, hnd⟩ := hh
    obtain ⟨a, xs, rfl, na, ea, hp⟩ := h.items e
    refine ⟨⟨⟨a, xs, rfl, na, ea, prs_of hp hall⟩⟩, by rw [List.length_map]; exact h60, fun p hp => ?_, by rw [List.map_map]; exact hnd⟩
    obtain ⟨d', h1, rfl⟩ := List.mem_map.mp hp
    have := List.all_eq_true.mp hall d' h1
    rw [heapD, Bool.and_eq_true] at this
    exact this.2
theorem Hs.both {r : Addr} {H : Hp} {v w : V} {hs ks : List (Int × Int)} (h : Hs r H v hs) (k : Hs r H w ks) : ∃ a b xs ys, v = .ref a ∧ w = .ref b ∧ (H a = some (.lst xs) ∨ TupQ H a xs) ∧ (H b = some (.lst ys) ∨ TupQ H b ys) ∧ Paired (PrA r H) (xs ++ ys) (hs ++ ks) := by
  obtain ⟨a, xs, e1, _, ea, p⟩ := h.ex
  obtain ⟨b, ys, e2, _, eb, q⟩ := k.ex
  exact ⟨a, b, xs, ys, e1, e2, ea, eb, pairs_app p q⟩
theorem spots_ex {f : Int → Int} {ks : List Int} (hn : ks.Nodup) (hm : ∀ k, k ∈ ks ↔ f k ≠ 0) : ∃ ys, Spots f ys ∧ ys.Perm ks := by
  have p := List.mergeSort_perm ks (fun a b : Int => decide (a ≤ b))
  refine ⟨ks.mergeSort fun a b : Int => decide (a ≤ b), ⟨strict_of p ?_ hn, fun k => p.mem_iff.trans (hm k)⟩, p⟩
  have := List.pairwise_mergeSort (le := fun a b : Int => decide (a ≤ b)) (fun a b c h1 h2 => by simp only [decide_eq_true_eq] at h1 h2 ⊢; omega) (fun a b => by simp only [Bool.or_eq_true, decide_eq_true_eq]; omega) ks
  exact this.imp fun h => by simpa using h
def k60 : V := .int (10 ^ 60)
def spJoinX (CH CM CT : Addr) : Sp := fun vs H Q E => ∃ (r : Addr) (v w : V) (d e : PyData), vs = [v, w] ∧ (∃ u, H r = some u) ∧ Dr r H v d ∧ Dr r H w e ∧ lenOk2 d ∧ lenOk2 e ∧
  (heapsD d = false → Outs E CH "one" H) ∧ (heapsD d = true → heapsD e = false → Outs E CH "other" H) ∧
  (heapsD d = true → heapsD e = true → (oneCol (hsOf d ++ hsOf e) = false → Outs E CM "colour" H) ∧
    (oneCol (hsOf d ++ hsOf e) = true → ∀ ys, Spots (Nd.cnt (hsOf d ++ hsOf e) 0) ys →
      (60 < ys.length → OutsF E CT [("most", .int 60), ("what", .str "heaps")] H) ∧
      (ys.length ≤ 60 → (∃ k ∈ ys, 10 ^ 60 < Nd.cnt (hsOf d ++ hsOf e) 0 k) → OutsF E CT [("most", k60), ("what", .str "chips")] H) ∧
      (ys.length ≤ 60 → (∀ k ∈ ys, Nd.cnt (hsOf d ++ hsOf e) 0 k ≤ 10 ^ 60) → ∀ H' a ts, Same H H' → H a = none → H' a = some (.tup (ts.map V.ref)) → Paired (PrI H H') ts (ys.map fun k => (k, Nd.cnt (hsOf d ++ hsOf e) 0 k)) → Q (.ref a) H')))
theorem k_star {K : PySem.W.Frag} {te : TE} {t : TA} {σ : L2.St} {H : Hp} {Q : List V → Hp → Prop} (h : te σ H fun x H1 => ∃ p xs, x = V.ref p ∧ (SqT K H1 p xs ∨ SqL K H1 p xs) ∧ t σ H1 fun ys H2 => Q (xs ++ ys) H2) : StX.tStar K te t σ H Q := h
theorem sqTL {K : PySem.W.Frag} {H : Hp} {a : Addr} {xs : List V} (h : H a = some (.lst xs) ∨ TupQ H a xs) : SqT K H a xs ∨ SqL K H a xs := h.elim (fun e => .inr (.inl (.inl e))) fun e => .inl e.sq
/-- over ints: a new pair each -/
theorem lcIn_ksT {K : PySem.W.Frag} {a : Addr} {ks : List Int} {j : Nat} {te : TE} {vs : List Nat} {σ : L2.St} {H1 : Hp} {Q : VK} (f : Int → Int) (hx : H1 a = some (.lst (ks.map V.int))) (hz : ks.length ≤ 50000)
    (hw : ∀ x, wipe ((wipe σ vs).set j (some x)) vs = wipe σ vs)
    (step : ∀ (k : Int) (H2 : Hp), k ∈ ks → Same H1 H2 → ∀ QE : VK, (∀ H4 b, Same H2 H4 → H2 b = none → H4 b = some (.tup [.int k, .int (f k)]) → QE (.ref b) H4) → te ((wipe σ vs).set j (some (.int k))) H2 QE)
    (fin : ∀ (p : Addr) (H' : Hp) (ts : List Addr), H1 p = none → Same H1 H' → H' p = some (.lst (ts.map V.ref)) → Paired (PrI H1 H') ts (ks.map fun k => (k, f k)) → Q (.ref p) H') :
    LcIn (Itl K a) (gName j) tYes te vs σ H1 Q := fun D hD =>
  lc_it walk_list (fun m H => Same H1 H ∧ ∃ ts : List Addr, H D = some (.lst (ts.map V.ref)) ∧ Paired (PrI H1 H) ts ((ks.take m).map fun k => (k, f k))) ⟨Same.new hD, [], upd_same, .nil⟩ (fun m H _ p => .inl (.inl (p.1 _ _ hx)))
    (fun m x H H' hm p y => by
      obtain ⟨rfl, hx⟩ := y
      obtain ⟨s1, ts, eD, hp⟩ := p
      rw [List.getElem?_map] at hx
      obtain ⟨k, hk, rfl⟩ := Option.map_eq_some_iff.mp hx
      refine k_gname ?_
      refine ⟨hw _, k_tYes ?_⟩
      rw [if_pos rfl]
      refine step k _ (List.mem_of_getElem? hk) s1 _ fun H4 b s4 nb eb => ?_
      have eD4 := s4 _ _ eD
      refine ⟨_, eD4, ?_, fun c o e => ?_, ts ++ [b], ?_, ?_⟩
      · rw [List.length_map, pairs_len hp, List.length_map, List.length_take]
        rw [List.length_map] at hm
        exact Nat.lt_of_le_of_lt (Nat.min_le_left _ _) (Nat.lt_of_lt_of_le hm (Nat.le_trans hz (by decide)))
      · rw [upd_ne (ne_of_none e hD)]
        exact s4 _ _ (s1 _ _ e)
      · rw [upd_same, List.map_append]
        rfl
      · have ne : ∀ {c : Addr} {zs : List V}, H4 c = some (.tup zs) → c ≠ D := fun e z => by
          rw [z, eD4] at e
          cases e
        rw [List.take_succ, hk, List.map_append]
        exact Paired.snoc (pairs_mono (fun _ _ h => ⟨h.1, (upd_ne (ne (s4 _ _ h.2))).trans (s4 _ _ h.2)⟩) hp) ⟨s1.free nb, (upd_ne (ne eb)).trans eb⟩)
    (fun H' p => by
      obtain ⟨s1, ts, eD, hp⟩ := p
      rw [List.length_map, List.take_length] at hp
      exact fin D H' ts hD s1 eD hp)
/-- over a dict's keys, ints: a truth each -/
theorem lcIn_keysB {d : Addr} {od : Obj} {kvs : List (Key × V)} {ks : List Int} {j : Nat} {te : TE} {vs : List Nat} {σ : L2.St} {H1 : Hp} {Q : VK} (f : Int → Bool) (hx : H1 d = some (.frz od (.dK kvs))) (hk : kvs.map (·.1) = ks.map Sum.inl) (hz : ks.length ≤ 50000)
    (hw : ∀ x, wipe ((wipe σ vs).set j (some x)) vs = wipe σ vs)
    (step : ∀ (k : Int) (H2 : Hp), k ∈ ks → Same H1 H2 → ∀ QE : VK, (∀ H4, Same H2 H4 → QE (.bl (f k)) H4) → te ((wipe σ vs).set j (some (.int k))) H2 QE)
    (fin : ∀ (p : Addr) (H' : Hp), H1 p = none → Same H1 H' → H' p = some (.lst ((ks.map f).map V.bl)) → Q (.ref p) H') :
    LcIn (Itk d od kvs) (gName j) tYes te vs σ H1 Q := fun D hD =>
  have hl : kvs.length = ks.length := by
    have := congrArg List.length hk
    rwa [List.length_map, List.length_map] at this
  lc_it walk_keys (fun m H => Same H1 H ∧ H D = some (.lst (((ks.take m).map f).map V.bl))) ⟨Same.new hD, upd_same⟩ (fun m H _ p => p.1 _ _ hx)
    (fun m x H H' hm p y => by
      obtain ⟨rfl, k0, v0, hkv, rfl⟩ := y
      obtain ⟨s1, eD⟩ := p
      have e1 : (kvs.map (·.1))[m]? = some k0 := by rw [List.getElem?_map, hkv]; rfl
      rw [hk, List.getElem?_map] at e1
      obtain ⟨k, hk, rfl⟩ := Option.map_eq_some_iff.mp e1
      refine k_gname ?_
      refine ⟨hw _, k_tYes ?_⟩
      rw [if_pos rfl]
      refine step k _ (List.mem_of_getElem? hk) s1 _ fun H4 s4 => ?_
      refine ⟨_, s4 _ _ eD, ?_, fun b o e => ?_, ?_⟩
      · rw [List.length_map, List.length_map, List.length_take]
        exact Nat.lt_of_le_of_lt (Nat.min_le_right _ _) (Nat.lt_of_le_of_lt hz (by decide))
      · rw [upd_ne (ne_of_none e hD)]
        exact s4 _ _ (s1 _ _ e)
      · rw [upd_same, List.take_succ, hk, List.map_append, List.map_append]
        rfl)
    (fun H' p => fin D H' hD p.1 (by
      have := p.2
      rwa [hl, List.take_length] at this))
theorem k_iKeys {td : TE} {σ : L2.St} {H : Hp} {R : It → Hp → Prop} (h : td σ H fun x H1 => ∃ d o, x = .ref d ∧ ((∃ kvs, H1 d = some (.frz o (.dK kvs)) ∧ R (Itk d o kvs) H1) ∨ ∃ kvs, H1 d = some (.frz o (.dT kvs)) ∧ R (Itkt d o kvs) H1)) : iKeys td σ H R := h
end Nd

namespace Nd
open PySem PySem.Spec PyProof.Rows L2
section
variable {P : Program} {w : World} {A : Around} {E : Value → Shared → Prop} {s : Shared}
/-! ### set(xs) of a list of ints; sorted(of a set of ints), any number (the library has a tuple's set, and fewer than 64) -/
abbrev set0 (w : World) : Obj := { cls := .type "set", dict := none, data := .set #[] 0 (.fresh 0 0 (!w.params.followText "set-order")) }
theorem set_of_list {l : Addr} {items : Array Value} (ns : List Int) {Q : Value → Shared → Prop} (hh : A.handled = none) (hl : s.heap.IsList l items) (hit : IntsAre items.toList ns) (hb : ns.length + 1 < scanBound)
    (h : ∀ (h' : Heap) (tk c : Nat), SetR w h' s.heap.objs.size (fun j => decide (j ∈ ns)) c → c ≤ ns.length → (∀ b o, s.heap.get? b = some o → h'.get? b = some o) → Q (.ref s.heap.objs.size) { s with heap := h', toks := tk }) :
    wpAny (model P w) A (call (.type "set") [.ref l]) Q E s := by
  have hisz : items.size = ns.length := by rw [← Array.length_toList]; exact IntsAre.length hit
  obtain ⟨c, tl, hmro⟩ := F.called_set.mro
  have hmade := F.called_set.made
  have hsub := F.called_set.sub
  refine wpAny_call (codeAny_of_tree ?_)
  show wpAny _ _ (callAny (.type "set") _) _ _ _
  refine wpAny_pure ⟨Code.quiet_builtin _ (by decide +kernel), codeAny_builtin F.entry_type_call ?_⟩
  rw [Around.under_plain (weight_type_call_type "set" [.ref l] []) rfl]
  have h1 := F.called_set.notType
  have h2 := F.called_set.canCreate
  have hct := F.typeCall_set_1 (.ref l)
  repeat (any_goals (first | assumption | wp_step))

  refine codeAny_mono (code_set_led1 (.ref l) (E := E) (Q₁ := fun obj s₁ => obj = .ref s.heap.objs.size ∧ s₁ = { s with heap := s.heap.push (set0 w) }) ⟨rfl, rfl⟩) fun r s₁ hr => ?_
  cases r with
  | error e => exact hr
  | ok fl =>
    cases fl with
    | ret obj =>
      obtain ⟨rfl, rfl⟩ := hr
      have hS : (s.heap.push (set0 w)).get? s.heap.objs.size = some (set0 w) := Heap.get?_push_size _ rfl
      have hT : Shared.TypeIs { s with heap := s.heap.push (set0 w) } (.ref s.heap.objs.size) "set" := ⟨_, hS, rfl⟩
      have hli := F.called_set.init.lookup
      have hbi := F.called_set.init.bind (.ref s.heap.objs.size)
      repeat (any_goals (first | assumption | wp_step))

      refine codeAny_mono (codeAny_call_builtin (R := wants (fun r s₂ => r = .none ∧ ∃ h' tk c, s₂ = { s with heap := h', toks := tk } ∧ SetR w h' s.heap.objs.size (fun j => decide (j ∈ ns)) c ∧ c ≤ ns.length ∧
          (∀ b o, s.heap.get? b = some o → h'.get? b = some o)) E) F.called_set.init.plain F.entry_set_init (check_set_init_1 hT ?_)) fun r₂ s₂ hr₂ => ?_
      · obtain ⟨⟨ocls, odict, odata, oslots⟩, hol, hcl, nl, hdl⟩ := hl
        simp only at hcl hdl
        subst hcl; subst hdl
        have hol' : (s.heap.push (set0 w)).get? l = some { cls := .type "list", dict := odict, data := .seq items nl, slots := oslots } := Heap.get?_push_of_some _ hol
        have hsls := F.sub_list_set
        have hslf := F.sub_list_frozenset
        have hne : (Value.type "list" == Value.type "dict") = false := by decide
        have hl1 : (s.heap.push (set0 w)).IsList l items := ⟨_, hol', rfl, nl, rfl⟩
        unfold Builtin.«set.__init__» noKeywords Builtin.Frozenset.updateFrom
        generalize hPI : pyIter = PI
        wp_walk
        subst hPI

        refine wpAny_pyIter_list hl1 ?_
        refine wpAny_bind (wpAny_runValue ?_)
        have hlS : l < s.heap.objs.size := Heap.lt_size hol
        have hh3 : A.in1.in1.in1.handled = none := by simp [hh]
        have hz : (s.heap.push (set0 w)).objs.size = s.heap.objs.size + 1 := Heap.size_push ..
        refine set_update_ints ((Walks.list hh3 _ l (by rw [hz]; exact Nat.ne_of_lt (Nat.lt_succ_of_lt hlS)) items).toS) s.heap.objs.size
          (by rw [hz]; simp only [List.mem_cons, List.not_mem_nil, or_false, not_or]; exact ⟨Nat.ne_of_lt (Nat.lt_succ_self _), Nat.ne_of_gt hlS⟩) ns hisz hb (fun i v hv => ?hv) (items.size - 0) 0 _ (by omega) (Nat.zero_le _)
          ⟨⟨_, Heap.get?_push_size _ rfl, rfl, rfl⟩, (hl1.push _)⟩ ⟨0, Nat.le_refl 0, setR_new_at (Heap.get?_push_of_some _ hS)⟩ ?hR
        case hv =>
          have hi : i < ns.length := by rw [← hisz]; exact (Array.getElem?_eq_some_iff.mp hv).1
          obtain ⟨t, e⟩ := PyProof.Rows.IntsAre.int_at hit i v (by rw [Array.getElem?_toList]; exact hv)
          refine ⟨ns[i], t, List.getElem?_eq_getElem hi, ?_⟩
          rw [e, List.getD_eq_getElem?_getD, List.getElem?_eq_getElem hi] <;> rfl
        case hR =>
          intro s' c' hm hc' hS'
          obtain ⟨h', g2, d', tk', os'⟩ := s'
          have eg : g2 = s.gens := hm.gens
          have ed : d' = s.drawn := hm.drawn
          have eo : os' = s.os := hm.os
          subst eg; subst ed; subst eo
          show wpAny _ _ _ _ _ _
          refine wpAny_pure ?_
          show wpAny _ _ (ret Value.none) _ _ _
          rw [hisz] at hc'
          refine wpAny_pure ⟨rfl, h', tk', c', rfl, hS', hc', fun b o e => ?_⟩
          have hb0 : b < s.heap.objs.size := Heap.lt_size e
          exact hm.heap b o (by rw [hz]; simp only [List.mem_cons, List.not_mem_nil, or_false, not_or]; exact ⟨Nat.ne_of_lt hb0, Nat.ne_of_lt (Nat.lt_succ_of_lt hb0)⟩) (Heap.get?_push_of_some _ (Heap.get?_push_of_some _ e))
      · cases r₂ with
        | error e => exact hr₂
        | ok fl₂ =>
          cases fl₂ with
          | ret r =>
            obtain ⟨rfl, h', tk, c', rfl, hS', hc', hk'⟩ := hr₂
            repeat (any_goals (first | assumption | wp_step))
            exact h _ _ _ hS' hc' hk'
          | _ => exact hr₂.elim
    | _ => exact hr.elim
theorem sorted_setN {a : Addr} {S : Int → Bool} {n : Nat} {Q : Value → Shared → Prop} (R : SetR w s.heap a S n) (hh : A.handled = none)
    (hQ : ∀ s' p (out : Array Value) (c : Nat) (ns : List Int), (∀ b o, s.heap.get? b = some o → s'.heap.get? b = some o) → s'.gens = s.gens → s'.os = s.os → s.heap.objs.size ≤ p →
      s'.heap.get? p = some (seqObj "list" out c) → IntsAre out.toList ns → ns.Pairwise (· < ·) → (∀ k, k ∈ ns ↔ S k = true) → ns.length = n → ns.length ≤ sizeLine → Q (.ref p) s') :
    wpAny (model P w) A (call (.builtin "sorted") [.ref a]) Q E s := by
  obtain ⟨o, es, ep, t, ho, hex, hd, g, nd, hm, hb, hf, hn, hr, hl⟩ := R
  refine Calls.call_function_entry kind_sorted plain_sorted entry_sorted (args_sorted1 _) ?_
  unfold Builtin.«sorted»
  refine wpAny_bind (m := checkCount "sorted" 1 1 _) (wpAny_pure ?_)
  refine wpAny_bind (collect_set (A := A.in1) hh ⟨o, ho, hex.1, hd⟩ hf hb hr hl fun s1 vs k1 hz g1 o1 pm => ?_)
  have hvl : vs.length = n := by rw [pm.length_eq, List.length_map, Array.length_toList]; exact hn
  have hI : IntsAre vs (vs.map Builtin.Re.reRawOf) := ints_of vs fun v hv => by
    obtain ⟨e, he, q⟩ := List.mem_map.mp (pm.mem_iff.mp hv)
    obtain ⟨k, tk, h1, _⟩ := g e he
    exact ⟨k, tk, by rw [← q]; exact h1⟩
  have pk : (vs.map Builtin.Re.reRawOf).Perm (es.toList.map keyOf) := by
    have q := pm.map Builtin.Re.reRawOf
    rw [List.map_map] at q
    exact q
  have hvz : vs.length ≤ sizeLine := by
    rw [hvl, ← hn]
    exact fits_of_scanBound hb
  refine wpAny_bind (wpAny_newList ?_ hvz)
  have hoL : (s1.heap.push (seqObj "list" vs.toArray 0)).get? s1.heap.objs.size = some (seqObj "list" vs.toArray 0) := Heap.get?_push_size _ rfl
  refine wpAny_bind (wpAny_holding (wpAny_call_entry slot_list_sort ⟨_, hoL, rfl⟩ entry_list_sort
    (SrtO.list_sort_ord (s := { s1 with heap := s1.heap.push (seqObj "list" vs.toArray 0) }) SrtO.swo_int hoL hvz (fun h2 => SrtO.ints_sortable hI h2) fun out q1 q2 => ⟨_, rfl, ?_⟩) (args_list_sort _)))
  obtain ⟨a1, a2, a3⟩ := SrtO.ints_out hI q1 q2
  obtain ⟨c, hc⟩ := sortedHeap_at (vs := vs) (out := out.toArray) hoL
  have pn : (out.map SrtO.iv).Perm (es.toList.map keyOf) := a2.trans pk
  have hln : (out.map SrtO.iv).length = n := by rw [pn.length_eq, List.length_map, Array.length_toList]; exact hn
  refine wpAny_pure ⟨_, rfl, hQ _ s1.heap.objs.size out.toArray c (out.map SrtO.iv) (fun b u e => ?_) g1 o1 hz hc a1 (lt_of_le_nodup _ a3 (pn.nodup_iff.mpr nd)) (fun k => by rw [pn.mem_iff, ← hm k]) hln (by rw [hln, ← hvl]; exact hvz)⟩
  have q := k1 b u e
  have hlt := Heap.lt_size q
  show (sortedHeap (s1.heap.push (seqObj "list" vs.toArray 0)) s1.heap.objs.size vs out.toArray).get? b = some u
  rw [sortedHeap_old (Nat.ne_of_lt hlt) (by rw [size_push']; exact Nat.lt_succ_of_lt hlt)]
  exact Heap.get?_push_of_some _ q
end
section
variable {X : Cx}
def rSetI (K : PySem.W.Frag) (w : World) : List V → Hp → VK → Prop := fun vs H Q => ∃ (l : Addr) (ns : List Int), vs = [V.ref l] ∧ SqL K H l (ns.map V.int) ∧ ns.length ≤ 4000 ∧
  ∀ (p : Addr) (c : Nat), H p = none → Q (.ref p) (upd H p (SetO w p (fun j => decide (j ∈ ns)) c))
theorem cr_setI (hc : X.calm = true) : CallR X (.type "set") (rSetI X.K X.w) := by
  intro pins s σ H vs us Q I r ⟨l, ns, e, hl, hz, q⟩
  subst e
  rw [Vals.ref1 r]
  obtain ⟨its, rv, pl, _⟩ := I.list hl
  refine set_of_list ns (I.ok.hd hc) pl.isList (by simpa using ints_of_vals rv) (by have : scanBound = 4096 := rfl; omega) fun h' tk c R _ k => ?_
  exact ⟨.ref s.heap.objs.size, upd H s.heap.objs.size (SetO X.w s.heap.objs.size (fun j => decide (j ∈ ns)) c), I.laid (t' := tk) k (Nat.le_refl _) (setO_new R), rfl, q _ c (I.hok.fresh (Nat.le_refl _))⟩
def rSortedSetN (w : World) : List V → Hp → VK → Prop := fun vs H Q => ∃ (a : Addr) (S : Int → Bool) (n : Nat), vs = [V.ref a] ∧ H a = some (SetO w a S n) ∧
  ∀ (ns : List Int) (p : Addr), ns.Pairwise (· < ·) → (∀ k : Int, k ∈ ns ↔ S k = true) → ns.length = n → H p = none → Q (.ref p) (upd H p (.lst (ns.map V.int)))
theorem cr_sortedSetN (hc : X.calm = true) : CallR X (.builtin "sorted") (rSortedSetN X.w) := by
  intro pins s σ H vs us Q I r ⟨a, S, n, e, ha, q⟩
  subst e
  rw [Vals.ref1 r]
  refine sorted_setN (setO_get I ha) (I.ok.hd hc) fun s' p out c ns k g o hp hg hi hs hm hl hz => ?_
  have hn : H p = none := I.hok.fresh hp
  have J : Inv X pins σ (upd H p (.lst (ns.map V.int))) { s with heap := s'.heap, gens := s'.gens, drawn := s'.drawn, toks := s'.toks } :=
    I.call (ch := []) (Un.laid k hp hn) (I.hok.laid k hp ⟨by rw [List.length_map]; exact hz, out.toList, c, vals_of_ints hi, hg⟩) (by rw [g]; exact I.bare) (fun _ z => nomatch z)
  have e : s' = { s with heap := s'.heap, gens := s'.gens, drawn := s'.drawn, toks := s'.toks } := by
    cases s'
    cases s
    cases o
    rfl
  rw [e]
  exact ⟨.ref p, _, J, rfl, q ns p hs hm hl hn⟩
end
end Nd

namespace Nd
open PySem PySem.Spec PyProof.Rows L2 LamX
/-- over pairs with a test -/
theorem lcIn_prF {K : PySem.W.Frag} {J : It} {G : Hp → Prop} {r : Addr} {xs : List V} {hs : List (Int × Int)} {i j : Nat} {tt : TT} {te : TE} {vs : List Nat} {σ : L2.St} {H1 : Hp} {Q : VK} (W : Walk J xs.length G (YAt xs)) (c : Int × Int → Bool) (v : Int × Int → V) (hG : ∀ H', Same H1 H' → G H') (hall : Paired (PrA r H1) xs hs) (hz : xs.length ≤ 50000)
    (hw : ∀ x y, wipe (((wipe σ vs).set i (some x)).set j (some y)) vs = wipe σ vs)
    (step : ∀ (p : Int × Int) (H2 : Hp), p ∈ hs → Same H1 H2 → ∀ (QE : VK) (Z : Hp → Prop), (c p = true → ∀ H4, Same H2 H4 → QE (v p) H4) → (c p = false → ∀ H4, Same H2 H4 → Z H4) →
      tt (((wipe σ vs).set i (some (.int p.1))).set j (some (.int p.2))) H2 fun b H3 => if b = true then te (((wipe σ vs).set i (some (.int p.1))).set j (some (.int p.2))) H3 QE else Z H3)
    (fin : ∀ p H', H1 p = none → Same H1 H' → H' p = some (.lst ((hs.filter c).map v)) → Q (.ref p) H') :
    LcIn J (gAny K 2 (gCons (gName i) (gCons (gName j) gNil))) tt te vs σ H1 Q := fun D hD =>
  lc_it W (fun m H => Same H1 H ∧ H D = some (.lst (((hs.take m).filter c).map v))) ⟨Same.new hD, upd_same⟩ (fun m H _ p => hG _ p.1)
    (fun m x H H' hm p y => by
      obtain ⟨rfl, hx⟩ := y
      obtain ⟨s1, eD⟩ := p
      obtain ⟨z, hz1, f⟩ := Nd.paired_get hall hx
      refine (f.same s1).any ?_
      refine k_gcons (k_gname (k_gcons (k_gname (k_gnil ?_))))
      refine ⟨hw _ _, step z _ (List.mem_of_getElem? hz1) s1 _ _ (fun hc H4 s4 => ?_) fun hc H4 s4 => ?_⟩
      · have eD4 := s4 _ _ eD
        refine ⟨_, eD4, ?_, fun c o e => ?_, ?_⟩
        · rw [List.length_map]
          refine Nat.lt_of_le_of_lt (List.length_filter_le _ _) ?_
          rw [List.length_take]
          exact Nat.lt_of_le_of_lt (Nat.min_le_left _ _) (Nat.lt_of_lt_of_le hm (Nat.le_trans hz (by decide)))
        · rw [upd_ne (ne_of_none e hD)]
          exact s4 _ _ (s1 _ _ e)
        · rw [upd_same, List.take_succ, hz1, List.filter_append, List.map_append, Option.toList_some, List.filter_cons, if_pos hc]
          rfl
      · refine ⟨s1.trans s4, ?_⟩
        rw [s4 _ _ eD, List.take_succ, hz1, List.filter_append, Option.toList_some, List.filter_cons, if_neg (by rw [hc]; decide), List.filter_nil, List.append_nil])
    (fun H' p => by
      obtain ⟨s1, eD⟩ := p
      rw [pairs_len hall, List.take_length] at eD
      exact fin D H' hD s1 eD)
theorem cnt_filter {k : Int} : ∀ hs : List (Int × Int), ((hs.filter fun p => decide (p.1 = k)).map (·.2)).sum = Nd.cnt hs 0 k
  | [] => rfl
  | p :: hs => by
    rw [cnt_cons, W, List.filter_cons, ← cnt_filter hs]
    by_cases h : p.1 = k
    · rw [if_pos (decide_eq_true h), if_pos (by omega)]
      simp
    · rw [if_neg (by simp [h]), if_neg (by omega)]
      simp
theorem cnt_pos {k : Int} {hs : List (Int × Int)} (h : ∀ p ∈ hs, 1 ≤ p.2) : Nd.cnt hs 0 k ≠ 0 ↔ k ∈ hs.map (·.1) := by
  refine ⟨fun h => Classical.byContradiction fun z => h (cnt_zero_off z), fun m => ?_⟩
  induction hs with
  | nil => cases m
  | cons p hs ih =>
    have n := cnt_nonneg (t := 0) (s := k) fun q hq => h q (List.mem_cons_of_mem _ hq)
    have hp := h p List.mem_cons_self
    rw [cnt_cons, W]
    rw [List.map_cons, List.mem_cons] at m
    by_cases e : k = p.1
    · rw [if_pos (by omega)]
      omega
    · rw [if_neg (by omega)]
      have := ih (fun q hq => h q (List.mem_cons_of_mem _ hq)) (m.resolve_left e)
      simpa using this
theorem spots_of {ns : List Int} {hs : List (Int × Int)} (h : ∀ p ∈ hs, 1 ≤ p.2) (h1 : ns.Pairwise (· < ·)) (h2 : ∀ k, k ∈ ns ↔ decide (k ∈ hs.map (·.1)) = true) : Spots (Nd.cnt hs 0) ns :=
  ⟨h1, fun k => by rw [h2, cnt_pos h, decide_eq_true_iff]⟩
theorem spots_few {ys : List Int} {hs : List (Int × Int)} (h : Spots (Nd.cnt hs 0) ys) : ys.length ≤ hs.length := by
  have := spots_len h
  omega
theorem call_listA {X : Cx} {K : PySem.W.Frag} (e : X.K = K) : CallR X (.type "list") (rListA K) := by
  subst e
  exact call_list_of
theorem pairs_append {α β : Type} {F : α → β → Prop} : ∀ {a c : List α} {b d : List β}, Paired F a b → Paired F c d → Paired F (a ++ c) (b ++ d)
  | _, _, _, _, .nil, h => h
  | _, _, _, _, .cons x t, h => .cons x (pairs_append t h)
end Nd

namespace Nd
open PySem PySem.Spec PyProof.Rows L2 LamX
/-- what stays where a list is put in the place of a list, and where all but r stays -/
structure Stay {α : Type} (r : Addr) (F : α → V → Hp → Prop) : Prop where
  gr : ∀ {p v H H'}, F p v H → Gr r H H' → F p v H'
  put : ∀ {p v H D zs zs'}, F p v H → H D = some (.lst zs) → F p v (upd H D (.lst zs'))
/-- over pairs: what is drawn or made of each that is let -/
theorem lcIn_prG {K : PySem.W.Frag} {J : It} {G : Hp → Prop} {r : Addr} {N kd : Nat} {xs : List V} {hs : List (Int × Int)} {i j : Nat} {tt : TT} {te : TE} {vs : List Nat} {σ : L2.St} {H1 : Hp} {Q : VK} (W : Walk J xs.length G (YAt xs)) {F : Int × Int → V → Hp → Prop} (SF : Stay r F) (c : Int × Int → Bool) (R : Rid r N H1) (hG : ∀ H', Gr r H1 H' → G H') (hall : Paired (PrA r H1) xs hs) (hz : xs.length ≤ 50000)
    (hw : ∀ x y, wipe (((wipe σ vs).set i (some x)).set j (some y)) vs = wipe σ vs)
    (step : ∀ (m : Nat) (p : Int × Int) (H2 : Hp), hs[m]? = some p → Gr r H1 H2 → Rid r (N + kd * m) H2 → ∀ (QE : VK) (Z : Hp → Prop), (c p = true → ∀ H4 y, Gr r H2 H4 → Rid r (N + kd * (m + 1)) H4 → F p y H4 → QE y H4) → (c p = false → ∀ H4, Same H2 H4 → Z H4) →
      tt (((wipe σ vs).set i (some (.int p.1))).set j (some (.int p.2))) H2 fun b H3 => if b = true then te (((wipe σ vs).set i (some (.int p.1))).set j (some (.int p.2))) H3 QE else Z H3)
    (fin : ∀ p H' ys, H1 p = none → Gr r H1 H' → Rid r (N + kd * hs.length) H' → H' p = some (.lst ys) → Paired (fun v q => F q v H') ys (hs.filter c) → Q (.ref p) H') :
    LcIn J (gAny K 2 (gCons (gName i) (gCons (gName j) gNil))) tt te vs σ H1 Q := fun D hD =>
  have nD := R.ne hD
  have eR : ∃ u, H1 r = some u := by
    obtain ⟨c, ns, a, z, h1, h2, _⟩ := R.ex
    exact ⟨_, h2⟩
  lc_it W (fun m H => Gr r H1 H ∧ Rid r (N + kd * m) H ∧ ∃ ys : List V, H D = some (.lst ys) ∧ Paired (fun v q => F q v H) ys ((hs.take m).filter c)) ⟨Gr.new hD, R.new hD, [], upd_same, .nil⟩ (fun m H _ p => hG _ p.1)
    (fun m x H H' hm p y => by
      obtain ⟨rfl, hx⟩ := y
      obtain ⟨g1, Rm, ys, eD, hp⟩ := p
      obtain ⟨z, hz1, f⟩ := Nd.paired_get hall hx
      refine (f.gr g1).any ?_
      refine k_gcons (k_gname (k_gcons (k_gname (k_gnil ?_))))
      refine ⟨hw _ _, step m z _ hz1 g1 Rm _ _ (fun hc H4 y g4 R4 hy => ?_) fun hc H4 s4 => ?_⟩
      · have eD4 := g4.all _ _ nD eD
        have gz := g1.trans g4
        refine ⟨_, eD4, ?_, grPutNew gz hD eR, (ridN_of R gz R4 hD).put.rid, ys ++ [y], upd_same, ?_⟩
        · rw [pairs_len hp]
          refine Nat.lt_of_le_of_lt (List.length_filter_le _ _) ?_
          rw [List.length_take]
          exact Nat.lt_of_le_of_lt (Nat.min_le_left _ _) (Nat.lt_of_lt_of_le hm (Nat.le_trans hz (by decide)))
        · rw [List.take_succ, hz1, List.filter_append, Option.toList_some, List.filter_cons, if_pos hc]
          exact Paired.snoc (pairs_mono (fun _ _ h => SF.put (SF.gr h g4) eD4) hp) (SF.put hy eD4)
      · refine ⟨g1.trans (Gr.same s4), (Rm.same s4).mono (by rw [Nat.mul_succ]; omega), ys, s4 _ _ eD, ?_⟩
        rw [List.take_succ, hz1, List.filter_append, Option.toList_some, List.filter_cons, if_neg (by rw [hc]; decide), List.filter_nil, List.append_nil]
        exact pairs_mono (fun _ _ h => SF.gr h (Gr.same s4)) hp)
    (fun H' p => by
      obtain ⟨g1, Rm, ys, eD, hp⟩ := p
      have e := pairs_len hall
      rw [e, List.take_length] at hp
      rw [e] at Rm
      exact fin D H' ys hD g1 Rm eD hp)
/-- over a range -/
theorem lcIn_rgG {r : Addr} {N kd n j : Nat} {lo : Int} {te : TE} {vs : List Nat} {σ : L2.St} {H1 : Hp} {Q : VK} {F : Nat → V → Hp → Prop} (SF : Stay r F) (R : Rid r N H1) (hn : n ≤ 50000)
    (hw : ∀ x, wipe ((wipe σ vs).set j (some x)) vs = wipe σ vs)
    (step : ∀ (m : Nat) (H2 : Hp), m < n → Gr r H1 H2 → Rid r (N + kd * m) H2 → ∀ QE : VK, (∀ H4 y, Gr r H2 H4 → Rid r (N + kd * (m + 1)) H4 → F m y H4 → QE y H4) → te ((wipe σ vs).set j (some (.int (lo + (m : Int))))) H2 QE)
    (fin : ∀ p H' ys, H1 p = none → Gr r H1 H' → Rid r (N + kd * n) H' → H' p = some (.lst ys) → Paired (fun v q => F q v H') ys (List.range n) → Q (.ref p) H') :
    LcIn (Itr lo n) (gName j) tYes te vs σ H1 Q := fun D hD =>
  have nD := R.ne hD
  have eR : ∃ u, H1 r = some u := by
    obtain ⟨c, ns, a, z, h1, h2, _⟩ := R.ex
    exact ⟨_, h2⟩
  lc_it (walk_range (lo := lo) (n := n)) (fun m H => Gr r H1 H ∧ Rid r (N + kd * m) H ∧ ∃ ys : List V, H D = some (.lst ys) ∧ Paired (fun v q => F q v H) ys (List.range m)) ⟨Gr.new hD, R.new hD, [], upd_same, .nil⟩ (fun _ _ _ _ => trivial)
    (fun m x H H' hm p y => by
      obtain ⟨rfl, rfl⟩ := y
      obtain ⟨g1, Rm, ys, eD, hp⟩ := p
      refine k_gname ?_
      refine ⟨hw _, k_tYes ?_⟩
      rw [if_pos rfl]
      refine step m _ hm g1 Rm _ fun H4 y g4 R4 hy => ?_
      have eD4 := g4.all _ _ nD eD
      have gz := g1.trans g4
      refine ⟨_, eD4, ?_, grPutNew gz hD eR, (ridN_of R gz R4 hD).put.rid, ys ++ [y], upd_same, ?_⟩
      · rw [pairs_len hp, List.length_range]
        exact Nat.lt_of_lt_of_le hm (Nat.le_trans hn (by decide))
      · rw [List.range_succ]
        exact Paired.snoc (pairs_mono (fun _ _ h => SF.put (SF.gr h g4) eD4) hp) (SF.put hy eD4))
    (fun H' p => by
      obtain ⟨g1, Rm, ys, eD, hp⟩ := p
      exact fin D H' ys hD g1 Rm eD hp)
/-- a tuple of two ints -/
def PrT (r : Addr) (p : Int × Int) (v : V) (H : Hp) : Prop := ∃ a, v = .ref a ∧ a ≠ r ∧ H a = some (.tup [.int p.1, .int p.2])
theorem PrT.prA {r : Addr} {p : Int × Int} {v : V} {H : Hp} (h : PrT r p v H) : PrA r H v p := by
  obtain ⟨a, e, n, h⟩ := h
  exact ⟨a, e, n, .inl h⟩
theorem PrT.stay {r : Addr} : Stay r (PrT r) := ⟨fun ⟨a, e, n, h⟩ g => ⟨a, e, n, g.all _ _ n h⟩, fun ⟨a, e, n, h⟩ hD => ⟨a, e, n, (upd_ne fun z => by rw [z, hD] at h; cases h).trans h⟩⟩
theorem Stay.comap {α β : Type} {r : Addr} {F : α → V → Hp → Prop} (S : Stay r F) (f : β → α) : Stay r (fun b => F (f b)) := ⟨fun h g => S.gr h g, fun h e => S.put h e⟩
theorem Stay.ex {α β : Type} {r : Addr} {F : α → V → Hp → Prop} (S : Stay r F) (P : β → α → Prop) : Stay r (fun b v H => ∃ a, P b a ∧ F a v H) := ⟨fun ⟨a, p, h⟩ g => ⟨a, p, S.gr h g⟩, fun ⟨a, p, h⟩ e => ⟨a, p, S.put h e⟩⟩
theorem pairs_exR {α β γ : Type} {F : α → γ → Prop} {P : β → γ → Prop} : ∀ {l : List α} {m : List β}, Paired (fun a b => ∃ c, P b c ∧ F a c) l m → ∃ cs, Paired F l cs ∧ Paired P m cs
  | _, _, .nil => ⟨[], .nil, .nil⟩
  | _, _, .cons ⟨c, p, f⟩ t => by
    obtain ⟨cs, h1, h2⟩ := pairs_exR t
    exact ⟨c :: cs, .cons f h1, .cons p h2⟩
/-! ### != of any list with an empty one; != and == of scalars or data -/
def rNeNil (K : PySem.W.Frag) : R2 := fun x y H Q => ∃ a b xs, x = .ref a ∧ y = .ref b ∧ SqL K H a xs ∧ SqL K H b [] ∧ Q (.bl (!xs.isEmpty)) H
theorem op_neNil {X : Cx} (hu : X.A.units + 64 < cLine) : OpR X (compareOp .NotEq) (rNeNil X.K) := by
  intro pins s σ H x y v u Q I rx ry h
  obtain ⟨a, b, xs, rfl, rfl, ha, hb, q⟩ := h
  cases xs with
  | nil => exact op_neD hu pins s σ H _ _ v u Q I rx ry ⟨_, _, .lst ha .nil, .lst hb .nil, shNil, shNil, by simpa [PyData.eqv, PyData.eqvAll] using q⟩
  | cons z zs =>
    cases rx
    cases ry
    obtain ⟨i1, r1, l1, _⟩ := I.list ha
    obtain ⟨i2, r2, l2, _⟩ := I.list hb
    cases r2
    cases r1
    exact SeqAt.RcNeAt.lists_lengths l1.isList l2.isList (by simp) (by omega) _ _ _ _ ⟨.bl true, H, I, rfl, q⟩
theorem k_neNil {K : PySem.W.Frag} {a b : Addr} {xs : List V} {H : Hp} {Q : VK} (ha : SqL K H a xs) (hb : SqL K H b []) (q : Q (.bl (!xs.isEmpty)) H) : rNeNil K (.ref a) (.ref b) H Q := ⟨a, b, xs, rfl, rfl, ha, hb, q⟩
def rOr (r1 r2 : R2) : R2 := fun x y H Q => r1 x y H Q ∨ r2 x y H Q
theorem op_orR {X : Cx} {op : Value → Value → Sem Value} {r1 r2 : R2} (h1 : OpR X op r1) (h2 : OpR X op r2) : OpR X op (rOr r1 r2) := by
  intro pins s σ H x y v u Q I rx ry h
  exact h.elim (h1 pins s σ H x y v u Q I rx ry) (h2 pins s σ H x y v u Q I rx ry)
theorem op_ne2 {X : Cx} (hu : X.A.units + 64 < cLine) : OpR X (compareOp .NotEq) (rOr rNe (rNeD X.K)) := op_orR op_ne (op_neD hu)
theorem op_eq2 {X : Cx} (hu : X.A.units + 64 < cLine) : OpR X (compareOp .Eq) (rOr rEq (rEqD X.K)) := op_orR op_eq (op_eqD hu)
/-! ### lengths of what is written out -/
def lenB (d : PyData) : Bool := match itemsD d with
  | some xs => decide (xs.length ≤ 1000)
  | none => true
def lenB2 (d : PyData) : Bool := lenB d && match itemsD d with
  | some xs => xs.all lenB
  | none => true
theorem lenOk_by {d : PyData} (h : lenB d = true) : lenOk d := fun xs e => by
  unfold lenB at h
  rw [e] at h
  exact of_decide_eq_true h
theorem lenOk2_by {d : PyData} (h : lenB2 d = true) : lenOk2 d := by
  unfold lenB2 at h
  rw [Bool.and_eq_true] at h
  refine ⟨lenOk_by h.1, fun xs e x hx => lenOk_by ?_⟩
  have h2 := h.2
  rw [e] at h2
  exact List.all_eq_true.mp h2 x hx
theorem drAll_prT {α : Type} {r : Addr} {H : Hp} {f : α → Int × Int} : ∀ {ys : List V} {l : List α}, Paired (fun v q => PrT r (f q) v H) ys l → DrAll r H ys (l.map fun q => .tuple [.int (f q).1, .int (f q).2])
  | _, _, .nil => .nil
  | _, _, .cons ⟨a, e, n, h⟩ t => e ▸ .cons (.tup n h (.cons (.int _) (.cons (.int _) .nil))) (drAll_prT t)
end Nd

namespace Nd
open PySem PySem.Spec PyProof.Rows L2 LamX
theorem PrA.ext {r : Addr} {H H' : Hp} {v : V} {p : Int × Int} (h : PrA r H v p) (x : ExtN H H') : PrA r H' v p := by
  obtain ⟨a, e, n, h⟩ := h
  exact ⟨a, e, n, h.imp (fun e => e.toT fun u eu nl => x _ u eu nl) fun e => x _ _ e fun _ z => nomatch z⟩
theorem Hs.ext {r : Addr} {H H' : Hp} {v : V} {hs : List (Int × Int)} (h : Hs r H v hs) (x : ExtN H H') : Hs r H' v hs := by
  obtain ⟨a, xs, e, n, ea, hp⟩ := h.ex
  exact ⟨a, xs, e, n, ea.imp (fun e => x _ _ e fun _ z => nomatch z) (fun e => e.toT fun u eu nl => x _ u eu nl), pairs_mono (fun _ _ h => PrA.ext h x) hp⟩
theorem PrI.ext {H0 H H' : Hp} {t : Addr} {p : Int × Int} (h : PrI H0 H t p) (x : ExtN H H') : PrI H0 H' t p := ⟨h.1, x _ _ h.2 fun _ z => nomatch z⟩
theorem PrI.same' {H0 H H' : Hp} {t : Addr} {p : Int × Int} (h : PrI H0 H t p) (x : Same H H') : PrI H0 H' t p := ⟨h.1, x _ _ h.2⟩
/-- heaps as data, with what is wanted of their text -/
theorem txw_hpD {d : PyData} {p : Int × Int} (h : hpD d p) (o : okHeap p = true) : TxW 310 d := by
  obtain ⟨b1, b2, b3, b4⟩ := okHeap_of o
  have t := txw_pD (p := p) (by omega) (by omega)
  unfold hpD at h
  cases d with
  | list xs =>
    cases h
    obtain ⟨t1, t2, t3, t4⟩ := t
    exact ⟨by simpa [pD, PyData.showable] using t1, by simpa [pD, PyData.depth] using t2, by simpa [pD, PyData.leavesShort] using t3, by simp [pD, PyData.weight] at t4 ⊢; omega⟩
  | tuple xs =>
    cases h
    exact t.le (by decide)
  | _ => cases h
theorem hpDs_pairs : ∀ {ds : List PyData} {hs : List (Int × Int)}, Paired hpD ds hs → ds.map pairD = hs
  | _, _, .nil => rfl
  | _, _, .cons h t => by rw [List.map_cons, hpDs_pairs t, pairD_of h]
theorem txw_hpDs : ∀ {ds : List PyData} {hs : List (Int × Int)}, Paired hpD ds hs → (∀ p ∈ hs, okHeap p = true) → ∀ d ∈ ds, TxW 310 d
  | _, _, .cons h t, o, d, hd => by
    rcases List.mem_cons.mp hd with rfl | hd
    · exact txw_hpD h (o _ List.mem_cons_self)
    · exact txw_hpDs t (fun p hp => o p (List.mem_cons_of_mem _ hp)) d hd
theorem Hs.drOf {r : Addr} {H : Hp} {v : V} {hs : List (Int × Int)} (h : Hs r H v hs) (o : OkH hs) : ∃ d, Dr r H v d ∧ lenOk2 d ∧ heapsD d = true ∧ hsOf d = hs ∧ TxW 19300 d ∧ d.hasDict = false := by
  obtain ⟨a, xs, rfl, n, e, hp⟩ := h.ex
  obtain ⟨ds, h1, h2⟩ := prAs_dr hp
  obtain ⟨a1, a2⟩ := hpDs_all h2 o.ok
  have hl : ds.length ≤ 60 := by rw [pairs_len h2]; exact o.few
  have key : ∀ d, itemsD d = some ds → lenOk2 d ∧ heapsD d = true ∧ hsOf d = hs := fun d e => by
    refine ⟨⟨fun xs e2 => ?_, fun xs e2 x hx => ?_⟩, ?_, ?_⟩
    · rw [e] at e2
      cases e2
      omega
    · rw [e] at e2
      cases e2
      exact hpDs_len h2 x hx
    · unfold heapsD
      rw [e]
      simp only [a1, a2, Bool.true_and, Bool.and_eq_true, decide_eq_true_eq]
      exact ⟨hl, o.nd⟩
    · unfold hsOf
      rw [e]
      exact hpDs_pairs h2
  obtain ⟨b1, b2, b3, b4⟩ := txw_all (txw_hpDs h2 o.ok)
  have hdd : PyData.hasDictAll ds = false := by
    clear h1 a1 a2 hl key b1 b2 b3 b4 e hp h
    induction h2 with
    | nil => rfl
    | cons h t ih =>
      have := ih ⟨by have := o.few; rw [List.length_cons] at this; omega, fun p hp => o.ok p (List.mem_cons_of_mem _ hp), (List.nodup_cons.mp o.nd).2⟩
      unfold hpD at h
      rename_i d p ds hs
      cases d with
      | list xs => cases h; simp [PyData.hasDictAll, PyData.hasDict, this]
      | tuple xs => cases h; simp [PyData.hasDictAll, PyData.hasDict, this]
      | _ => cases h
  have wl : (310 + 10) * ds.length ≤ 19200 := Nat.le_trans (Nat.mul_le_mul_left _ hl) (by decide)
  rcases e with e | e
  · obtain ⟨k1, k2, k3⟩ := key (.list ds) rfl
    refine ⟨.list ds, .lst n e h1, k1, k2, k3, ⟨by simp [PyData.showable, b1], ?_, by simp [PyData.leavesShort, b3], by simp [PyData.weight]; omega⟩, by simp [PyData.hasDict, hdd]⟩
    have : PyData.depthAll ds ≤ 1 := by
      clear key k1 k2 k3 b1 b2 b3 b4 h1 a1 a2 hl wl e hp h hdd
      induction h2 with
      | nil => simp [PyData.depthAll]
      | cons h t ih =>
        have := ih ⟨by have := o.few; rw [List.length_cons] at this; omega, fun p hp => o.ok p (List.mem_cons_of_mem _ hp), (List.nodup_cons.mp o.nd).2⟩
        unfold hpD at h
        rename_i d p ds hs
        cases d with
        | list xs => cases h; simp [PyData.depthAll, PyData.depth]; omega
        | tuple xs => cases h; simp [PyData.depthAll, PyData.depth]; omega
        | _ => cases h
    simp [PyData.depth]
    omega
  · obtain ⟨k1, k2, k3⟩ := key (.tuple ds) rfl
    refine ⟨.tuple ds, .tup n e h1, k1, k2, k3, ⟨by simp [PyData.showable, b1], ?_, by simp [PyData.leavesShort, b3], by simp [PyData.weight]; omega⟩, by simp [PyData.hasDict, hdd]⟩
    have : PyData.depthAll ds ≤ 1 := by
      clear key k1 k2 k3 b1 b2 b3 b4 h1 a1 a2 hl wl e hp h hdd
      induction h2 with
      | nil => simp [PyData.depthAll]
      | cons h t ih =>
        have := ih ⟨by have := o.few; rw [List.length_cons] at this; omega, fun p hp => o.ok p (List.mem_cons_of_mem _ hp), (List.nodup_cons.mp o.nd).2⟩
        unfold hpD at h
        rename_i d p ds hs
        cases d with
        | list xs => cases h; simp [PyData.depthAll, PyData.depth]; omega
        | tuple xs => cases h; simp [PyData.depthAll, PyData.depth]; omega
        | _ => cases h
    simp [PyData.depth]
    omega
theorem cnt_append (t : Nat) (s : Int) : ∀ hs ks : List (Int × Int), Nd.cnt (hs ++ ks) t s = Nd.cnt hs t s + Nd.cnt ks t s
  | [], ks => by rw [List.nil_append, cnt_nil, Int.zero_add]
  | p :: hs, ks => by rw [List.cons_append, cnt_cons, cnt_cons, cnt_append t s hs ks, Int.add_assoc]
theorem cnt_comm (t : Nat) (hs ks : List (Int × Int)) : Nd.cnt (hs ++ ks) t = Nd.cnt (ks ++ hs) t := funext fun s => by rw [cnt_append, cnt_append, Int.add_comm]
/-- what joined_heaps does of right heaps -/
theorem join_in {CH CM CT r : Addr} {v w : V} {hs ks : List (Int × Int)} {ys : List Int} {H : Hp} {Q : VK} {E : XK} (hv : Hs r H v hs) (hw : Hs r H w ks) (o1 : OkH hs) (o2 : OkH ks) (eR : ∃ u, H r = some u)
    (col : ∃ c : Int, ∀ p ∈ hs ++ ks, p.1 % 2 = c) (sp : Spots (Nd.cnt (hs ++ ks) 0) ys)
    (k1 : 60 < ys.length → OutsF E CT [("most", .int 60), ("what", .str "heaps")] H) (k2 : ys.length ≤ 60 → (∃ k ∈ ys, 10 ^ 60 < Nd.cnt (hs ++ ks) 0 k) → OutsF E CT [("most", k60), ("what", .str "chips")] H)
    (k3 : ys.length ≤ 60 → (∀ k ∈ ys, Nd.cnt (hs ++ ks) 0 k ≤ 10 ^ 60) → ∀ H' a ts, Same H H' → H a = none → H' a = some (.tup (ts.map V.ref)) → Paired (PrI H H') ts (ys.map fun k => (k, Nd.cnt (hs ++ ks) 0 k)) → Q (.ref a) H') :
    spJoinX CH CM CT [v, w] H Q E := by
  obtain ⟨d, hd, ld, okd, hsd, _⟩ := hv.drOf o1
  obtain ⟨e, he, le, oke, hse, _⟩ := hw.drOf o2
  obtain ⟨c, hc⟩ := col
  refine ⟨r, v, w, d, e, rfl, eR, hd, he, ld, le, fun z => (by rw [okd] at z; cases z), fun _ z => (by rw [oke] at z; cases z), fun _ _ => ?_⟩
  rw [hsd, hse]
  refine ⟨fun z => (by rw [oneCol_of hc] at z; cases z), fun _ zs sz => ?_⟩
  obtain rfl := sz.uniq sp
  exact ⟨k1, k2, k3⟩
theorem spots_total {hs : List (Int × Int)} {ys : List Int} (o : ∀ p ∈ hs, okHeap p = true) (sp : Spots (Nd.cnt hs 0) ys) : (ys.map (Nd.cnt hs 0)).sum = (hs.map (·.2)).sum := by
  have hr : ∀ k, Nd.cnt hs 0 k ≠ 0 → -1000000 ≤ k ∧ k < -1000000 + (2000001 : Nat) := fun k hk => by
    have : k ∈ hs.map (·.1) := Classical.byContradiction fun z => hk (cnt_zero_off z)
    obtain ⟨p, hp, rfl⟩ := List.mem_map.mp this
    have := okHeap_of (o p hp)
    omega
  rw [spots_sum sp (-1000000) 2000001 hr, cnt_sum fun p hp => by have := okHeap_of (o p hp); omega]
  simp
theorem spots_in {hs : List (Int × Int)} {ys : List Int} (sp : Spots (Nd.cnt hs 0) ys) : ∀ k ∈ ys, k ∈ hs.map (·.1) := fun k hk => Classical.byContradiction fun z => (sp.mem k).mp hk (cnt_zero_off z)
theorem cut_nat (xs : List V) (n : Nat) : cutV xs none (some (n : Int)) = xs.take n := by
  unfold cutV
  rw [_root_.HT.sIx_none, _root_.HT.sIx_nat]
  simp
theorem cut_first (xs : List V) (x : V) : cutV (x :: xs) none (some 1) = [x] := cut_nat (x :: xs) 1
/-- a value that is one of two, and what follows -/
theorem k_ifJ {t : TT} {ta tb : TE} {σ : L2.St} {H : Hp} {Q : VK} (R : VK) (h : ∀ Q' : VK, (∀ v H', R v H' → Q' v H') → tIf t ta tb σ H Q') (q : ∀ v H', R v H' → Q v H') : tIf t ta tb σ H Q := h Q q
theorem k_ttJ {t : TT} {σ : L2.St} {H : Hp} {Q : Bool → Hp → Prop} (R : Bool → Hp → Prop) (h : ∀ Q' : Bool → Hp → Prop, (∀ b H', R b H' → Q' b H') → t σ H Q') (q : ∀ b H', R b H' → Q b H') : t σ H Q := h Q q
theorem k_stJ {t : TS} {nx bk ct : L2.St → Hp → Prop} {rt : VK} {σ : L2.St} {H : Hp} (R : L2.St → Hp → Prop) (h : ∀ nx' : L2.St → Hp → Prop, (∀ σ' H', R σ' H' → nx' σ' H') → t (Ends.mk nx' rt bk ct) σ H) (q : ∀ σ' H', R σ' H' → nx σ' H') : t (Ends.mk nx rt bk ct) σ H := h nx q
theorem k_teJ {t : TE} {σ : L2.St} {H : Hp} {Q : VK} (R : VK) (h : ∀ Q' : VK, (∀ v H', R v H' → Q' v H') → t σ H Q') (q : ∀ v H', R v H' → Q v H') : t σ H Q := h Q q
theorem xlst {H H' : Hp} (x : ExtN H H') {b : Addr} {l : List V} (e : H b = some (.lst l)) : H' b = some (.lst l) := x _ _ e fun _ z => nomatch z
theorem xtup {H H' : Hp} (x : ExtN H H') {b : Addr} {l : List V} (e : H b = some (.tup l)) : H' b = some (.tup l) := x _ _ e fun _ z => nomatch z
theorem prs_refs {H0 H : Hp} {r : Addr} : ∀ {ts : List Addr} {ps : List (Int × Int)}, (∃ u, H0 r = some u) → Paired (PrI H0 H) ts ps → Paired (PrA r H) (ts.map V.ref) ps
  | _, _, _, .nil => .nil
  | _, _, ⟨u, e⟩, .cons h t => .cons ⟨_, rfl, fun z => (by have := h.1; rw [z, e] at this; cases this), .inl h.2⟩ (prs_refs ⟨u, e⟩ t)
theorem prs_dpI {K : PySem.W.Frag} {H0 H : Hp} : ∀ {ts : List Addr} {ps : List (Int × Int)}, Paired (PrI H0 H) ts ps → DpAll K H (ts.map V.ref) (ps.map pD)
  | _, _, .nil => .nil
  | _, _, .cons h t => .cons (.tup (.inl (.inl h.2)) (.cons (.int _) (.cons (.int _) .nil))) (prs_dpI t)
theorem sh_pDsT (ps : List (Int × Int)) : SeqAt.shaped (.tuple (ps.map pD)) = true := by
  have h : ∀ ps : List (Int × Int), PyData.canLayAll0 (ps.map pD) = true ∧ PyData.depthAll (ps.map pD) ≤ 1 := fun ps => by
    induction ps with
    | nil => simp [PyData.canLayAll0, PyData.depthAll]
    | cons p ps ih =>
      refine ⟨by simp [PyData.canLayAll0, PyData.canLay0, pD, ih.1], ?_⟩
      simp [PyData.depthAll, PyData.depth, pD]
      omega
  obtain ⟨h1, h2⟩ := h ps
  simp [SeqAt.shaped, PyData.canLay0, PyData.depth, h1]
  omega
theorem eqv_pDs (ps : List (Int × Int)) : PyData.eqv (.tuple (ps.map pD)) (.tuple (ps.map pD)) = true := by
  have h : ∀ ps : List (Int × Int), PyData.eqvAll (ps.map pD) (ps.map pD) = true := fun ps => by
    induction ps with
    | nil => simp only [List.map_nil, PyData.eqvAll]
    | cons p ps ih => simp [PyData.eqvAll, PyData.eqv, pD, ih]
  simp only [PyData.eqv, h]
/-- a list of heaps of one colour -/
structure LHs (r : Addr) (H : Hp) (a : Addr) (hs : List (Int × Int)) (c : Int) : Prop where
  ex : ∃ xs, a ≠ r ∧ H a = some (.lst xs) ∧ Paired (PrA r H) xs hs
  ok : OkH hs
  col : ∀ p ∈ hs, p.1 % 2 = c
theorem LHs.gr {r : Addr} {H H' : Hp} {a : Addr} {hs : List (Int × Int)} {c : Int} (h : LHs r H a hs c) (g : Gr r H H') : LHs r H' a hs c := by
  obtain ⟨xs, n, e, p⟩ := h.ex
  exact ⟨⟨xs, n, g.all _ _ n e, pairs_mono (fun _ _ h => PrA.gr h g) p⟩, h.ok, h.col⟩
theorem LHs.ext {r : Addr} {H H' : Hp} {a : Addr} {hs : List (Int × Int)} {c : Int} (h : LHs r H a hs c) (x : ExtN H H') : LHs r H' a hs c := by
  obtain ⟨xs, n, e, p⟩ := h.ex
  exact ⟨⟨xs, n, xlst x e, pairs_mono (fun _ _ h => PrA.ext h x) p⟩, h.ok, h.col⟩
theorem LHs.hs {r : Addr} {H : Hp} {a : Addr} {hs : List (Int × Int)} {c : Int} (h : LHs r H a hs c) : Hs r H (.ref a) hs := by
  obtain ⟨xs, n, e, p⟩ := h.ex
  exact ⟨⟨a, xs, rfl, n, .inl e, p⟩⟩
theorem OkHs.okH {hs : List (Int × Int)} (o : OkHs hs) : OkH hs := ⟨o.few, o.ok, o.nd⟩
theorem OkH.nil : OkH [] := ⟨by decide, (fun _ h => nomatch h), List.Pairwise.nil⟩
theorem OkH.spots {hs : List (Int × Int)} (o : OkH hs) : ∃ ys, Spots (Nd.cnt hs 0) ys ∧ ys.length ≤ 60 ∧ ∀ k ∈ ys, Nd.cnt hs 0 k ≤ 10 ^ 60 := by
  obtain ⟨ys, h1, h2⟩ := spots_ex o.nd (f := Nd.cnt hs 0) fun k => (cnt_pos fun p hp => (okHeap_of (o.ok p hp)).2.2.1).symm
  refine ⟨ys, h1, by rw [h2.length_eq, List.length_map]; exact o.few, fun k hk => ?_⟩
  obtain ⟨p, hp, rfl⟩ := List.mem_map.mp (h2.mem_iff.mp hk)
  rw [cnt_zero_at o.nd hp]
  exact (okHeap_of (o.ok p hp)).2.2.2
theorem Rid.lst {r : Addr} {n : Nat} {H : Hp} (R : Rid r n H) : ∃ l, H r = some (.lst l) := by
  obtain ⟨c, ns, a, z, h1, h2, _⟩ := R.ex
  exact ⟨_, h2⟩
theorem inV_int {x : Int} : ∀ l : List Int, inV (.int x) (l.map V.int) = decide (x ∈ l)
  | [] => by simp [inV]
  | y :: l => by
    have := inV_int (x := x) l
    simp [inV] at this ⊢
    rw [this]
    by_cases h : x = y
    · simp [h, eqV]
    · simp [h, Ne.symm h, eqV]
/-- what joined_heaps refuses -/
theorem join_one {CH CM CT r : Addr} {v w : V} {d e : PyData} {H : Hp} {Q : VK} {E : XK} (hd : Dr r H v d) (he : Dr r H w e) (ld : lenOk2 d) (le : lenOk2 e) (eR : ∃ u, H r = some u) (h : heapsD d = false) (o : Outs E CH "one" H) : spJoinX CH CM CT [v, w] H Q E :=
  ⟨r, v, w, d, e, rfl, eR, hd, he, ld, le, fun _ => o, fun z => (by rw [h] at z; cases z), fun z => (by rw [h] at z; cases z)⟩
theorem join_other {CH CM CT r : Addr} {v w : V} {d e : PyData} {H : Hp} {Q : VK} {E : XK} (hd : Dr r H v d) (he : Dr r H w e) (ld : lenOk2 d) (le : lenOk2 e) (eR : ∃ u, H r = some u) (h1 : heapsD d = true) (h : heapsD e = false) (o : Outs E CH "other" H) : spJoinX CH CM CT [v, w] H Q E :=
  ⟨r, v, w, d, e, rfl, eR, hd, he, ld, le, fun z => (by rw [h1] at z; cases z), fun _ _ => o, fun _ z => (by rw [h] at z; cases z)⟩
theorem join_col {CH CM CT r : Addr} {v w : V} {hs ks : List (Int × Int)} {H : Hp} {Q : VK} {E : XK} (hv : Hs r H v hs) (hw : Hs r H w ks) (o1 : OkH hs) (o2 : OkH ks) (eR : ∃ u, H r = some u) (n : oneCol (hs ++ ks) = false) (o : Outs E CM "colour" H) : spJoinX CH CM CT [v, w] H Q E := by
  obtain ⟨d, hd, ld, okd, hsd, _⟩ := hv.drOf o1
  obtain ⟨e, he, le, oke, hse, _⟩ := hw.drOf o2
  refine ⟨r, v, w, d, e, rfl, eR, hd, he, ld, le, fun z => (by rw [okd] at z; cases z), fun _ z => (by rw [oke] at z; cases z), fun _ _ => ?_⟩
  rw [hsd, hse]
  exact ⟨fun _ => o, fun z => (by rw [n] at z; cases z)⟩
theorem pairs_memR {α β : Type} {F : α → β → Prop} : ∀ {l : List α} {m : List β} {y : β}, Paired F l m → y ∈ m → ∃ x, x ∈ l ∧ F x y
  | _, _, _, .cons h t, hy => by
    rcases List.mem_cons.mp hy with rfl | hy
    · exact ⟨_, List.mem_cons_self, h⟩
    · obtain ⟨x, hx, f⟩ := pairs_memR t hy
      exact ⟨x, List.mem_cons_of_mem _ hx, f⟩
theorem pairs_map_eq {α β γ : Type} {F : α → β → Prop} {f : α → γ} {g : β → γ} (e : ∀ a b, F a b → g b = f a) : ∀ {l : List α} {m : List β}, Paired F l m → m.map g = l.map f
  | _, _, .nil => rfl
  | _, _, .cons h t => by rw [List.map_cons, List.map_cons, e _ _ h, pairs_map_eq e t]
theorem k_iteJ {c : Prop} [Decidable c] {t u : TS} {nx bk ct : L2.St → Hp → Prop} {rt : VK} {σ : L2.St} {H : Hp} (R : L2.St → Hp → Prop) (h : ∀ nx' : L2.St → Hp → Prop, (∀ σ' H', R σ' H' → nx' σ' H') → if c then t (Ends.mk nx' rt bk ct) σ H else u (Ends.mk nx' rt bk ct) σ H) (q : ∀ σ' H', R σ' H' → nx σ' H') : if c then t (Ends.mk nx rt bk ct) σ H else u (Ends.mk nx rt bk ct) σ H := h nx q
theorem k_gnameE {i : Nat} {v : V} {σ σ2 : L2.St} {H : Hp} {Q : L2.St → Hp → Prop} (he : σ.set i (some v) = σ2) (h : Q σ2 H) : gName i v σ H Q := by
  subst he
  exact h
end Nd

namespace Nd
open PySem PySem.Spec PyProof.Rows L2 LamX
/-! ### objects: made, and their methods, over FnG -/
theorem make_guards {A : Around} {C : Addr} {us : List Value} {kw : List (Str × Value)} : (A.under (.builtin "type.__call__" ⟨.ref C :: us, kw⟩)).guards = A.guards := by
  first
  | rfl
  | (cases h : A.guards <;> simp [Around.under, pushGuards, Code.guards, Code.weight, Code.isGuard, h])
/-- a class at C, by the name x, whose __init__ keeps sp -/
structure MkG (P : Program) (w : World) (K : PySem.W.Frag) (mg : Str → Option Value) (base : Heap) (CX : CXT) (k : Nat) (x : Str) (C : Addr) (sp : Sp) : Prop where
  gm : mg x = some (.ref C)
  ex : ∃ (f : Addr) (fd : FuncData) (ps : List Str), Mk K C f ∧ FnG P w K mg base CX k f fd ps sp ∧ Binds K fd ps []
theorem run_makeG {X : Cx} {CX : CXT} {k : Nat} {x : Str} {C : Addr} {sp : Sp} {E : XK} {pins : List (Addr × Obj)} {σ : L2.St} {H : Hp} {s : Shared} {Q : VK} {us : List Value} {vs : List V} (M : MkG X.prog X.w X.K X.mg X.base CX k x C sp) (hG : X.A.guards = some []) (hr : Room (k + 1) X.A)
    (hx : Passes CX X E) (I : Inv X pins σ H s) (r : Vals vs us)
    (h : ∀ x dx, H x = none → H dx = none → dx ≠ x → sp (.ref x :: (vs ++ [])) (upd (upd H dx (.own x)) x (.ins C dx [])) (fun v H2 => v = .non ∧ Q (.ref x) H2) E) :
    wpAny (model X.prog X.w) X.A (call (.ref C) us) (EP X pins σ Q) X.xe s := by
  obtain ⟨f, fd, ps, Mc, F, hb⟩ := M.ex
  have hq := h (s.heap.objs.size + 1) s.heap.objs.size (I.hok.fresh (Nat.le_succ _)) (I.hok.fresh (Nat.le_refl _)) (Nat.ne_of_lt (Nat.lt_succ_self _))
  have I2 := Inv.made (C := C) I
  have r2 : Vals (V.ref (s.heap.objs.size + 1) :: (vs ++ [])) (Value.ref (s.heap.objs.size + 1) :: (us ++ [])) := .cons rfl (r.append .nil)
  have hl : (Value.ref (s.heap.objs.size + 1) :: us ++ []).length = ps.length := by
    have e := r2.length
    rw [F.many _ _ _ _ hq] at e
    exact e.symm
  have bb := hb _ (Value.ref (s.heap.objs.size + 1) :: us) I2.kIn hl
  rw [List.cons_append] at bb
  refine wpAny_call (make_map (f := f) I.kIn Mc.makes Mc.init (beq_iff_eq.mp Mc.fn) (codeAny_mono (F.go _ X.stack _ _ ⟨Value.ref (s.heap.objs.size + 1) :: us, []⟩ (Value.ref (s.heap.objs.size + 1) :: (us ++ [])) _ _ E (make_guards.trans hG) (hr.make C us [])
    (I2.env0.make C us []) bb r2 hq) fun r s' hq' => ?_))
  cases r with
  | error e => exact hx pins σ _ _ e s' I2 hq'
  | ok fl =>
    cases fl with
    | ret u =>
      obtain ⟨v, H', I3, rv, ev, q3⟩ := I2.after hq'
      subst ev
      exact ⟨rv, ⟨V.ref (s.heap.objs.size + 1), H', I3, rfl, q3⟩⟩
    | next => exact False.elim hq'
    | brk => exact False.elim hq'
    | cont => exact False.elim hq'
theorem pe_mkG {X : Cx} {CX : CXT} {k : Nat} {x : Str} {C : Addr} {sp : Sp} {E : XK} {p pos : Pos} {e : Expr} {es : List Expr} {t : TA} (M : MkG X.prog X.w X.K X.mg X.base CX k x C sp) (hG : X.A.guards = some []) (hr : Room (k + 1) X.A) (hg : Gl X x) (hx : Passes CX X E)
    (ha : PA X (e :: es) t) (hdb : (x == ("__debug__" : Str)) = false := by decide) (he : starEach (e :: es) X.env = (false, eval e X.env) :: starEach es X.env := by rfl) (hpl : (backTo pos (starEach es X.env)).any (·.1) = false := by rfl) :
    PE X (.Call (.Name x p) (e :: es) [] pos) (tMake C sp [] E t) := by
  refine ⟨fun pins s σ H Q I h => ?_⟩
  refine wpAny_Call_Name_kw (ld_glob I hg M.gm ?_ hdb)
  obtain ⟨f, fd, ps, Mc, _⟩ := M.ex
  refine PySem.W.callWith_K (h₀ := X.base) I.ok.mod.kin Mc.kp (thn (ha.run pos pins s σ H _ I h) fun us s1 ⟨vs, H1, I1, r, q⟩ => ⟨I1.kIn, ?_⟩) he hpl
  exact run_makeG M hG hr hx I1 r q
/-- a method m of the class at C, which keeps sp -/
structure CalM (P : Program) (w : World) (K : PySem.W.Frag) (mg : Str → Option Value) (base : Heap) (CX : CXT) (k : Nat) (C : Addr) (m : Str) (sp : Sp) : Prop where
  cls : Cls K C
  ex : ∃ (f : Addr) (fd : FuncData) (ps : List Str), Meth K C m f ∧ FnG P w K mg base CX k f fd ps sp ∧ Binds K fd ps []
theorem CalM.calm {P : Program} {w : World} {K : PySem.W.Frag} {mg : Str → Option Value} {base : Heap} {k : Nat} {C : Addr} {m : Str} {sp : Sp} (c : CalM P w K mg base (L2.CX P w) k C m sp) : CalM P w K mg base CX0 k C m (fun vs H Q _ => sp vs H Q E0) := by
  obtain ⟨f, fd, ps, h, F, r⟩ := c.ex
  exact ⟨c.cls, f, fd, ps, h, F.calm, r⟩
theorem MkG.calm {P : Program} {w : World} {K : PySem.W.Frag} {mg : Str → Option Value} {base : Heap} {k : Nat} {C : Addr} {x : Str} {sp : Sp} (c : MkG P w K mg base (L2.CX P w) k x C sp) : MkG P w K mg base CX0 k x C (fun vs H Q _ => sp vs H Q E0) := by
  obtain ⟨f, fd, ps, h, F, r⟩ := c.ex
  exact ⟨c.gm, f, fd, ps, h, F.calm, r⟩
theorem pe_methG {X : Cx} {CX : CXT} {k : Nat} {C : Addr} {m : Str} {sp : Sp} {E : XK} {apos pos : Pos} {o e : Expr} {es : List Expr} {ta : TE} {t : TA} {pl : Sem Bool} (he : PE X o ta) (c : CalM X.prog X.w X.K X.mg X.base CX k C m sp) (hG : X.A.guards = some []) (hr : Room k X.A) (hx : Passes CX X E) (ha : PA X (e :: es) t)
    (hst : starEach (e :: es) X.env = (false, eval e X.env) :: starEach es X.env := by rfl) (hpl : (backTo pos (starEach es X.env)).any (·.1) = false := by rfl)
    (ht : eval (.Call (.Attribute o m apos) (e :: es) [] pos) X.env = (do
      let ov ← eval o X.env
      standAt apos.atName
      let (f, first) ← holding [ov] (getMethod ov m pl)
      callWith pos f first (backTo pos (starEach (e :: es) X.env)) (backToKw pos (keywordEach [] X.env))) := by rfl) :
    PE X (.Call (.Attribute o m apos) (e :: es) [] pos) (tMeth C m sp [] E ta t) := by
  obtain ⟨f, fd, ps, hm, F, hb⟩ := c.ex
  refine ⟨fun pins s σ H Q I h => ?_⟩
  refine PySem.W.methodCall_KW (pl := pl) (thn (he.run pins s σ H _ I h) fun u s1 ⟨x, H1, I1, rx, a, dx, fs, ex, ea, l, q⟩ => ?_) ht
  subst ex
  obtain rfl : u = Value.ref a := rx
  refine getmeth_ok I1 ea c.cls hm l ?_
  refine PySem.W.callWith_K (first := [.ref a]) (h₀ := X.base) I.ok.mod.kin hm.kp (thn (ha.run pos pins s1 σ H1 _ I1 q) fun us s2 ⟨vs, H2, I2, r, q2⟩ => ⟨I2.kIn, ?_⟩) hst hpl
  exact goG (us := .ref a :: us) (vs := .ref a :: vs) F hG hr hb .nil hx I2 (.cons rfl r) q2
theorem pe_methG0 {X : Cx} {CX : CXT} {k : Nat} {C : Addr} {m : Str} {sp : Sp} {E : XK} {apos pos : Pos} {o : Expr} {ta : TE} {pl : Sem Bool} (he : PE X o ta) (c : CalM X.prog X.w X.K X.mg X.base CX k C m sp) (hG : X.A.guards = some []) (hr : Room k X.A) (hx : Passes CX X E)
    (ht : eval (.Call (.Attribute o m apos) [] [] pos) X.env = (do
      let ov ← eval o X.env
      standAt apos.atName
      let (f, first) ← holding [ov] (getMethod ov m pl)
      callWith pos f first (backTo pos (starEach [] X.env)) (backToKw pos (keywordEach [] X.env))) := by rfl) :
    PE X (.Call (.Attribute o m apos) [] [] pos) (tMeth C m sp [] E ta tNil) := by
  obtain ⟨f, fd, ps, hm, F, hb⟩ := c.ex
  refine ⟨fun pins s σ H Q I h => ?_⟩
  refine PySem.W.methodCall_KW (pl := pl) (thn (he.run pins s σ H _ I h) fun u s1 ⟨x, H1, I1, rx, a, dx, fs, ex, ea, l, q⟩ => ?_) ht
  subst ex
  obtain rfl : u = Value.ref a := rx
  refine getmeth_ok I1 ea c.cls hm l ?_
  exact PySem.W.callWith_K0 (first := [.ref a]) I1.kIn hm.kp (goG (us := [.ref a]) (vs := [.ref a]) F hG hr hb .nil hx I1 (.cons rfl .nil) q)
theorem k_make {C : Addr} {sp : Sp} {dvs : List V} {E : XK} {t : TA} {σ : L2.St} {H : Hp} {Q : VK} (h : t σ H fun vs H1 => ∀ x dx, H1 x = none → H1 dx = none → dx ≠ x → sp (.ref x :: (vs ++ dvs)) (upd (upd H1 dx (.own x)) x (.ins C dx [])) (fun v H2 => v = .non ∧ Q (.ref x) H2) E) : tMake C sp dvs E t σ H Q := h
theorem k_meth {C : Addr} {m : Str} {sp : Sp} {dvs : List V} {E : XK} {ta : TE} {t : TA} {σ : L2.St} {H : Hp} {Q : VK} (h : ta σ H fun x H1 => ∃ a dx fs, x = .ref a ∧ H1 a = some (.ins C dx fs) ∧ fs.lookup m = none ∧ t σ H1 fun vs H2 => sp (x :: (vs ++ dvs)) H2 Q E) : tMeth C m sp dvs E ta t σ H Q := h
theorem k_fld {K : PySem.W.Frag} {ta : TE} {f : Str} {σ : L2.St} {H : Hp} {Q : VK} (h : ta σ H fun x H1 => ∃ a C dx fs v, x = .ref a ∧ H1 a = some (.ins C dx fs) ∧ Cls K C ∧ NoAttr K C f ∧ fs.lookup f = some v ∧ Q v H1) : tFld K ta f σ H Q := h
theorem k_sfld {K : PySem.W.Frag} {ta tv : TE} {f : Str} {nx bk ct : L2.St → Hp → Prop} {rt : VK} {σ : L2.St} {H : Hp} (h : tv σ H fun y H1 => ta σ H1 fun x H2 => ∃ a C dx fs, x = .ref a ∧ H2 a = some (.ins C dx fs) ∧ Cls K C ∧ NoAttr K C f ∧ fs.length < 1000 ∧
  nx σ (upd H2 a (.ins C dx (putF f y fs)))) : sFld K ta tv f (Ends.mk nx rt bk ct) σ H := h
theorem k_sfa {K : PySem.W.Frag} {ta tv : TE} {rd : V → V → Hp → VK → Prop} {f : Str} {nx bk ct : L2.St → Hp → Prop} {rt : VK} {σ : L2.St} {H : Hp} (h : ta σ H fun x H1 => ∃ a C dx fs v, x = .ref a ∧ H1 a = some (.ins C dx fs) ∧ Cls K C ∧ NoAttr K C f ∧ fs.lookup f = some v ∧
  tv σ H1 fun y H2 => rd v y H2 fun z H3 => ∃ dx' fs', H3 a = some (.ins C dx' fs') ∧ fs'.length < 1000 ∧ nx σ (upd H3 a (.ins C dx' (putF f z fs')))) : sFldAug K ta tv rd f (Ends.mk nx rt bk ct) σ H := h
end Nd

namespace Nd
open PySem PySem.Spec PyProof.Rows L2 LamX
/-! ### a tick: what heaps send, and how it is laid together -/
def sL (L : Int → Bool) (p : Int × Int) : Int := if p.2 % 2 = 1 ∧ L p.1 = true then p.2 / 2 + 1 else p.2 / 2
def sR (L : Int → Bool) (p : Int × Int) : Int := if p.2 % 2 = 1 ∧ L p.1 = false then p.2 / 2 + 1 else p.2 / 2
theorem sLR (L : Int → Bool) (p : Int × Int) : sL L p + sR L p = p.2 := by
  unfold sL sR
  cases L p.1 <;> by_cases h : p.2 % 2 = 1 <;> simp [h] <;> omega
theorem sL_nonneg {L : Int → Bool} {p : Int × Int} (h : 0 ≤ p.2) : 0 ≤ sL L p := by unfold sL; split <;> omega
theorem sR_nonneg {L : Int → Bool} {p : Int × Int} (h : 0 ≤ p.2) : 0 ≤ sR L p := by unfold sR; split <;> omega
def pc (s x : Int) : List (Int × Int) := if x = 0 then [] else [(s, x)]
def mrg : List (Int × Int × Int) → Int → Int → List (Int × Int)
  | [], wa, w => pc wa w
  | (s, l, r) :: t, wa, w => if wa = s - 1 then pc (s - 1) (l + w) ++ mrg t (s + 1) r else pc wa w ++ (pc (s - 1) l ++ mrg t (s + 1) r)
def trip (L : Int → Bool) (p : Int × Int) : Int × Int × Int := (p.1, sL L p, sR L p)
/-- heaps behind a tick -/
def sentF (L : Int → Bool) (hs : List (Int × Int)) : List (Int × Int) := mrg (hs.map (trip L)) 0 0
def at2 (s x y : Int) : Int := if s = x then y else 0
theorem cnt_pc (s x k : Int) : Nd.cnt (pc s x) 0 k = at2 k s x := by
  unfold pc at2
  by_cases h : x = 0
  · rw [if_pos h, cnt_nil, h]
    split <;> rfl
  · rw [if_neg h, cnt_cons, cnt_nil, W]
    by_cases e : k = s
    · rw [if_pos (by omega), if_pos e]
      simp
    · rw [if_neg (by omega), if_neg e]
      simp
def sumT (ts : List (Int × Int × Int)) (k : Int) : Int := (ts.map fun t => at2 k (t.1 - 1) t.2.1 + at2 k (t.1 + 1) t.2.2).sum
theorem at2_add (k s x y : Int) : at2 k s (x + y) = at2 k s x + at2 k s y := by unfold at2; split <;> omega
theorem cnt_mrg (k : Int) : ∀ (ts : List (Int × Int × Int)) (wa w : Int), Nd.cnt (mrg ts wa w) 0 k = at2 k wa w + sumT ts k
  | [], wa, w => by rw [mrg, cnt_pc]; simp [sumT]
  | (s, l, r) :: t, wa, w => by
    have ih := cnt_mrg k t (s + 1) r
    have e : sumT ((s, l, r) :: t) k = at2 k (s - 1) l + at2 k (s + 1) r + sumT t k := by simp [sumT]
    rw [mrg, e]
    by_cases h : wa = s - 1
    · rw [if_pos h, cnt_append, cnt_pc, ih, at2_add, h]
      omega
    · rw [if_neg h, cnt_append, cnt_append, cnt_pc, cnt_pc, ih]
      omega
/-- heaps in their order, none beside another -/
structure Asc (hs : List (Int × Int)) : Prop where
  gap : hs.Pairwise fun p q => p.1 + 2 ≤ q.1
  pos : ∀ p ∈ hs, 1 ≤ p.2
  col : ∃ c : Int, ∀ p ∈ hs, p.1 % 2 = c
theorem pc_mem {s x : Int} {p : Int × Int} (h : p ∈ pc s x) : p.1 = s ∧ p.2 = x ∧ x ≠ 0 := by
  unfold pc at h
  split at h
  · cases h
  · rw [List.mem_singleton.mp h]
    exact ⟨rfl, rfl, by assumption⟩
theorem pc_gap (s x : Int) : (pc s x).Pairwise fun p q : Int × Int => p.1 + 2 ≤ q.1 := by
  unfold pc
  split
  · exact .nil
  · simp
theorem mrg_asc {c : Int} : ∀ (ts : List (Int × Int × Int)) (wa w : Int), ts.Pairwise (fun a b => a.1 + 2 ≤ b.1) → (∀ t ∈ ts, 0 ≤ t.2.1 ∧ 0 ≤ t.2.2 ∧ t.1 % 2 = c) → 0 ≤ w → (∀ t ∈ ts, wa + 1 ≤ t.1) → (wa + 1) % 2 = c →
    (mrg ts wa w).Pairwise (fun p q => p.1 + 2 ≤ q.1) ∧ ∀ p ∈ mrg ts wa w, 1 ≤ p.2 ∧ wa ≤ p.1 ∧ (p.1 + 1) % 2 = c
  | [], wa, w, _, _, hw, _, hc => by
    refine ⟨pc_gap _ _, fun p hp => ?_⟩
    obtain ⟨e1, e2, e3⟩ := pc_mem hp
    exact ⟨by omega, by omega, by omega⟩
  | (s, l, r) :: t, wa, w, hp, hn, hw, hf, hc => by
    obtain ⟨hp1, hp2⟩ := List.pairwise_cons.mp hp
    obtain ⟨l0, r0, sc⟩ := hn _ List.mem_cons_self
    have sf : wa + 1 ≤ s := hf _ List.mem_cons_self
    have sc : s % 2 = c := sc
    have l0 : 0 ≤ l := l0
    have r0 : 0 ≤ r := r0
    obtain ⟨i1, i2⟩ := mrg_asc t (s + 1) r hp2 (fun x hx => hn x (List.mem_cons_of_mem _ hx)) r0 (fun x hx => by have : s + 2 ≤ x.1 := hp1 x hx; omega) (by omega)
    rw [mrg]
    by_cases h : wa = s - 1
    · rw [if_pos h]
      refine ⟨List.pairwise_append.mpr ⟨pc_gap _ _, i1, fun p hp q hq => ?_⟩, fun p hp => ?_⟩
      · have := (pc_mem hp).1
        have := (i2 q hq).2.1
        omega
      · rcases List.mem_append.mp hp with hp | hp
        · obtain ⟨e1, e2, e3⟩ := pc_mem hp
          exact ⟨by omega, by omega, by omega⟩
        · obtain ⟨a, b, d⟩ := i2 p hp
          exact ⟨a, by omega, d⟩
    · rw [if_neg h]
      have wlt : wa + 2 ≤ s - 1 := by omega
      refine ⟨List.pairwise_append.mpr ⟨pc_gap _ _, List.pairwise_append.mpr ⟨pc_gap _ _, i1, fun p hp q hq => ?_⟩, fun p hp q hq => ?_⟩, fun p hp => ?_⟩
      · have := (pc_mem hp).1
        have := (i2 q hq).2.1
        omega
      · have e1 := (pc_mem hp).1
        rcases List.mem_append.mp hq with hq | hq
        · have := (pc_mem hq).1
          omega
        · have := (i2 q hq).2.1
          omega
      · rcases List.mem_append.mp hp with hp | hp
        · obtain ⟨e1, e2, e3⟩ := pc_mem hp
          exact ⟨by omega, by omega, by omega⟩
        rcases List.mem_append.mp hp with hp | hp
        · obtain ⟨e1, e2, e3⟩ := pc_mem hp
          exact ⟨by omega, by omega, by omega⟩
        · obtain ⟨a, b, d⟩ := i2 p hp
          exact ⟨a, by omega, d⟩
/-- nothing waits: where does not matter -/
theorem mrg_zero (ts : List (Int × Int × Int)) (wa wb : Int) : mrg ts wa 0 = mrg ts wb 0 := by
  cases ts with
  | nil => simp [mrg, pc]
  | cons t ts =>
    obtain ⟨s, l, r⟩ := t
    rw [mrg, mrg]
    have : ∀ wa : Int, (if wa = s - 1 then pc (s - 1) (l + 0) ++ mrg ts (s + 1) r else pc wa 0 ++ (pc (s - 1) l ++ mrg ts (s + 1) r)) = pc (s - 1) l ++ mrg ts (s + 1) r := fun wa => by
      rw [Int.add_zero]
      split
      · rfl
      · simp [pc]
    rw [this, this]
theorem Asc.sent {hs : List (Int × Int)} {L : Int → Bool} (h : Asc hs) : Asc (sentF L hs) := by
  cases hs with
  | nil => exact ⟨by simp [sentF, mrg, pc], (fun p hp => by simp [sentF, mrg, pc] at hp), 0, fun p hp => by simp [sentF, mrg, pc] at hp⟩
  | cons p0 hs =>
    obtain ⟨c, hc⟩ := h.col
    have e : sentF L (p0 :: hs) = mrg ((p0 :: hs).map (trip L)) (p0.1 - 1) 0 := mrg_zero _ _ _
    have g := h.gap
    obtain ⟨a, b⟩ := mrg_asc (c := c) ((p0 :: hs).map (trip L)) (p0.1 - 1) 0 (List.pairwise_map.mpr g) (fun t ht => by
      obtain ⟨p, hp, rfl⟩ := List.mem_map.mp ht
      have := h.pos p hp
      exact ⟨sL_nonneg (by omega), sR_nonneg (by omega), hc p hp⟩) (by decide) (fun t ht => by
      obtain ⟨p, hp, rfl⟩ := List.mem_map.mp ht
      show p0.1 - 1 + 1 ≤ p.1
      rcases List.mem_cons.mp hp with rfl | hp
      · omega
      · have := (List.pairwise_cons.mp g).1 p hp
        omega) (by have := hc p0 List.mem_cons_self; omega)
    rw [e]
    refine ⟨a, fun p hp => (b p hp).1, (c + 1) % 2, fun p hp => ?_⟩
    have := (b p hp).2.2
    have hc01 := hc p0 List.mem_cons_self
    omega
/-- what lies on a spot behind a tick -/
theorem cnt_sent {hs : List (Int × Int)} {L : Int → Bool} (k : Int) : Nd.cnt (sentF L hs) 0 k = (hs.map fun p => at2 k (p.1 - 1) (sL L p) + at2 k (p.1 + 1) (sR L p)).sum := by
  rw [sentF, cnt_mrg]
  have : at2 k 0 0 = 0 := by unfold at2; split <;> rfl
  rw [this, Int.zero_add, sumT, List.map_map]
  rfl
theorem mrg_total : ∀ (ts : List (Int × Int × Int)) (wa w : Int), ((mrg ts wa w).map (·.2)).sum = w + (ts.map fun t => t.2.1 + t.2.2).sum
  | [], wa, w => by
    rw [mrg, pc]
    split
    · subst_vars; rfl
    · simp
  | (s, l, r) :: t, wa, w => by
    have pcs : ∀ a b : Int, ((pc a b).map (·.2)).sum = b := fun a b => by
      rw [pc]
      split
      · subst_vars; rfl
      · simp
    have ih := mrg_total t (s + 1) r
    rw [mrg]
    split
    · rw [List.map_append, List.sum_append, pcs, ih]
      simp
      omega
    · rw [List.map_append, List.sum_append, List.map_append, List.sum_append, pcs, pcs, ih]
      simp
      omega
/-- no chip is lost -/
theorem sent_total (hs : List (Int × Int)) (L : Int → Bool) : ((sentF L hs).map (·.2)).sum = (hs.map (·.2)).sum := by
  rw [sentF, mrg_total, Int.zero_add, List.map_map]
  congr 1
  exact List.map_congr_left fun p _ => sLR L p
/-- which spots' hands show to the left, in the order of the dict -/
def turnK (ks : List Int) (p : Int × Int) : List Int := if p.2 % 2 = 1 then (if p.1 ∈ ks then ks.filter (fun k => decide (k ≠ p.1)) else ks ++ [p.1]) else ks
def turnsK (ks : List Int) (hs : List (Int × Int)) : List Int := hs.foldl turnK ks
theorem turnK_other {ks : List Int} {p : Int × Int} {s : Int} (h : s ≠ p.1) : s ∈ turnK ks p ↔ s ∈ ks := by
  unfold turnK
  split
  · split
    · simp [List.mem_filter, h]
    · simp [List.mem_append, h]
  · rfl
theorem turnK_self {ks : List Int} {p : Int × Int} : p.1 ∈ turnK ks p ↔ (if p.2 % 2 = 1 then p.1 ∉ ks else p.1 ∈ ks) := by
  unfold turnK
  split
  · split
    · simp [*]
    · simp [*]
  · rfl
theorem turnK_nodup {ks : List Int} {p : Int × Int} (h : ks.Nodup) : (turnK ks p).Nodup := by
  unfold turnK
  split
  · split
    · exact h.filter _
    · exact List.nodup_append.mpr ⟨h, by simp, fun a ha b hb => by rw [List.mem_singleton.mp hb]; rintro rfl; contradiction⟩
  · exact h
theorem turnsK_nodup : ∀ {hs : List (Int × Int)} {ks : List Int}, ks.Nodup → (turnsK ks hs).Nodup
  | [], _, h => h
  | p :: hs, ks, h => turnsK_nodup (hs := hs) (turnK_nodup h)
theorem turnsK_off {s : Int} : ∀ {hs : List (Int × Int)} {ks : List Int}, (∀ p ∈ hs, p.1 ≠ s) → (s ∈ turnsK ks hs ↔ s ∈ ks)
  | [], _, _ => Iff.rfl
  | p :: hs, ks, h => (turnsK_off (hs := hs) (ks := turnK ks p) fun q hq => h q (List.mem_cons_of_mem _ hq)).trans (turnK_other (h p List.mem_cons_self).symm)
theorem turnsK_snoc (ks : List Int) (hs : List (Int × Int)) (p : Int × Int) : turnsK ks (hs ++ [p]) = turnK (turnsK ks hs) p := by
  unfold turnsK
  rw [List.foldl_append]
  rfl
def entB (k : Int) : Key × V := (.inl k, .bl true)
/-- all but what stands at d stays -/
def But (d : Addr) (H H' : Hp) : Prop := ∀ b o, b ≠ d → H b = some o → H' b = some o
theorem But.of {d : Addr} {H H' : Hp} (s : Same H H') : But d H H' := fun b o _ e => s b o e
theorem But.trans {d : Addr} {H H1 H2 : Hp} (a : But d H H1) (b : But d H1 H2) : But d H H2 := fun c o n e => b c o n (a c o n e)
theorem But.put {d : Addr} {H : Hp} {o : HO} : But d H (upd H d o) := fun b u n e => (upd_ne n).trans e
theorem PrA.but {d : Addr} {H H' : Hp} {v : V} {p : Int × Int} (h : PrA d H v p) (s : But d H H') : PrA d H' v p := by
  obtain ⟨a, e, n, h⟩ := h
  exact ⟨a, e, n, trTo h fun u => s _ u n⟩
/-- sent_on: heaps in their order, the hands in a dict -/
def spSent : Sp := fun vs H Q _ => ∃ (d : Addr) (v : V) (hs : List (Int × Int)) (ks : List Int), vs = [v, .ref d] ∧ Hs d H v hs ∧ H d = some (.dK (ks.map entB)) ∧ Asc hs ∧ ks.Nodup ∧ hs.length ≤ 3000000 ∧ ks.length + hs.length ≤ 10000000 ∧
  ∀ H' a ts, But d H H' → H' d = some (.dK ((turnsK ks hs).map entB)) → H a = none → H' a = some (.lst (ts.map V.ref)) → Paired (PrI H H') ts (sentF (fun s => decide (s ∈ ks)) hs) → Q (.ref a) H'
theorem valV_entB (ks : List Int) (k : Int) : (valV (ks.map entB) (.inl k)).isSome = decide (k ∈ ks) := by
  induction ks with
  | nil => simp [valV]
  | cons x ks ih =>
    rw [List.map_cons]
    by_cases h : x = k
    · rw [valV_pos (by rw [entB, h])]
      simp [h]
    · rw [valV_neg (by intro e; exact h (Sum.inl.inj e)), ih]
      simp [Ne.symm h]
theorem putK_entB {ks : List Int} {k : Int} (h : k ∉ ks) : putK (ks.map entB) (.inl k) (.bl true) = (ks ++ [k]).map entB := by
  unfold putK
  rw [if_neg, List.map_append]
  · rfl
  · rw [List.any_eq_true]
    rintro ⟨x, hx, e⟩
    obtain ⟨y, hy, rfl⟩ := List.mem_map.mp hx
    have := of_decide_eq_true e
    exact h (Sum.inl.inj this ▸ hy)
theorem dropK_entB (ks : List Int) (k : Int) : dropK (ks.map entB) (.inl k) = (ks.filter fun x => decide (x ≠ k)).map entB := by
  unfold dropK
  rw [List.filter_map]
  congr 1
  refine List.filter_congr fun x _ => ?_
  simp [entB]
theorem pc_len (s x : Int) : (pc s x).length ≤ 1 := by unfold pc; split <;> simp
theorem mrg_len : ∀ (ts : List (Int × Int × Int)) (wa w : Int), (mrg ts wa w).length ≤ 2 * ts.length + 1
  | [], wa, w => by rw [mrg]; have := pc_len wa w; simp; omega
  | (s, l, r) :: t, wa, w => by
    have ih := mrg_len t (s + 1) r
    have p1 := pc_len (s - 1) (l + w)
    have p2 := pc_len wa w
    have p3 := pc_len (s - 1) l
    rw [mrg]
    split <;> simp only [List.length_append, List.length_cons] <;> omega
theorem k_asg2 {te : TE} {g1 g2 : TG} {nx bk ct : L2.St → Hp → Prop} {rt : VK} {σ : L2.St} {H : Hp} (h : te σ H fun x H1 => g1 x σ H1 fun σ1 H2 => g2 x σ1 H2 nx) : tAsg2 te g1 g2 (Ends.mk nx rt bk ct) σ H := h
theorem k_ddel {td ty : TE} {nx bk ct : L2.St → Hp → Prop} {rt : VK} {σ : L2.St} {H : Hp} (h : td σ H fun x H1 => ty σ H1 fun y H2 => ∃ a kvs k, x = .ref a ∧ H2 a = some (.dK kvs) ∧ y = kV k ∧ (valV kvs k).isSome = true ∧ nx σ (upd H2 a (.dK (dropK kvs k)))) : sDDel td ty (Ends.mk nx rt bk ct) σ H := h
theorem turnK_len (ks : List Int) (p : Int × Int) : (turnK ks p).length ≤ ks.length + 1 := by
  unfold turnK
  split
  · split
    · exact Nat.le_trans (List.length_filter_le _ _) (Nat.le_succ _)
    · simp
  · exact Nat.le_succ _
theorem turnsK_len : ∀ (ks : List Int) (hs : List (Int × Int)), (turnsK ks hs).length ≤ ks.length + hs.length
  | ks, [] => Nat.le_refl _
  | ks, p :: hs => by
    have h1 := turnsK_len (turnK ks p) hs
    have h2 := turnK_len ks p
    have e : turnsK ks (p :: hs) = turnsK (turnK ks p) hs := rfl
    rw [e, List.length_cons]
    omega
theorem k_din {ty td : TE} {σ : L2.St} {H : Hp} {Q : VK} (h : ty σ H fun y H1 => td σ H1 fun x H2 => ∃ a o, x = .ref a ∧ DGet H2 a y o ∧ Q (.bl o.isSome) H2) : tDIn ty td σ H Q := h
theorem mrg_cons0 (s l r wa : Int) (t : List (Int × Int × Int)) : mrg ((s, l, r) :: t) wa 0 = pc (s - 1) l ++ mrg t (s + 1) r := by
  rw [mrg]
  split
  · rw [Int.add_zero]
  · simp [pc]
theorem mrg_at (s l r w : Int) (t : List (Int × Int × Int)) : mrg ((s, l, r) :: t) (s - 1) w = pc (s - 1) (l + w) ++ mrg t (s + 1) r := by rw [mrg, if_pos rfl]
theorem mrg_off {s l r wa w : Int} {t : List (Int × Int × Int)} (h : wa ≠ s - 1) : mrg ((s, l, r) :: t) wa w = pc wa w ++ (pc (s - 1) l ++ mrg t (s + 1) r) := by rw [mrg, if_neg h]
/-- one more pair at the end of a list of new ones -/
theorem snocI {H H3 H4 : Hp} {pl b : Addr} {ts : List Addr} {out : List (Int × Int)} {x y : Int} (n0 : H b = none) (hts : Paired (PrI H H3) ts out) (s4 : Same H3 H4) (nb : H3 b = none) (eb : H4 b = some (.tup [.int x, .int y])) (el : H4 pl = some (.lst (ts.map V.ref))) :
    Paired (PrI H (upd H4 pl (.lst (ts.map V.ref ++ [.ref b])))) (ts ++ [b]) (out ++ [(x, y)]) := by
  have ne : ∀ {c : Addr} {zs : List V}, H4 c = some (.tup zs) → c ≠ pl := fun e z => by
    rw [z, el] at e
    cases e
  exact Paired.snoc (pairs_mono (fun _ _ h => ⟨h.1, (upd_ne (ne (s4 _ _ h.2))).trans (s4 _ _ h.2)⟩) hts) ⟨n0, (upd_ne (ne eb)).trans eb⟩
theorem But.over {d pl : Addr} {H H4 : Hp} {o : HO} (b : But d H H4) (n : H pl = none) : But d H (upd H4 pl o) := fun c u nc e => (upd_ne (ne_of_none e n)).trans (b c u nc e)
end Nd

namespace Nd
open PySem PySem.Spec PyProof.Rows L2 LamX
/-! ### a set of ints, and how many there are -/
theorem nodup_len : ∀ {l m : List Int}, l.Nodup → (∀ x ∈ l, x ∈ m) → l.length ≤ m.length
  | [], _, _, _ => Nat.zero_le _
  | x :: l, m, h, s => by
    obtain ⟨h1, h2⟩ := List.nodup_cons.mp h
    have hx := s x List.mem_cons_self
    have := nodup_len (l := l) (m := m.erase x) h2 fun y hy => by
      refine (List.mem_erase_of_ne ?_).mpr (s y (List.mem_cons_of_mem _ hy))
      rintro rfl
      exact h1 hy
    rw [List.length_erase_of_mem hx] at this
    have p := List.length_pos_of_mem hx
    rw [List.length_cons]
    omega
theorem dup_of : ∀ {m : List Int}, ¬ m.Nodup → ∃ x, x ∈ m ∧ x ∈ m.erase x
  | [], h => absurd List.nodup_nil h
  | y :: m, h => by
    by_cases hy : y ∈ m
    · exact ⟨y, List.mem_cons_self, by rw [List.erase_cons_head]; exact hy⟩
    · obtain ⟨x, h1, h2⟩ := dup_of (m := m) fun z => h (List.nodup_cons.mpr ⟨hy, z⟩)
      refine ⟨x, List.mem_cons_of_mem _ h1, ?_⟩
      rw [List.erase_cons_tail (by intro e; exact hy ((beq_iff_eq.mp e) ▸ h1))]
      exact List.mem_cons_of_mem _ h2
theorem setR_len {w : World} {h : Heap} {a : Addr} {ns : List Int} {c : Nat} (R : SetR w h a (fun j => decide (j ∈ ns)) c) : (ns.Nodup → c = ns.length) ∧ (¬ ns.Nodup → c < ns.length) := by
  obtain ⟨o, es, ep, t, ho, hex, hd, g, nd, hm, hb, hf, hn, hr, hl⟩ := R
  have hlen : (es.toList.map keyOf).length = c := by rw [List.length_map, Array.length_toList]; exact hn
  have h1 : ∀ x ∈ es.toList.map keyOf, x ∈ ns := fun x hx => of_decide_eq_true ((hm x).mpr hx)
  have h2 : ∀ x ∈ ns, x ∈ es.toList.map keyOf := fun x hx => (hm x).mp (decide_eq_true hx)
  refine ⟨fun hnd => ?_, fun hnd => ?_⟩
  · have := nodup_len nd h1
    have := nodup_len hnd h2
    omega
  · obtain ⟨x, hx1, hx2⟩ := dup_of hnd
    have := nodup_len nd (m := ns.erase x) fun y hy => by
      by_cases e : y = x
      · exact e ▸ hx2
      · exact (List.mem_erase_of_ne e).mpr (h1 y hy)
    rw [List.length_erase_of_mem hx1] at this
    have p := List.length_pos_of_mem hx1
    omega
def rSetC (K : PySem.W.Frag) (w : World) : List V → Hp → VK → Prop := fun vs H Q => ∃ (l : Addr) (ns : List Int), vs = [V.ref l] ∧ SqA K H l (ns.map V.int) ∧ ns.length ≤ 4000 ∧
  ∀ (p : Addr) (c : Nat), (ns.Nodup → c = ns.length) → (¬ ns.Nodup → c < ns.length) → H p = none → Q (.ref p) (upd H p (SetO w p (fun j => decide (j ∈ ns)) c))
section
variable {X : Cx}
theorem cr_setC (hc : X.calm = true) : CallR X (.type "set") (rSetC X.K X.w) := by
  intro pins s σ H vs us Q I r ⟨l, ns, e, hl, hz, q⟩
  subst e
  rw [Vals.ref1 r]
  have hb : ns.length + 1 < scanBound := by have : scanBound = 4096 := rfl; omega
  have fin : ∀ (h' : Heap) (tk c : Nat), SetR X.w h' s.heap.objs.size (fun j => decide (j ∈ ns)) c → (∀ b o, s.heap.get? b = some o → h'.get? b = some o) → EP X pins σ Q (.ref s.heap.objs.size) { s with heap := h', toks := tk } := fun h' tk c R k => by
    obtain ⟨c1, c2⟩ := setR_len R
    exact ⟨.ref s.heap.objs.size, upd H s.heap.objs.size (SetO X.w s.heap.objs.size (fun j => decide (j ∈ ns)) c), I.laid (t' := tk) k (Nat.le_refl _) (setO_new R), rfl, q _ c c1 c2 (I.hok.fresh (Nat.le_refl _))⟩
  rcases hl with hl | hl
  · obtain ⟨its, rv, pl, _⟩ := I.list hl
    exact set_of_list ns (I.ok.hd hc) pl.isList (by simpa using ints_of_vals rv) hb fun h' tk c R _ k => fin h' tk c R k
  · obtain ⟨its, rv, pl, _⟩ := I.tuple hl
    exact call_set_tupI ns (I.ok.hd hc) (show s.heap.IsTuple l its.toArray from pl) (by simpa using ints_of_vals rv) hb fun h' tk c R _ k => fin h' tk c R k
end
/-! ### spots whose hands show to the left -/
def leftD (d : PyData) : Bool := withinD d (some (-1000000)) (some 1000000)
def spotD (d : PyData) : Int := match d with
  | .int i => i
  | _ => 0
def leftsD (d : PyData) : Bool := match itemsD d with
  | some xs => decide (xs.length ≤ 400) && (xs.all leftD && decide ((xs.map spotD).Nodup))
  | none => false
theorem leftD_int {d : PyData} (h : leftD d = true) : d = .int (spotD d) ∧ -1000000 ≤ spotD d ∧ spotD d ≤ 1000000 := by
  cases d with
  | int i =>
    simp [leftD, withinD, lowD, highD] at h
    exact ⟨rfl, h.1, h.2⟩
  | _ => simp [leftD, withinD] at h
def spAreLefts : Sp := fun vs H Q _ => ∃ (r : Addr) (v : V) (d : PyData), vs = [v] ∧ Dr r H v d ∧ lenOk d ∧ ∀ H', Same H H' → Q (.bl (leftsD d)) H'
/-- a list or a tuple of unlike spots -/
structure LfS (r : Addr) (H : Hp) (v : V) (ks : List Int) : Prop where
  ex : ∃ a, v = .ref a ∧ a ≠ r ∧ (H a = some (.lst (ks.map V.int)) ∨ TupQ H a (ks.map V.int))
  few : ks.length ≤ 400
  nd : ks.Nodup
  ok : ∀ k ∈ ks, -1000000 ≤ k ∧ k ≤ 1000000
theorem LfS.gr {r : Addr} {H H' : Hp} {v : V} {ks : List Int} (h : LfS r H v ks) (g : Gr r H H') : LfS r H' v ks := by
  obtain ⟨a, e, n, ea⟩ := h.ex
  exact ⟨⟨a, e, n, seqTo ea fun u => g.all _ u n⟩, h.few, h.nd, h.ok⟩
theorem LfS.same {r : Addr} {H H' : Hp} {v : V} {ks : List Int} (h : LfS r H v ks) (s : Same H H') : LfS r H' v ks := h.gr (Gr.same s)
theorem drAll_ints {r : Addr} {H : Hp} : ∀ ks : List Int, DrAll r H (ks.map V.int) (ks.map PyData.int)
  | [] => .nil
  | k :: ks => .cons (.int k) (drAll_ints ks)
theorem LfS.dr {r : Addr} {H : Hp} {v : V} {ks : List Int} (h : LfS r H v ks) : ∃ d, Dr r H v d ∧ lenOk d ∧ leftsD d = true ∧ itemsD d = some (ks.map PyData.int) := by
  obtain ⟨a, rfl, n, ea⟩ := h.ex
  have key : ∀ d, itemsD d = some (ks.map PyData.int) → lenOk d ∧ leftsD d = true := fun d e => by
    have := h.few
    refine ⟨fun xs e2 => ?_, ?_⟩
    · rw [e] at e2
      cases e2
      rw [List.length_map]
      omega
    · unfold leftsD
      rw [e]
      simp only [List.length_map, Bool.and_eq_true, decide_eq_true_eq, List.all_eq_true]
      refine ⟨h.few, fun x hx => ?_, ?_⟩
      · obtain ⟨k, hk, rfl⟩ := List.mem_map.mp hx
        have := h.ok k hk
        simp [leftD, withinD, lowD, highD, this]
      · rw [List.map_map, show (spotD ∘ PyData.int) = id from rfl, List.map_id]
        exact h.nd
  rcases ea with e | e
  · obtain ⟨k1, k2⟩ := key (.list (ks.map PyData.int)) rfl
    exact ⟨_, .lst n e (drAll_ints ks), k1, k2, rfl⟩
  · obtain ⟨k1, k2⟩ := key (.tuple (ks.map PyData.int)) rfl
    exact ⟨_, .tup n e (drAll_ints ks), k1, k2, rfl⟩
theorem drAll_lefts {r : Addr} {H : Hp} : ∀ {xs : List V} {ds : List PyData}, DrAll r H xs ds → ds.all leftD = true → xs = (ds.map spotD).map V.int
  | _, _, .nil, _ => rfl
  | _, _, .cons (d := d) h t, a => by
    rw [List.all_cons, Bool.and_eq_true] at a
    obtain ⟨e, _⟩ := leftD_int a.1
    have := drAll_lefts t a.2
    rw [List.map_cons, List.map_cons, ← this]
    rw [e] at h
    cases h
    rfl
def spNeedLefts : Sp := fun vs H Q _ => ∃ (r : Addr) (v : V) (ks : List Int), vs = [v] ∧ LfS r H v ks ∧ ∀ H', Same H H' → Q .non H'
def spNeedLeftsX (C : Addr) : Sp := fun vs H Q E => ∃ (r : Addr) (v : V) (d : PyData), vs = [v] ∧ Dr r H v d ∧ lenOk d ∧ (leftsD d = true → ∀ H', Same H H' → Q .non H') ∧ (leftsD d = false → Outs E C "lefts" H)
end Nd

namespace Nd
open PySem PySem.Spec PyProof.Rows L2 LamX
/-! ### a list of pairs, sorted -/
def keyAt (H : Hp) (v : V) : Int × Int := match v with
  | .ref t => match H t with
    | some (.tup [.int a, .int b]) => (a, b)
    | _ => (0, 0)
  | _ => (0, 0)
theorem keyAt_of {H : Hp} {t : Addr} {p : Int × Int} (e : H t = some (.tup [.int p.1, .int p.2])) : keyAt H (.ref t) = p := by simp [keyAt, e]
theorem pairs_keys {H0 H : Hp} : ∀ {ts : List Addr} {ps : List (Int × Int)}, Paired (PrI H0 H) ts ps → ps = ts.map fun t => keyAt H (.ref t)
  | _, _, .nil => rfl
  | _, _, .cons h t => by rw [List.map_cons, ← pairs_keys t, keyAt_of h.2]
theorem pairs_of_keys {H0 H : Hp} : ∀ {ts : List Addr}, (∀ t ∈ ts, H0 t = none ∧ ∃ p : Int × Int, H t = some (.tup [.int p.1, .int p.2])) → Paired (PrI H0 H) ts (ts.map fun t => keyAt H (.ref t))
  | [], _ => .nil
  | t :: ts, h => by
    obtain ⟨n, p, e⟩ := h t List.mem_cons_self
    refine .cons ⟨n, ?_⟩ (pairs_of_keys fun x hx => h x (List.mem_cons_of_mem _ hx))
    show H t = some (.tup [.int (keyAt H (.ref t)).1, .int (keyAt H (.ref t)).2])
    rw [keyAt_of e]
    exact e
theorem pairs_memL {α β : Type} {F : α → β → Prop} : ∀ {l : List α} {m : List β} {x : α}, Paired F l m → x ∈ l → ∃ y, y ∈ m ∧ F x y
  | _, _, _, .cons h t, hx => by
    rcases List.mem_cons.mp hx with rfl | hx
    · exact ⟨_, List.mem_cons_self, h⟩
    · obtain ⟨y, hy, f⟩ := pairs_memL t hx
      exact ⟨y, List.mem_cons_of_mem _ hy, f⟩
theorem k_sortedPO {K : PySem.W.Frag} {a : Addr} {ts : List Addr} {ps : List (Int × Int)} {H0 H : Hp} {Q : VK} (ea : H a = some (.lst (ts.map V.ref))) (hp : Paired (PrI H0 H) ts ps) (nd : (ps.map (·.1)).Nodup)
    (q : ∀ p ts' ps', H p = none → ps'.Perm ps → ps'.Pairwise (fun a b : Int × Int => a.1 < b.1) → Paired (PrI H0 H) ts' ps' → Q (.ref p) (upd H p (.lst (ts'.map V.ref)))) : rSortedPO K [.ref a] H Q := by
  refine ⟨a, _, keyAt H, rfl, .inl (.inl ea), fun x hx => ?_, fun ys p srt stb np => ?_⟩
  · obtain ⟨t, ht, rfl⟩ := List.mem_map.mp hx
    obtain ⟨y, _, h⟩ := pairs_memL hp ht
    refine ⟨t, rfl, ?_⟩
    rw [keyAt_of h.2]
    exact h.2
  · obtain ⟨ts', rfl⟩ : ∃ ts' : List Addr, ys = ts'.map V.ref := by
      refine ⟨ys.map fun v => match v with | .ref t => t | _ => 0, ?_⟩
      rw [List.map_map]
      conv => lhs; rw [← List.map_id ys]
      refine List.map_congr_left fun y hy => ?_
      obtain ⟨t, _, rfl⟩ := List.mem_map.mp (stb.perm.mem_iff.mp hy)
      rfl
    have ht : ∀ t ∈ ts', t ∈ ts := fun t h => by
      obtain ⟨t2, h2, e⟩ := List.mem_map.mp (stb.perm.mem_iff.mp (List.mem_map.mpr ⟨t, h, rfl⟩))
      cases e
      exact h2
    have hpr : Paired (PrI H0 H) ts' (ts'.map fun t => keyAt H (.ref t)) := pairs_of_keys fun t h => by
      obtain ⟨y, _, f⟩ := pairs_memL hp (ht t h)
      exact ⟨f.1, y, f.2⟩
    have perm : (ts'.map fun t => keyAt H (.ref t)).Perm ps := by
      rw [pairs_keys hp]
      have := stb.perm.map (keyAt H)
      rw [List.map_map, List.map_map] at this
      exact this
    refine q p ts' _ np perm ?_ hpr
    have srt2 : (ts'.map fun t => keyAt H (.ref t)).Pairwise fun x y : Int × Int => SrtO.lexB y x = false := by
      refine List.pairwise_map.mpr ?_
      exact (List.pairwise_map.mp srt)
    have nd2 : ((ts'.map fun t => keyAt H (.ref t)).map (·.1)).Nodup := (perm.map _).nodup_iff.mpr nd
    have nd3 := List.pairwise_map.mp nd2
    refine (srt2.and nd3).imp fun h => ?_
    have := SrtO.lexB_no.mp h.1
    have := h.2
    omega
/-! ### a Line -/
def lnFs (tick : Int) (ph pl : Addr) : List (Str × V) := [("tick", .int tick), ("heaps", .ref ph), ("lefts", .ref pl)]
/-- the object at o: a line at a tick, its heaps in their order, the spots whose hands show to the left in theirs -/
structure LnO (CL : Addr) (H : Hp) (o : Addr) (tick : Int) (hs : List (Int × Int)) (ls : List Int) : Prop where
  ex : ∃ (dx ph pl : Addr) (ts : List Addr), H o = some (.ins CL dx (lnFs tick ph pl)) ∧ H ph = some (.tup (ts.map V.ref)) ∧ Paired (fun t p => H t = some (.tup [.int p.1, .int p.2])) ts hs ∧ H pl = some (.tup (ls.map V.int))
  asc : Asc hs
  few : hs.length ≤ 2500000
  lsr : ls.Pairwise (· < ·)
  lfew : ls.length ≤ 3000000
/-- what of the text the class Line has -/
structure LnC (K : PySem.W.Frag) (CL : Addr) : Prop where
  cls : Cls K CL
  nt : NoAttr K CL "tick"
  nh : NoAttr K CL "heaps"
  nl : NoAttr K CL "lefts"
theorem LnO.same {CL : Addr} {H H' : Hp} {o : Addr} {tick : Int} {hs : List (Int × Int)} {ls : List Int} (h : LnO CL H o tick hs ls) (s : Same H H') : LnO CL H' o tick hs ls := by
  obtain ⟨dx, ph, pl, ts, e1, e7, e8, e9⟩ := h.ex
  exact ⟨⟨dx, ph, pl, ts, s _ _ e1, s _ _ e7, pairs_mono (fun _ _ h => s _ _ h) e8, s _ _ e9⟩, h.asc, h.few, h.lsr, h.lfew⟩
/-- heaps in their order, of any start -/
theorem asc_of {ps : List (Int × Int)} {c : Int} (h : ps.Pairwise fun a b : Int × Int => a.1 < b.1) (hp : ∀ p ∈ ps, 1 ≤ p.2) (hc : ∀ p ∈ ps, p.1 % 2 = c) : Asc ps :=
  ⟨List.Pairwise.imp_of_mem (fun {a b} ha hb hab => by
    have h1 := hc a ha
    have h2 := hc b hb
    omega) h, hp, c, hc⟩
def srtH (hs : List (Int × Int)) : List (Int × Int) := hs.mergeSort fun a b => decide (a.1 ≤ b.1)
theorem Hs.but {d : Addr} {H H' : Hp} {v : V} {hs : List (Int × Int)} (h : Hs d H v hs) (b : But d H H') : Hs d H' v hs := by
  obtain ⟨a, xs, e, n, ea, hp⟩ := h.ex
  exact ⟨⟨a, xs, e, n, seqTo ea fun u => b _ u n, pairs_mono (fun _ _ h => PrA.but h b) hp⟩⟩
theorem LfS.but {d : Addr} {H H' : Hp} {v : V} {ks : List Int} (h : LfS d H v ks) (b : But d H H') : LfS d H' v ks := by
  obtain ⟨a, e, n, ea⟩ := h.ex
  exact ⟨⟨a, e, n, seqTo ea fun u => b _ u n⟩, h.few, h.nd, h.ok⟩
/-- what is new is none of what was -/
theorem PrA.off {r x : Addr} {H : Hp} {v : V} {p : Int × Int} (h : PrA r H v p) (nx : H x = none) : PrA x H v p := by
  obtain ⟨a, e, n, h⟩ := h
  exact ⟨a, e, fun z => trNo h (by rw [z]; exact nx), h⟩
theorem Hs.off {r x : Addr} {H : Hp} {v : V} {hs : List (Int × Int)} (h : Hs r H v hs) (nx : H x = none) : Hs x H v hs := by
  obtain ⟨a, xs, e, n, ea, hp⟩ := h.ex
  exact ⟨⟨a, xs, e, fun z => seqNo ea (by rw [z]; exact nx), ea, pairs_mono (fun _ _ h => PrA.off h nx) hp⟩⟩
theorem LfS.off {r x : Addr} {H : Hp} {v : V} {ks : List Int} (h : LfS r H v ks) (nx : H x = none) : LfS x H v ks := by
  obtain ⟨a, e, n, ea⟩ := h.ex
  exact ⟨⟨a, e, fun z => seqNo ea (by rw [z]; exact nx), ea⟩, h.few, h.nd, h.ok⟩
/-- a Line of a start -/
def spLnInit (CL : Addr) : Sp := fun vs H Q _ => ∃ (o dx : Addr) (v x : V) (hs : List (Int × Int)) (ks : List Int), vs = [.ref o, v, x] ∧ H o = some (.ins CL dx []) ∧ Hs o H v hs ∧ OkHs hs ∧ LfS o H x ks ∧
  ∀ H' hs' ls, But o H H' → hs'.Perm hs → Asc hs' → ls.Perm ks → LnO CL H' o 0 hs' ls → Q .non H'
theorem k_mkLine {CL o dx : Addr} {v x : V} {hs : List (Int × Int)} {ks : List Int} {r : Addr} {H : Hp} {Q : Hp → Prop} {E : XK} (hv : Hs r H v hs) (ok : OkHs hs) (hx : LfS r H x ks) (no : H o = none) (ndx : H dx = none) (ne : dx ≠ o)
    (k : ∀ H' hs' ls, Same H H' → hs'.Perm hs → Asc hs' → ls.Perm ks → LnO CL H' o 0 hs' ls → Q H') : spLnInit CL (V.ref o :: ([v, x] ++ [])) (upd (upd H dx (.own o)) o (.ins CL dx [])) (fun v H2 => v = .non ∧ Q H2) E := by
  have s1 : Same H (upd (upd H dx (.own o)) o (.ins CL dx [])) := (Same.new ndx).trans (Same.new (by rw [upd_ne (Ne.symm ne)]; exact no))
  have b1 : But o H (upd (upd H dx (.own o)) o (.ins CL dx [])) := But.of s1
  refine ⟨o, dx, v, x, hs, ks, rfl, upd_same, (hv.off no).but b1, ok, (hx.off no).but b1, fun H' hs' ls b h1 h2 h3 h4 => ⟨rfl, k H' hs' ls (fun c u e => ?_) h1 h2 h3 h4⟩⟩
  exact b c u (ne_of_none e no) (s1 c u e)
theorem pairs_monoM {α β : Type} {F G : α → β → Prop} : ∀ {l : List α} {m : List β}, (∀ a b, a ∈ l → F a b → G a b) → Paired F l m → Paired G l m
  | _, _, _, .nil => .nil
  | _, _, h, .cons a t => .cons (h _ _ List.mem_cons_self a) (pairs_monoM (fun a b ha => h a b (List.mem_cons_of_mem _ ha)) t)
/-! ### ticks -/
/-- heaps and hands behind a tick -/
def stp (s : List (Int × Int) × List Int) : List (Int × Int) × List Int := (sentF (fun x => decide (x ∈ s.2)) s.1, turnsK s.2 s.1)
def its : Nat → List (Int × Int) × List Int → List (Int × Int) × List Int
  | 0, s => s
  | n + 1, s => stp (its n s)
/-- all spots within B -/
structure InB (B : Int) (s : List (Int × Int) × List Int) : Prop where
  asc : Asc s.1
  nd : s.2.Nodup
  hb : ∀ p ∈ s.1, -B ≤ p.1 ∧ p.1 ≤ B
  kb : ∀ k ∈ s.2, -B ≤ k ∧ k ≤ B
theorem mrg_range {lo hi : Int} : ∀ (ts : List (Int × Int × Int)) (wa w : Int), (∀ t ∈ ts, lo ≤ t.1 - 1 ∧ t.1 + 1 ≤ hi) → (w ≠ 0 → lo ≤ wa ∧ wa ≤ hi) → ∀ p ∈ mrg ts wa w, lo ≤ p.1 ∧ p.1 ≤ hi
  | [], wa, w, _, hw, p, hp => by
    rw [mrg] at hp
    obtain ⟨e1, e2, e3⟩ := pc_mem hp
    have := hw e3
    omega
  | (s, l, r) :: t, wa, w, h, hw, p, hp => by
    have hs := h _ List.mem_cons_self
    have hs1 : lo ≤ s - 1 := hs.1
    have hs2 : s + 1 ≤ hi := hs.2
    have ih := mrg_range t (s + 1) r (fun x hx => h x (List.mem_cons_of_mem _ hx)) (fun _ => by omega)
    rw [mrg] at hp
    split at hp
    · rcases List.mem_append.mp hp with hp | hp
      · have := (pc_mem hp).1
        omega
      · exact ih p hp
    · rcases List.mem_append.mp hp with hp | hp
      · obtain ⟨e1, e2, e3⟩ := pc_mem hp
        have := hw e3
        omega
      · rcases List.mem_append.mp hp with hp | hp
        · have := (pc_mem hp).1
          omega
        · exact ih p hp
theorem turnsK_range {lo hi : Int} : ∀ {hs : List (Int × Int)} {ks : List Int}, (∀ p ∈ hs, lo ≤ p.1 ∧ p.1 ≤ hi) → (∀ k ∈ ks, lo ≤ k ∧ k ≤ hi) → ∀ k ∈ turnsK ks hs, lo ≤ k ∧ k ≤ hi
  | [], _, _, hk => hk
  | p :: hs, ks, hh, hk => turnsK_range (hs := hs) (ks := turnK ks p) (fun q hq => hh q (List.mem_cons_of_mem _ hq)) fun k h => by
    have hp := hh p List.mem_cons_self
    by_cases e : k = p.1
    · omega
    · exact hk k ((turnK_other e).mp h)
theorem InB.stp {B : Int} {s : List (Int × Int) × List Int} (h : InB B s) : InB (B + 1) (stp s) := by
  refine ⟨h.asc.sent, turnsK_nodup h.nd, fun p hp => ?_, fun k hk => ?_⟩
  · refine mrg_range (lo := -(B + 1)) (hi := B + 1) _ 0 0 (fun t ht => ?_) (fun z => absurd rfl z) p hp
    obtain ⟨q, hq, rfl⟩ := List.mem_map.mp ht
    have := h.hb q hq
    show -(B + 1) ≤ q.1 - 1 ∧ q.1 + 1 ≤ B + 1
    omega
  · have := turnsK_range h.hb h.kb k hk
    omega
theorem InB.its {B : Int} {s : List (Int × Int) × List Int} (h : InB B s) : ∀ n : Nat, InB (B + n) (its n s)
  | 0 => by simpa [Nd.its] using h
  | n + 1 => by
    have := (InB.its h n).stp
    rwa [show B + (n : Int) + 1 = B + ((n + 1 : Nat) : Int) by omega] at this
theorem gap_len {lo hi : Int} : ∀ {l : List Int}, l.Pairwise (· < ·) → (∀ x ∈ l, lo ≤ x ∧ x ≤ hi) → (l.length : Int) ≤ max 0 (hi - lo + 1)
  | [], _, _ => by simp; omega
  | x :: l, h, hb => by
    obtain ⟨h1, h2⟩ := List.pairwise_cons.mp h
    have hx := hb x List.mem_cons_self
    have := gap_len (lo := x + 1) (hi := hi) h2 fun y hy => by
      have := h1 y hy
      have := hb y (List.mem_cons_of_mem _ hy)
      omega
    rw [List.length_cons]
    omega
theorem InB.hlen {B : Nat} {s : List (Int × Int) × List Int} (h : InB (B : Int) s) : s.1.length ≤ 2 * B + 1 := by
  have := gap_len (l := s.1.map (·.1)) (lo := -(B : Int)) (hi := B) (List.pairwise_map.mpr (h.asc.gap.imp fun h => by omega)) fun x hx => by
    obtain ⟨p, hp, rfl⟩ := List.mem_map.mp hx
    exact h.hb p hp
  rw [List.length_map] at this
  omega
theorem nodup_range {lo : Int} {n : Nat} {l : List Int} (h : l.Nodup) (hb : ∀ x ∈ l, lo ≤ x ∧ x < lo + n) : l.length ≤ n := by
  have := nodup_len (l := l) (m := (List.range n).map fun i : Nat => lo + (i : Int)) h fun x hx => by
    have := hb x hx
    exact List.mem_map.mpr ⟨(x - lo).toNat, List.mem_range.mpr (by omega), by omega⟩
  rwa [List.length_map, List.length_range] at this
theorem InB.klen {B : Nat} {s : List (Int × Int) × List Int} (h : InB (B : Int) s) : s.2.length ≤ 2 * B + 1 :=
  nodup_range (lo := -(B : Int)) h.nd fun x hx => by have := h.kb x hx; omega
/-! ### {spot: True for spot in a tuple} -/
def DcIn (J : It) (g : TG) (tt : TT) (tk tv : TE) (vs : List Nat) (σ : L2.St) (H1 : Hp) (Q : VK) : Prop := ∀ D, H1 D = none → ∃ W : Nat → Nat → Hp → Prop, (∃ m, W 0 m (upd H1 D (.dK []))) ∧ ∀ i m H, W i m H →
  (J.stop i H ∧ Q (.ref D) H) ∨ (J.go i H ∧ ∃ Nx : Hp → Prop, (∀ H', Nx H' → ∃ m', m' < m ∧ W (i + 1) m' H') ∧ ∀ x H', J.yld i H x H' → g x (wipe σ vs) H' fun σ2 H2 => wipe σ2 vs = wipe σ vs ∧ tt σ2 H2 fun b H3 =>
    if b = true then tk σ2 H3 fun y H4 => tv σ2 H4 fun z H5 => ∃ kvs k, y = kV k ∧ H5 D = some (.dK kvs) ∧ kvs.length < sizeLine ∧ Nx (upd H5 D (.dK (putK kvs k z))) else Nx H3)
theorem k_dc {wi : TI} {g : TG} {tt : TT} {tk tv : TE} {vs : List Nat} {σ : L2.St} {H : Hp} {Q : VK} (h : wi σ H fun J H1 => DcIn J g tt tk tv vs σ H1 Q) : tDc wi g tt tk tv vs σ H Q := h
theorem dcIn_hands {K : PySem.W.Frag} {a : Addr} {ks : List Int} {j : Nat} {vs : List Nat} {σ : L2.St} {H1 : Hp} {Q : VK} (hx : H1 a = some (.tup (ks.map V.int))) (nd : ks.Nodup) (hz : ks.length ≤ 10000000)
    (hw : ∀ x, wipe ((wipe σ vs).set j (some x)) vs = wipe σ vs) (hj : ∀ x, ((wipe σ vs).set j (some x))[j]? = some (some x))
    (fin : ∀ d H', H1 d = none → Same H1 H' → H' d = some (.dK (ks.map entB)) → Q (.ref d) H') : DcIn (Itt K a) (gName j) tYes (tVar j) (tC (.bl true)) vs σ H1 Q := fun D hD =>
  dc_tup (xs := ks.map V.int) (fun i H => Same H1 H ∧ H D = some (.dK ((ks.take i).map entB))) ⟨Same.new hD, upd_same⟩ (fun i H _ p => .inl (.inl (p.1 _ _ hx)))
    (fun i x H hm p => by
      obtain ⟨s1, eD⟩ := p
      rw [List.getElem?_map] at hm
      obtain ⟨k, hk, rfl⟩ := Option.map_eq_some_iff.mp hm
      refine k_gname ⟨hw _, k_tYes ?_⟩
      rw [if_pos rfl]
      refine k_var (hj _) ?_
      refine k_c ?_
      have hi : i < ks.length := (List.getElem?_eq_some_iff.mp hk).1
      have hnot : k ∉ ks.take i := fun h => by
        obtain ⟨j2, hj2, e2⟩ := List.mem_take_iff_getElem.mp h
        have := List.pairwise_iff_getElem.mp nd j2 i (by omega) hi (by omega)
        rw [(List.getElem?_eq_some_iff.mp hk).2] at this
        exact this e2
      refine ⟨_, .inl k, rfl, eD, ?_, fun c u e => ?_, ?_⟩
      · rw [List.length_map, List.length_take, sizeLine_eq]
        omega
      · rw [upd_ne (ne_of_none e hD)]
        exact s1 _ _ e
      · rw [upd_same, putK_entB hnot, List.take_succ, hk]
        rfl)
    (fun H p => by
      obtain ⟨s1, eD⟩ := p
      rw [List.length_map, List.take_length] at eD
      exact fin D H hD s1 eD)
/-- so many ticks more -/
def spForward (CL : Addr) : Sp := fun vs H Q _ => ∃ (o : Addr) (m B : Nat) (tick : Int) (hs : List (Int × Int)) (ls : List Int), vs = [.ref o, .int (m : Int)] ∧ m ≤ 200 ∧ LnO CL H o tick hs ls ∧ InB (B : Int) (hs, ls) ∧ B + m ≤ 1200000 ∧
  ∀ H' ls', But o H H' → LnO CL H' o (tick + m) (its m (hs, ls)).1 ls' → ls'.Perm (its m (hs, ls)).2 → Q (.int (tick + m)) H'
/-! ### where a spot's heap would stand -/
def spFrom : Sp := fun vs H Q _ => ∃ (ph pw : Addr) (ts : List Addr) (hs : List (Int × Int)) (s : Int), vs = [.ref ph, .ref pw] ∧ H ph = some (.tup (ts.map V.ref)) ∧ Paired (fun t p => H t = some (.tup [.int p.1, .int p.2])) ts hs ∧ H pw = some (.tup [.int s, .int 0]) ∧ Asc hs ∧ hs.length ≤ 3000000 ∧
  ∀ n : Nat, n ≤ hs.length → (∀ i p, hs[i]? = some p → (i < n ↔ p.1 < s)) → Q (.int (n : Int)) H
def spHeapAt (CL : Addr) : Sp := fun vs H Q _ => ∃ (o : Addr) (tick : Int) (hs : List (Int × Int)) (ls : List Int) (s : Int), vs = [.ref o, .int s] ∧ LnO CL H o tick hs ls ∧ ∀ H', Same H H' → Q (.int (Nd.cnt hs 0 s)) H'
theorem asc_lt {hs : List (Int × Int)} (h : Asc hs) {i j : Nat} {p q : Int × Int} (hi : hs[i]? = some p) (hj : hs[j]? = some q) (hij : i < j) : p.1 < q.1 := by
  obtain ⟨h1, e1⟩ := List.getElem?_eq_some_iff.mp hi
  obtain ⟨h2, e2⟩ := List.getElem?_eq_some_iff.mp hj
  have := List.pairwise_iff_getElem.mp h.gap i j h1 h2 hij
  rw [e1, e2] at this
  omega
theorem asc_nodup {hs : List (Int × Int)} (h : Asc hs) : (hs.map (·.1)).Nodup := List.pairwise_map.mpr (h.gap.imp fun h => by omega)
theorem first_at {hs : List (Int × Int)} (h : Asc hs) {n : Nat} {s : Int} (hn : ∀ i p, hs[i]? = some p → (i < n ↔ p.1 < s)) : (∀ p, hs[n]? = some p → p.1 = s → Nd.cnt hs 0 s = p.2) ∧ ((∀ p, hs[n]? = some p → p.1 ≠ s) → Nd.cnt hs 0 s = 0) := by
  refine ⟨fun p hp e => ?_, fun hp => cnt_zero_off fun hm => ?_⟩
  · rw [← e]
    exact cnt_zero_at (asc_nodup h) (List.mem_of_getElem? hp)
  · obtain ⟨q, hq, e⟩ := List.mem_map.mp hm
    obtain ⟨i, hi⟩ := List.mem_iff_getElem?.mp hq
    have h1 := hn i q hi
    have hin : i ≠ n := fun z => hp q (z ▸ hi) e
    have hge : n < i := by omega
    obtain ⟨p, hpn⟩ : ∃ p, hs[n]? = some p := ⟨hs[n]'(by have := (List.getElem?_eq_some_iff.mp hi).1; omega), List.getElem?_eq_getElem _⟩
    have h2 := hn n p hpn
    have h3 := asc_lt h hpn hi hge
    omega
def spAdvance (CL : Addr) : Sp := fun vs H Q _ => ∃ (o : Addr) (B : Nat) (tick : Int) (hs : List (Int × Int)) (ls : List Int), vs = [.ref o] ∧ LnO CL H o tick hs ls ∧ InB (B : Int) (hs, ls) ∧ B + 1 ≤ 1200000 ∧
  ∀ H' ls', But o H H' → LnO CL H' o (tick + 1) (its 1 (hs, ls)).1 ls' → ls'.Perm (its 1 (hs, ls)).2 → Q (.int (tick + 1)) H'
/-! ### a line behind so many ticks, and how far a heap is from its mean -/
theorem its_total (s : List (Int × Int) × List Int) : ∀ n : Nat, (((its n s).1).map (·.2)).sum = (s.1.map (·.2)).sum
  | 0 => rfl
  | n + 1 => (sent_total _ _).trans (its_total s n)
theorem cnt_le_total {k : Int} : ∀ {hs : List (Int × Int)}, (∀ p ∈ hs, 1 ≤ p.2) → Nd.cnt hs 0 k ≤ (hs.map (·.2)).sum
  | [], _ => by rw [cnt_nil]; simp
  | p :: hs, h => by
    have ih := cnt_le_total (k := k) (hs := hs) fun q hq => h q (List.mem_cons_of_mem _ hq)
    have hp := h p List.mem_cons_self
    rw [cnt_cons, W, List.map_cons, List.sum_cons]
    split <;> simp <;> omega
theorem okHs_total {hs : List (Int × Int)} (o : OkHs hs) : (hs.map (·.2)).sum ≤ 60 * 10 ^ 60 := by
  have : ∀ l : List (Int × Int), (∀ p ∈ l, p.2 ≤ 10 ^ 60) → (l.map (·.2)).sum ≤ l.length * 10 ^ 60 := fun l => by
    induction l with
    | nil => intro _; simp
    | cons p l ih =>
      intro h
      have h1 := h p List.mem_cons_self
      have h2 := ih fun q hq => h q (List.mem_cons_of_mem _ hq)
      rw [List.map_cons, List.sum_cons, List.length_cons, Int.natCast_add, Int.add_mul]
      omega
  have h1 := this hs fun p hp => (okHeap_of (o.ok p hp)).2.2.2
  have h2 := o.few
  have h3 : (hs.length : Int) * 10 ^ 60 ≤ 60 * 10 ^ 60 := Int.mul_le_mul_of_nonneg_right (by omega) (by decide)
  omega
theorem OkHs.inB {hs hs' : List (Int × Int)} {ks ls : List Int} {r : Addr} {H : Hp} {x : V} (o : OkHs hs) (l : LfS r H x ks) (p1 : hs'.Perm hs) (a : Asc hs') (p2 : ls.Perm ks) : InB ((1000000 : Nat) : Int) (hs', ls) :=
  ⟨a, p2.nodup_iff.mpr l.nd, fun p hp => by have := okHeap_of (o.ok p (p1.mem_iff.mp hp)); omega, fun k hk => by have := l.ok k (p2.mem_iff.mp hk); omega⟩
theorem perm_sumI {l m : List Int} (h : l.Perm m) : l.sum = m.sum := by
  induction h with
  | nil => rfl
  | cons x _ ih => rw [List.sum_cons, List.sum_cons, ih]
  | swap x y l => rw [List.sum_cons, List.sum_cons, List.sum_cons, List.sum_cons]; omega
  | trans _ _ a b => exact a.trans b
def spBehind (CL : Addr) : Sp := fun vs H Q _ => ∃ (r : Addr) (v x : V) (hs : List (Int × Int)) (ks : List Int) (t : Nat), vs = [v, x, .int (t : Int)] ∧ Hs r H v hs ∧ OkHs hs ∧ LfS r H x ks ∧ t ≤ 60 ∧
  ∀ H' o hs' ls ls', Same H H' → H o = none → hs'.Perm hs → Asc hs' → ls.Perm ks → LnO CL H' o (t : Int) (its t (hs', ls)).1 ls' → Q (.ref o) H'
def gapR (hs' : List (Int × Int)) (ls : List Int) (hs : List (Int × Int)) (t : Nat) (spot : Int) : Rat := ((Nd.cnt (its t (hs', ls)).1 0 spot : Int) : Rat) - Rat.divInt (Nd.cnt hs t spot) (2 ^ t)
def spGapAt : Sp := fun vs H Q _ => ∃ (r : Addr) (v x : V) (hs : List (Int × Int)) (ks : List Int) (spot : Int) (t : Nat), vs = [v, x, .int spot, .int (t : Int)] ∧ Hs r H v hs ∧ OkHs hs ∧ LfS r H x ks ∧ t ≤ 60 ∧
  ∀ H' y hs' ls, Same H H' → hs'.Perm hs → Asc hs' → ls.Perm ks → FrN H H' y (gapR hs' ls hs t spot) → Q y H'
end Nd

namespace Nd
open PySem PySem.Spec PyProof.Rows L2 LamX
/-! ### name = {..: ..} on one line, the name a local -/
theorem ps_setDc {X : Cx} {i : Nat} {y : Str} {py : Pos} {kx vx tg iter : Expr} {ifs : List Expr} {scope : Scope} {own : List (Str × Nat)} {pos spos : Pos} {wi : TI} {g : TG} {tt : TT} {tk tv : TE} (hc : X.calm = true) (hN : X.N.Nodup) (hy : X.N[i]? = some y) (hyl : X.env.scope.names.lookup y = some .local)
    (hsw : swapsWith (.DictComp kx vx [⟨tg, iter, ifs, 0⟩] scope pos) (some (.Name y py)) spos.line X.env = pure true) (hi : PI X tg iter wi) (ok : BlkOk X.N X.env.scope scope own)
    (hg : ∀ (s : Shared) (H : Hp) (C : Addr) (cl : List (Str × Addr)) (fp : List Addr), PG (X.blk s H scope (compEnvC scope cl C X.env) fp) tg g) (ht : ∀ (s : Shared) (H : Hp) (C : Addr) (cl : List (Str × Addr)) (fp : List Addr), PTs (X.blk s H scope (compEnvC scope cl C X.env) fp) ifs tt)
    (hk : ∀ (s : Shared) (H : Hp) (C : Addr) (cl : List (Str × Addr)) (fp : List Addr), PE (X.blk s H scope (compEnvC scope cl C X.env) fp) kx tk)
    (he : ∀ (s : Shared) (H : Hp) (C : Addr) (cl : List (Str × Addr)) (fp : List Addr), PE (X.blk s H scope (compEnvC scope cl C X.env) fp) vx tv) (hs : ∀ x, foldedSetIterable iter X.env x = pure x := by intro _; rfl) :
    PS X (.Assign [.Name y py] (.DictComp kx vx [⟨tg, iter, ifs, 0⟩] scope pos) spos) (tAsg (tDc wi g tt tk tv (own.map (·.2))) (gName i)) := by
  refine ⟨fun pins s σ H D I h => ?_⟩
  rw [exec_Assign_Name_used _ _ _ _ hsw]
  refine wpAny_bind (wpAny_standAt (wpAny_bind ?_))
  show wpAny _ X.A (do let _ ← comprehension (.DictComp kx vx [⟨tg, iter, ifs, 0⟩] scope pos) scope X.env (firstIterPos [⟨tg, iter, ifs, 0⟩] pos) newDict false (eval iter X.env) (some (assign (.Name y py) X.env))) _ _ s
  have h : tDc wi g tt tk tv (own.map (·.2)) σ H (fun x H1 => gName i x σ H1 D.nx) := h
  refine wpAny_bind (thn (dc_core (Qf := fun _ s' => SP X pins D .next s') hc hN I hi ok hg ht hk he hs h fun L C s' m H' I' q hn f => ?_) fun _ s' hq => wpAny_pure (wpAny_pure hq))
  show wpAny _ _ (assign (.Name y py) X.env (.ref L)) _ _ _
  refine wpAny_assign_Name (store_ok2 (v := V.ref L) I' hN hy (.inl hyl) rfl (fun s2 I2 ⟨a, sb, ha⟩ => ?_) (.inr hyl))
  obtain ⟨f0, f1, f2, f3, f4, f5⟩ := f
  have haC : C ≠ a := by
    rcases ha with z | z
    · rw [z]; exact f1
    · exact fun e => f4 y a z e.symm
  refine ⟨m, hn.sameBut sb haC, fun h3 sb3 => ?_⟩
  exact ⟨_, H', I2.turned (t' := s2.toks) (fun b o hb e => (sb3.2 b hb).trans e) f0 f1 f3 f4 f5, q⟩
theorem sw_trueD {kx vx : Expr} {gs : List Comprehension} {scope : Scope} {pos py : Pos} {y : Str} {l : Nat} {env : Env} (hk : env.scope.kind = .function) (hy : env.scope.names.lookup y = some .local) (hl : (py.line == pos.line) = true)
    (ha : (scope.names.any fun (n, k) => n == y && (k == .local || k == .cell)) = false) : swapsWith (.DictComp kx vx gs scope pos) (some (.Name y py)) l env = pure true := by
  have ky : env.kindOf y = some .local := hy
  have hb : env.blockKind = .function := by unfold Env.blockKind; rw [hk]; rfl
  unfold swapsWith
  simp only [hb, ky, ha, Expr.pos, hl]
  rfl
end Nd

namespace Nd
open PySem PySem.Spec PyProof.Rows L2
/-! ### a drawn start with its lefts -/
theorem putK_entB_in {ks : List Int} {k : Int} (h : k ∈ ks) : putK (ks.map entB) (.inl k) (.bl true) = ks.map entB := by
  unfold putK
  rw [if_pos (by
    rw [List.any_eq_true]
    exact ⟨entB k, List.mem_map.mpr ⟨k, h, rfl⟩, by simp [entB]⟩)]
  rw [List.map_map]
  refine List.map_congr_left fun j _ => ?_
  show (if (entB j).1 = Sum.inl k then ((entB j).1, V.bl true) else entB j) = entB j
  split <;> rfl
theorem putK_entB_any (ks : List Int) (k : Int) : ∃ qs : List Int, putK (ks.map entB) (.inl k) (.bl true) = qs.map entB ∧ (ks.Nodup → qs.Nodup) ∧ qs.length ≤ ks.length + 1 ∧ ∀ j ∈ qs, j ∈ ks ∨ j = k := by
  by_cases h : k ∈ ks
  · exact ⟨ks, putK_entB_in h, id, by omega, fun j hj => .inl hj⟩
  · refine ⟨ks ++ [k], putK_entB h, fun hn => ?_, by simp, fun j hj => ?_⟩
    · rw [List.nodup_append]
      exact ⟨hn, by simp, fun x hx y hy e => h (by simp at hy; rw [← hy, ← e]; exact hx)⟩
    · rcases List.mem_append.mp hj with hj | hj
      · exact .inl hj
      · exact .inr (by simpa using hj)
def spStartL : Sp := fun vs H Q _ => ∃ (r : Addr) (n : Nat), vs = [.ref r, .int 4] ∧ Rid r n H ∧ n + 60 < 1000000 ∧
  ∀ H' p ph lf hs ks, Gr r H H' → Rid r (n + 60) H' → p ≠ r → H' p = some (.tup [ph, .ref lf]) → HTu r H' ph hs → OkHs hs → hs.length ≤ 4 → H' lf = some (.lst (ks.map V.int)) → LfS r H' (.ref lf) ks → ks.length ≤ 5 → (∀ k ∈ ks, -9 ≤ k ∧ k ≤ 9) → Q (.ref p) H'
end Nd

namespace Nd
open PySem PySem.Spec PyProof.Rows L2
/-! ### a tick in any order of the heaps -/
theorem cnt_mem {qs : List (Int × Int)} (hn : (qs.map (·.1)).Nodup) (hp : ∀ p ∈ qs, 1 ≤ p.2) (k v : Int) : (k, v) ∈ qs ↔ (Nd.cnt qs 0 k = v ∧ 1 ≤ v) := by
  constructor
  · intro h
    exact ⟨cnt_zero_at hn h, hp _ h⟩
  · rintro ⟨h, h1⟩
    by_cases hk : k ∈ qs.map (·.1)
    · obtain ⟨p, hq, rfl⟩ := List.mem_map.mp hk
      have e := cnt_zero_at hn hq
      rw [e] at h
      rw [← h]
      exact hq
    · rw [cnt_zero_off hk] at h
      omega
theorem nodup_of_fst {qs : List (Int × Int)} (hn : (qs.map (·.1)).Nodup) : qs.Nodup := by
  rw [List.Nodup, List.pairwise_map] at hn
  exact hn.imp fun h e => h (by rw [e])
theorem perm_of_cnt {qs rs : List (Int × Int)} (h1 : (qs.map (·.1)).Nodup) (h2 : (rs.map (·.1)).Nodup) (p1 : ∀ p ∈ qs, 1 ≤ p.2) (p2 : ∀ p ∈ rs, 1 ≤ p.2) (h : ∀ k, Nd.cnt qs 0 k = Nd.cnt rs 0 k) : qs.Perm rs :=
  (List.perm_ext_iff_of_nodup (nodup_of_fst h1) (nodup_of_fst h2)).mpr fun ⟨k, v⟩ => by rw [cnt_mem h1 p1, cnt_mem h2 p2, h]
def goesK (L : Int → Bool) (k : Int) (p : Int × Int) : Int := at2 k (p.1 - 1) (sL L p) + at2 k (p.1 + 1) (sR L p)
theorem cnt_sent_perm {hs qs : List (Int × Int)} {L : Int → Bool} (h : qs.Perm hs) (k : Int) : Nd.cnt (sentF L hs) 0 k = (qs.map (goesK L k)).sum := by
  rw [cnt_sent]
  exact (perm_sumI (h.map _)).symm
theorem turnsK_in {s v : Int} : ∀ {hs : List (Int × Int)} {ks : List Int}, (hs.map (·.1)).Nodup → (s, v) ∈ hs → (s ∈ turnsK ks hs ↔ (if v % 2 = 1 then s ∉ ks else s ∈ ks))
  | [], _, _, h => nomatch h
  | p :: hs, ks, hn, h => by
    rw [List.map_cons, List.nodup_cons] at hn
    show s ∈ turnsK (turnK ks p) hs ↔ _
    rcases List.mem_cons.mp h with e | h
    · subst e
      rw [turnsK_off (fun q hq e => hn.1 (by rw [← e]; exact List.mem_map.mpr ⟨q, hq, rfl⟩))]
      exact turnK_self
    · have ne : s ≠ p.1 := fun e => hn.1 (by rw [← e]; exact List.mem_map.mpr ⟨_, h, rfl⟩)
      rw [turnsK_in hn.2 h]
      split
      · rw [not_congr (turnK_other ne)]
      · rw [turnK_other ne]
theorem turnsK_perm {hs qs : List (Int × Int)} {ks ls : List Int} (hn : (hs.map (·.1)).Nodup) (hp : qs.Perm hs) (h : ∀ k, k ∈ ks ↔ k ∈ ls) (s : Int) : s ∈ turnsK ks qs ↔ s ∈ turnsK ls hs := by
  have hn2 : (qs.map (·.1)).Nodup := (hp.map _).nodup_iff.mpr hn
  by_cases hs1 : ∃ v, (s, v) ∈ hs
  · obtain ⟨v, hv⟩ := hs1
    rw [turnsK_in hn hv, turnsK_in hn2 (hp.mem_iff.mpr hv)]
    split
    · rw [not_congr (h s)]
    · exact h s
  · rw [turnsK_off (fun p hq e => hs1 ⟨p.2, by rw [← e]; exact hp.mem_iff.mp hq⟩), turnsK_off (fun p hq e => hs1 ⟨p.2, by rw [← e]; exact hq⟩)]
    exact h s
theorem asc_ex {hs : List (Int × Int)} (ok : OkHs hs) : ∃ hs' : List (Int × Int), hs'.Perm hs ∧ Asc hs' := by
  have hp := List.mergeSort_perm hs fun a b => decide (a.1 ≤ b.1)
  have hsrt := List.pairwise_mergeSort (le := fun a b : Int × Int => decide (a.1 ≤ b.1)) (fun a b c h1 h2 => by simp only [decide_eq_true_eq] at *; omega) (fun a b => by simp only [Bool.or_eq_true, decide_eq_true_eq]; omega) hs
  refine ⟨_, hp, ?_, fun p hq => (okHeap_of (ok.ok p (hp.mem_iff.mp hq))).2.2.1, ?_⟩
  · have hn : (((hs.mergeSort fun a b => decide (a.1 ≤ b.1))).map (·.1)).Nodup := (hp.map _).nodup_iff.mpr ok.nd
    rw [List.Nodup, List.pairwise_map] at hn
    obtain ⟨c, hc⟩ := ok.col
    refine (hsrt.and hn).imp_of_mem fun {a b} ha hb h => ?_
    have h1 := hc a (hp.mem_iff.mp ha)
    have h2 := hc b (hp.mem_iff.mp hb)
    have h3 := of_decide_eq_true h.1
    have h4 := h.2
    omega
  · obtain ⟨c, hc⟩ := ok.col
    exact ⟨c, fun p hq => hc p (hp.mem_iff.mp hq)⟩
theorem its_asc {hs : List (Int × Int)} {ls : List Int} (h : Asc hs) : ∀ n : Nat, Asc (its n (hs, ls)).1
  | 0 => h
  | n + 1 => (its_asc h n).sent
/-- behind n ticks, in any order -/
def Gone (hs : List (Int × Int)) (ks : List Int) (n : Nat) (qs : List (Int × Int)) (kk : List Int) : Prop :=
  ∀ hs' ls, hs'.Perm hs → Asc hs' → ls.Perm ks → qs.Perm (its n (hs', ls)).1 ∧ ∀ k, k ∈ kk ↔ k ∈ (its n (hs', ls)).2
theorem Gone.start {hs : List (Int × Int)} {ks : List Int} : Gone hs ks 0 hs ks := fun _ _ p1 _ p2 => ⟨p1.symm, fun _ => p2.mem_iff.symm⟩
theorem Gone.facts {hs : List (Int × Int)} {ks : List Int} {n : Nat} {qs : List (Int × Int)} {kk : List Int} (ok : OkHs hs) (g : Gone hs ks n qs kk) : (qs.map (·.1)).Nodup ∧ ∀ p ∈ qs, 1 ≤ p.2 := by
  obtain ⟨hs', p1, a⟩ := asc_ex ok
  obtain ⟨h1, _⟩ := g hs' ks p1 a (List.Perm.refl _)
  have a2 := its_asc (ls := ks) a n
  exact ⟨(h1.map _).nodup_iff.mpr (asc_nodup a2), fun p hp => a2.pos p (h1.mem_iff.mp hp)⟩
theorem Gone.total {hs : List (Int × Int)} {ks : List Int} {n : Nat} {qs : List (Int × Int)} {kk : List Int} (ok : OkHs hs) (g : Gone hs ks n qs kk) : (qs.map (·.2)).sum = (hs.map (·.2)).sum := by
  obtain ⟨hs', p1, a⟩ := asc_ex ok
  obtain ⟨h1, _⟩ := g hs' ks p1 a (List.Perm.refl _)
  rw [perm_sumI (h1.map _), its_total]
  exact perm_sumI (p1.map _)
theorem Gone.few {hs : List (Int × Int)} {ks : List Int} {n : Nat} {qs : List (Int × Int)} {kk : List Int} {r : Addr} {H : Hp} {x : V} (ok : OkHs hs) (l : LfS r H x ks) (g : Gone hs ks n qs kk) (hn : n ≤ 200) (hk : kk.Nodup) :
    qs.length ≤ 2000500 ∧ kk.length ≤ 2000500 ∧ (∀ p ∈ qs, -1000200 ≤ p.1 ∧ p.1 ≤ 1000200) ∧ ∀ k ∈ kk, -1000200 ≤ k ∧ k ≤ 1000200 := by
  obtain ⟨hs', p1, a⟩ := asc_ex ok
  obtain ⟨h1, h2⟩ := g hs' ks p1 a (List.Perm.refl _)
  have b := (ok.inB l p1 a (List.Perm.refl _)).its n
  have b2 : InB ((1000000 + n : Nat) : Int) (its n (hs', ks)) := by
    rw [Int.natCast_add]
    exact b
  have hl := b2.hlen
  refine ⟨by rw [h1.length_eq]; omega, ?_, fun p hp => by have := b2.hb p (h1.mem_iff.mp hp); omega, fun k hk => by have := b2.kb k ((h2 k).mp hk); omega⟩
  have := nodup_range (lo := -1000200) (n := 2000401) hk fun k hk => by have := b2.kb k ((h2 k).mp hk); omega
  omega
theorem Gone.step {hs : List (Int × Int)} {ks : List Int} {n : Nat} {qs rs : List (Int × Int)} {kk kk' : List Int} (g : Gone hs ks n qs kk) (h1 : (rs.map (·.1)).Nodup) (h2 : ∀ p ∈ rs, 1 ≤ p.2)
    (h3 : ∀ k, Nd.cnt rs 0 k = (qs.map (goesK (fun x => decide (x ∈ kk)) k)).sum) (h4 : ∀ k, k ∈ kk' ↔ k ∈ turnsK kk qs) : Gone hs ks (n + 1) rs kk' := by
  intro hs' ls p1 a p2
  obtain ⟨g1, g2⟩ := g hs' ls p1 a p2
  have aN := its_asc (ls := ls) a n
  have aN1 := its_asc (ls := ls) a (n + 1)
  have eL : (fun x => decide (x ∈ kk)) = fun x => decide (x ∈ (its n (hs', ls)).2) := funext fun x => decide_eq_decide.mpr (g2 x)
  refine ⟨perm_of_cnt h1 (asc_nodup aN1) h2 aN1.pos fun k => ?_, fun k => ?_⟩
  · rw [h3 k, eL]
    exact (cnt_sent_perm g1 k).symm
  · rw [h4 k]
    exact turnsK_perm (asc_nodup aN) g1 g2 k
theorem Gone.cnt {hs hs' : List (Int × Int)} {ks ls : List Int} {n : Nat} {qs : List (Int × Int)} {kk : List Int} (g : Gone hs ks n qs kk) (p1 : hs'.Perm hs) (a : Asc hs') (p2 : ls.Perm ks) (ok : OkHs hs) (k : Int) : Nd.cnt qs 0 k = Nd.cnt (its n (hs', ls)).1 0 k := by
  obtain ⟨g1, _⟩ := g hs' ls p1 a p2
  obtain ⟨f1, f2⟩ := g.facts ok
  have aN := its_asc (ls := ls) a n
  by_cases hk : 1 ≤ Nd.cnt qs 0 k
  · have := (cnt_mem f1 f2 k _).mpr ⟨rfl, hk⟩
    exact ((cnt_mem (asc_nodup aN) aN.pos k _).mp (g1.mem_iff.mp this)).1.symm
  · by_cases hk2 : 1 ≤ Nd.cnt (its n (hs', ls)).1 0 k
    · have := (cnt_mem (asc_nodup aN) aN.pos k _).mpr ⟨rfl, hk2⟩
      exact ((cnt_mem f1 f2 k _).mp (g1.mem_iff.mpr this)).1
    · have n1 := cnt_nonneg (t := 0) (s := k) f2
      have n2 := cnt_nonneg (t := 0) (s := k) aN.pos
      omega
theorem lcIn_kB {J : It} {G : Hp → Prop} {Y : Nat → Hp → V → Hp → Prop} {ks : List Int} {j : Nat} {tt : TT} {te : TE} {vs : List Nat} {σ : L2.St} {H1 : Hp} {Q : VK} (W : Walk J ks.length G Y) (hY : ∀ m H x H', Y m H x H' → H' = H ∧ ∃ k, ks[m]? = some k ∧ x = .int k) (c : Int → Bool) (hG : ∀ H', Same H1 H' → G H') (hz : ks.length ≤ 3000000)
    (hw : ∀ x, wipe ((wipe σ vs).set j (some x)) vs = wipe σ vs)
    (step : ∀ (k : Int) (H2 : Hp), k ∈ ks → Same H1 H2 → ∀ (QE : VK) (Z : Hp → Prop), (c k = true → ∀ H4 b, Same H2 H4 → H2 b = none → H4 b = some (.tup [.int k, .bl true]) → QE (.ref b) H4) → (c k = false → ∀ H4, Same H2 H4 → Z H4) →
      tt ((wipe σ vs).set j (some (.int k))) H2 fun b H3 => if b = true then te ((wipe σ vs).set j (some (.int k))) H3 QE else Z H3)
    (fin : ∀ (p : Addr) (H' : Hp) (ts : List Addr), H1 p = none → Same H1 H' → H' p = some (.lst (ts.map V.ref)) → Paired (fun t k => H1 t = none ∧ H' t = some (.tup [.int k, .bl true])) ts (ks.filter c) → Q (.ref p) H') :
    LcIn J (gName j) tt te vs σ H1 Q := fun D hD =>
  lc_it W (fun m H => Same H1 H ∧ ∃ ts : List Addr, H D = some (.lst (ts.map V.ref)) ∧ Paired (fun t k => H1 t = none ∧ H t = some (.tup [.int k, .bl true])) ts ((ks.take m).filter c)) ⟨Same.new hD, [], upd_same, .nil⟩ (fun m H _ p => hG _ p.1)
    (fun m x H H' hm p y => by
      obtain ⟨rfl, k, hk, rfl⟩ := hY _ _ _ _ y
      obtain ⟨s1, ts, eD, hp⟩ := p
      refine k_gname ?_
      refine ⟨hw _, ?_⟩
      refine step k _ (List.mem_of_getElem? hk) s1 _ _ (fun hc H4 b s4 nb eb => ?_) (fun hc H4 s4 => ?_)
      · have eD4 := s4 _ _ eD
        refine ⟨_, eD4, ?_, fun c o e => ?_, ts ++ [b], ?_, ?_⟩
        · rw [List.length_map, pairs_len hp]
          exact Nat.lt_of_le_of_lt (List.length_filter_le _ _) (by rw [List.length_take]; exact Nat.lt_of_le_of_lt (Nat.min_le_left _ _) (Nat.lt_of_lt_of_le hm (Nat.le_trans hz (by decide))))
        · rw [upd_ne (ne_of_none e hD)]
          exact s4 _ _ (s1 _ _ e)
        · rw [upd_same, List.map_append]
          rfl
        · have ne : ∀ {c : Addr} {zs : List V}, H4 c = some (.tup zs) → c ≠ D := fun e z => by
            rw [z, eD4] at e
            cases e
          rw [List.take_succ, hk, List.filter_append, Option.toList_some, List.filter_cons, if_pos hc, List.filter_nil]
          exact Paired.snoc (pairs_mono (fun _ _ h => ⟨h.1, (upd_ne (ne (s4 _ _ h.2))).trans (s4 _ _ h.2)⟩) hp) ⟨s1.free nb, (upd_ne (ne eb)).trans eb⟩
      · refine ⟨s1.trans s4, ts, s4 _ _ eD, ?_⟩
        rw [List.take_succ, hk, List.filter_append, Option.toList_some, List.filter_cons, if_neg (by rw [hc]; decide), List.filter_nil, List.append_nil]
        exact pairs_mono (fun _ _ h => ⟨h.1, s4 _ _ h.2⟩) hp)
    (fun H' p => by
      obtain ⟨s1, ts, eD, hp⟩ := p
      rw [List.take_length] at hp
      exact fin D H' ts hD s1 eD hp)
end Nd

namespace Nd
open PySem PySem.Spec PyProof.Rows L2
/-! ### entries of a great dict that are let -/
theorem lcIn_itemsW {K : PySem.W.Frag} {d : Addr} {od : Obj} {kvs : List (Key × V)} {i j : Nat} {tt : TT} {vs : List Nat} {σ : L2.St} {H1 : Hp} {Q : VK} (c : Key × V → Bool) (hd : H1 d = some (.frz od (.dK kvs))) (hz : kvs.length ≤ 10000000)
    (h1 : ∀ x y, (((wipe σ vs).set i (some x)).set j (some y))[i]? = some (some x)) (h2 : ∀ x y, (((wipe σ vs).set i (some x)).set j (some y))[j]? = some (some y)) (hw : ∀ x y, wipe (((wipe σ vs).set i (some x)).set j (some y)) vs = wipe σ vs)
    (step : ∀ kv ∈ kvs, ∀ H2, Same H1 H2 → ∀ QT : Bool → Hp → Prop, (∀ H3, Same H2 H3 → QT (c kv) H3) → tt (((wipe σ vs).set i (some (kV kv.1))).set j (some kv.2)) H2 QT)
    (fin : ∀ p H' ps, H1 p = none → Same H1 H' → H' p = some (.lst (ps.map V.ref)) → Paired (PairAt H') ps (kvs.filter c) → Q (.ref p) H') :
    LcIn (Iti d od kvs) (gAny K 2 (gCons (gName i) (gCons (gName j) gNil))) tt (tTup (tCons (tVar i) (tCons (tVar j) tNil))) vs σ H1 Q := fun D hD =>
  lc_it walk_items (fun n H => Same H1 H ∧ ∃ ps : List Addr, H D = some (.lst (ps.map V.ref)) ∧ Paired (PairAt H) ps ((kvs.take n).filter c) ∧ ∀ p ∈ ps, p ≠ D)
    ⟨Same.new hD, [], upd_same, by rw [List.take_zero]; exact .nil, fun _ h => (nomatch h)⟩ (fun n H _ p => p.1 _ _ hd)
    (fun n x H H' hn p y => by
      obtain ⟨s1, ps, eD, hp, hoff⟩ := p
      obtain ⟨T, a, b, rfl, hT, rfl, ha, hb⟩ := y
      obtain ⟨kv, hkv⟩ : ∃ kv, kvs[n]? = some kv := ⟨kvs[n], by simp [hn]⟩
      simp only [hkv, Option.map_some] at ha hb
      cases ha
      cases hb
      have sT : Same H (upd H T (.tup [kV kv.1, kv.2])) := Same.new hT
      have hl : ps.length ≤ n := by
        rw [pairs_len hp]
        exact Nat.le_trans (List.length_filter_le _ _) (by rw [List.length_take]; omega)
      refine k_gany (.inr (.inl (.inl upd_same))) rfl ?_
      refine k_gcons ?_
      refine k_gname ?_
      refine k_gcons ?_
      refine k_gname ?_
      refine k_gnil ?_
      refine ⟨hw _ _, step kv (List.mem_of_getElem? hkv) _ (s1.trans sT) _ fun H3 s3 => ?_⟩
      have eD3 := s3 _ _ (sT _ _ eD)
      have hp3 : Paired (PairAt H3) ps ((kvs.take n).filter c) := pairs_mono (fun a b h => s3 _ _ (sT _ _ h)) hp
      cases hc : c kv with
      | false =>
        rw [if_neg (by decide)]
        refine ⟨s1.trans (sT.trans s3), ps, eD3, ?_, hoff⟩
        rw [filter_take hkv, hc]
        simpa using hp3
      | true =>
        rw [if_pos rfl]
        refine k_tup (k_cons (k_var (h1 _ _) (k_cons (k_var (h2 _ _) (k_nil ⟨small64 (by simp), fun p hpn => ?_⟩)))))
        have nD : p ≠ D := fun e => by rw [e, eD3] at hpn; cases hpn
        have s4 : Same H3 (upd H3 p (.tup [kV kv.1, kv.2])) := Same.new hpn
        refine ⟨_, s4 _ _ eD3, ?_, fun b o e => ?_, ps ++ [p], ?_, ?_, fun z hz' => ?_⟩
        · rw [List.length_map]
          exact Nat.lt_of_le_of_lt hl (Nat.lt_of_lt_of_le hn (Nat.le_trans hz (by decide)))
        · rw [upd_ne (ne_of_none e hD)]
          exact s4 _ _ (s3 _ _ (sT _ _ (s1 _ _ e)))
        · rw [upd_same, List.map_append]
          rfl
        · rw [filter_take hkv, hc, if_pos rfl]
          have up : ∀ a b, a ≠ D → PairAt H3 a b → PairAt (upd (upd H3 p (.tup [kV kv.1, kv.2])) D (.lst (ps.map V.ref ++ [.ref p]))) a b := fun a b na h => by
            unfold PairAt
            rw [upd_ne na]
            exact s4 _ _ h
          refine Paired.snoc ?_ ?_
          · have : ∀ {l : List Addr} {m : List (Key × V)}, (∀ a ∈ l, a ≠ D) → Paired (PairAt H3) l m → Paired (PairAt (upd (upd H3 p (.tup [kV kv.1, kv.2])) D (.lst (ps.map V.ref ++ [.ref p])))) l m := by
              intro l m hl' h
              induction h with
              | nil => exact .nil
              | cons h t ih => exact .cons (up _ _ (hl' _ List.mem_cons_self) h) (ih fun a ha => hl' a (List.mem_cons_of_mem _ ha))
            exact this hoff hp3
          · unfold PairAt
            rw [upd_ne nD, upd_same]
        · rcases List.mem_append.mp hz' with h | h
          · exact hoff z h
          · rw [List.mem_singleton.mp h]
            exact nD)
    (fun H' p => by
      obtain ⟨s1, ps, eD, hp, _⟩ := p
      rw [List.take_length] at hp
      exact fin D H' ps hD s1 eD hp)
def posE (kv : Key × V) : Bool := match kv.2 with
  | .int v => decide (v > 0)
  | _ => false
/-- the entries above 0, as heaps -/
theorem Dn.posH {l : List (Key × V)} {f : Int → Int} {lo hi : Int} (d : Dn l f lo hi) (h0 : ∀ k, 0 ≤ f k) :
    ∃ rs : List (Int × Int), l.filter posE = rs.map entI ∧ (rs.map (·.1)).Nodup ∧ (∀ p ∈ rs, 1 ≤ p.2) ∧ ∀ k, Nd.cnt rs 0 k = f k := by
  obtain ⟨ks, hks⟩ : ∃ ks, ks = l.map fun kv => keyI kv.1 := ⟨_, rfl⟩
  have hl : l = (ks.map fun k => (k, f k)).map entI := by
    rw [hks, List.map_map, List.map_map]
    conv => lhs; rw [← List.map_id l]
    refine List.map_congr_left fun kv hkv => ?_
    obtain ⟨k, rfl, _⟩ := d.key kv hkv
    rfl
  have hn : ks.Nodup := by
    have := d.nd
    rw [hl, List.map_map, List.map_map] at this
    exact (List.pairwise_map.mp this).imp fun h z => h (by rw [z])
  refine ⟨(ks.filter fun k => decide (f k > 0)).map fun k => (k, f k), ?_, ?_, fun p hp => ?_, fun k => ?_⟩
  · rw [hl, List.map_map, List.map_map, List.filter_map]
    rfl
  · rw [List.map_map]
    exact (show (List.map id (ks.filter fun k => decide (f k > 0))).Nodup by rw [List.map_id]; exact hn.filter _)
  · obtain ⟨k, hk, rfl⟩ := List.mem_map.mp hp
    have := of_decide_eq_true (List.mem_filter.mp hk).2
    show 1 ≤ f k
    omega
  · by_cases hk : k ∈ ks ∧ f k > 0
    · have hm : (k, f k) ∈ (ks.filter fun k => decide (f k > 0)).map fun k => (k, f k) := List.mem_map.mpr ⟨k, List.mem_filter.mpr ⟨hk.1, decide_eq_true hk.2⟩, rfl⟩
      refine cnt_zero_at ?_ hm
      rw [List.map_map]
      exact (show (List.map id (ks.filter fun k => decide (f k > 0))).Nodup by rw [List.map_id]; exact hn.filter _)
    · rw [cnt_zero_off]
      · by_cases h1 : k ∈ ks
        · have := h0 k
          have : ¬ f k > 0 := fun z => hk ⟨h1, z⟩
          omega
        · refine (d.off k ?_).symm
          cases e : valV l (.inl k) with
          | none => rfl
          | some v =>
            refine absurd ?_ h1
            rw [hks]
            exact List.mem_map.mpr ⟨_, valV_mem e, rfl⟩
      · intro hm
        obtain ⟨p, hp, e⟩ := List.mem_map.mp hm
        obtain ⟨k', hk', rfl⟩ := List.mem_map.mp hp
        obtain ⟨h1, h2⟩ := List.mem_filter.mp hk'
        have e : k' = k := e
        subst e
        exact hk ⟨h1, of_decide_eq_true h2⟩
theorem goesK_nonneg {L : Int → Bool} {k : Int} {p : Int × Int} (h : 0 ≤ p.2) : 0 ≤ goesK L k p := by
  unfold goesK at2
  have := sL_nonneg (L := L) h
  have := sR_nonneg (L := L) h
  split <;> split <;> omega
theorem goes_sum_nonneg {L : Int → Bool} {k : Int} : ∀ {qs : List (Int × Int)}, (∀ p ∈ qs, 1 ≤ p.2) → 0 ≤ (qs.map (goesK L k)).sum
  | [], _ => by simp
  | p :: qs, h => by
    rw [List.map_cons, List.sum_cons]
    have h1 := goes_sum_nonneg (L := L) (k := k) (qs := qs) fun q hq => h q (List.mem_cons_of_mem _ hq)
    have h2 := goesK_nonneg (L := L) (k := k) (p := p) (by have := h p List.mem_cons_self; omega)
    omega
end Nd

namespace Nd
open PySem PySem.Spec PyProof.Rows L2
/-! ### gaps, all together -/
theorem cnt_perm {hs qs : List (Int × Int)} (h : hs.Perm qs) (t : Nat) (s : Int) : Nd.cnt hs t s = Nd.cnt qs t s := by
  induction h with
  | nil => rfl
  | cons x _ ih => rw [cnt_cons, cnt_cons, ih]
  | swap x y l => rw [cnt_cons, cnt_cons, cnt_cons, cnt_cons]; omega
  | trans _ _ a b => exact a.trans b
theorem sum_zero {α : Type} {f : α → Int} : ∀ {l : List α}, (∀ x ∈ l, f x = 0) → (l.map f).sum = 0
  | [], _ => rfl
  | x :: l, h => by
    rw [List.map_cons, List.sum_cons, h x List.mem_cons_self, sum_zero fun y hy => h y (List.mem_cons_of_mem _ hy)]
    rfl
theorem its_reach {hs : List (Int × Int)} {ls : List Int} (a : Asc hs) : ∀ (n : Nat) (k : Int), Nd.cnt hs n k = 0 → Nd.cnt (its n (hs, ls)).1 0 k = 0
  | 0, k, h => h
  | n + 1, k, h => by
    have aN := its_asc (ls := ls) a n
    have hpos : ∀ p ∈ hs, 1 ≤ p.2 := a.pos
    rw [cnt_succ] at h
    have n1 := cnt_nonneg (t := n) (s := k + 1) hpos
    have n2 := cnt_nonneg (t := n) (s := k - 1) hpos
    have z1 := its_reach (ls := ls) a n (k + 1) (by omega)
    have z2 := its_reach (ls := ls) a n (k - 1) (by omega)
    show Nd.cnt (sentF _ (its n (hs, ls)).1) 0 k = 0
    rw [cnt_sent]
    refine sum_zero fun p hp => ?_
    have hk := (cnt_zero_at (asc_nodup aN) hp)
    have hp1 := aN.pos p hp
    have e1 : k ≠ p.1 - 1 := fun e => by
      rw [show k + 1 = p.1 by omega, hk] at z1
      omega
    have e2 : k ≠ p.1 + 1 := fun e => by
      rw [show k - 1 = p.1 by omega, hk] at z2
      omega
    unfold at2
    rw [if_neg e1, if_neg e2]
    rfl
theorem sum_filter_sub (f : Int → Int) (c : Int → Bool) (h : ∀ k, c k = false → f k = 0) : ∀ l : List Int, ((l.filter c).map f).sum = (l.map f).sum
  | [] => rfl
  | k :: l => by
    have ih := sum_filter_sub f c h l
    cases e : c k with
    | false => rw [List.filter_cons_of_neg (by simp [e]), ih, List.map_cons, List.sum_cons, h k e, Int.zero_add]
    | true => rw [List.filter_cons_of_pos e, List.map_cons, List.sum_cons, ih, List.map_cons, List.sum_cons]
theorem its_sum {hs hs' : List (Int × Int)} {ls : List Int} {ks : List Int} {r : Addr} {H : Hp} {x : V} {t : Nat} {ys : List Int} (ok : OkHs hs) (hx : LfS r H x ks) (p1 : hs'.Perm hs) (a : Asc hs') (p2 : ls.Perm ks) (ht : t ≤ 60) (sp : Spots (Nd.cnt hs t) ys) :
    (ys.map (Nd.cnt (its t (hs', ls)).1 0)).sum = (hs.map (·.2)).sum := by
  have hI := (ok.inB hx p1 a p2).its t
  have far : ∀ k, Nd.cnt hs t k ≠ 0 → -1000400 ≤ k ∧ k < -1000400 + (2000801 : Nat) := fun k hk => by have := cnt_far ok (by omega) hk; omega
  rw [spots_filter sp (-1000400) 2000801 far, sum_filter_sub, List.map_map]
  · have := cnt_sum (t := 0) (N := 2000801) (lo := -1000400) (hs := (its t (hs', ls)).1) fun p hp => by have := hI.hb p hp; omega
    show ((List.range 2000801).map fun i : Nat => Nd.cnt (its t (hs', ls)).1 0 (-1000400 + (i : Int))).sum = _
    rw [this, its_total, Int.pow_zero, Int.mul_one]
    exact perm_sumI (p1.map _)
  · intro k hk
    refine its_reach a t k ?_
    rw [cnt_perm p1]
    simpa using hk
theorem sum_mulR (f : Int → Int) (c : Int) : ∀ l : List Int, (l.map fun k => f k * c).sum = (l.map f).sum * c
  | [] => by simp
  | k :: l => by
    rw [List.map_cons, List.sum_cons, sum_mulR f c l, List.map_cons, List.sum_cons, Int.add_mul]
theorem sum_sub2 (f g : Int → Int) : ∀ l : List Int, (l.map fun k => f k - g k).sum = (l.map f).sum - (l.map g).sum
  | [] => rfl
  | k :: l => by
    rw [List.map_cons, List.sum_cons, sum_sub2 f g l, List.map_cons, List.sum_cons, List.map_cons, List.sum_cons]
    omega
/-- all gaps of a tick are 0 together -/
theorem gaps_zero {hs hs' : List (Int × Int)} {ls : List Int} {ks : List Int} {r : Addr} {H : Hp} {x : V} {t : Nat} {ys : List Int} (ok : OkHs hs) (hx : LfS r H x ks) (p1 : hs'.Perm hs) (a : Asc hs') (p2 : ls.Perm ks) (ht : t ≤ 60) (sp : Spots (Nd.cnt hs t) ys) :
    (ys.map fun k => Nd.cnt (its t (hs', ls)).1 0 k * 2 ^ t - Nd.cnt hs t k).sum = 0 := by
  rw [sum_sub2 (fun k => Nd.cnt (its t (hs', ls)).1 0 k * 2 ^ t), sum_mulR, its_sum ok hx p1 a p2 ht sp, shares_sum ok (by omega) sp]
  omega
/-- over a dict's entries: a spot and a fraction each -/
theorem lcIn_itM {K : PySem.W.Frag} {d : Addr} {od : Obj} {qs : List (Int × Int)} {i j : Nat} {te : TE} {vs : List Nat} {σ : L2.St} {H1 : Hp} {Q : VK} (f : Int × Int → Int × Rat) (hd : H1 d = some (.frz od (.dK (qs.map entI)))) (hz : qs.length ≤ 10000000)
    (hw : ∀ x y, wipe (((wipe σ vs).set i (some x)).set j (some y)) vs = wipe σ vs)
    (step : ∀ (p : Int × Int) (H2 : Hp), p ∈ qs → Same H1 H2 → ∀ QE : VK, (∀ H4 y, Same H2 H4 → MeanN H2 H4 y (f p) → QE y H4) → te (((wipe σ vs).set i (some (.int p.1))).set j (some (.int p.2))) H2 QE)
    (fin : ∀ (p : Addr) (H' : Hp) (zs : List V), H1 p = none → Same H1 H' → H' p = some (.lst zs) → Paired (MeanN H1 H') zs (qs.map f) → Q (.ref p) H') :
    LcIn (Iti d od (qs.map entI)) (gTup K 2 (gCons (gName i) (gCons (gName j) gNil))) tYes te vs σ H1 Q := fun D hD =>
  lc_it walk_items (fun m H => Same H1 H ∧ ∃ zs : List V, H D = some (.lst zs) ∧ Paired (MeanN H1 H) zs ((qs.take m).map f)) ⟨Same.new hD, [], upd_same, .nil⟩ (fun m H _ p => p.1 _ _ hd)
    (fun m x H H' hm p y => by
      obtain ⟨s1, zs, eD, hp⟩ := p
      obtain ⟨T, a, b, rfl, hT, rfl, ha, hb⟩ := y
      rw [List.length_map] at hm
      obtain ⟨p, hpm⟩ : ∃ p, qs[m]? = some p := ⟨qs[m], by simp [hm]⟩
      simp only [List.getElem?_map, hpm, Option.map_some] at ha hb
      obtain rfl : a = .int p.1 := (Option.some.inj ha).symm
      obtain rfl : b = .int p.2 := (Option.some.inj hb).symm
      have sT : Same H (upd H T (.tup [.int p.1, .int p.2])) := Same.new hT
      refine k_gtup (.inl (.inl upd_same)) rfl ?_
      refine k_gcons (k_gname (k_gcons (k_gname (k_gnil ?_))))
      refine ⟨hw _ _, k_tYes ?_⟩
      rw [if_pos rfl]
      refine step p _ (List.mem_of_getElem? hpm) (s1.trans sT) _ fun H4 y s4 hy => ?_
      have eD4 := s4 _ _ (sT _ _ eD)
      refine ⟨_, eD4, ?_, fun c o e => ?_, zs ++ [y], upd_same, ?_⟩
      · rw [pairs_len hp, List.length_map, List.length_take]
        exact Nat.lt_of_le_of_lt (Nat.min_le_left _ _) (Nat.lt_of_lt_of_le hm (Nat.le_trans hz (by decide)))
      · rw [upd_ne (ne_of_none e hD)]
        exact s4 _ _ (sT _ _ (s1 _ _ e))
      · rw [List.take_succ, hpm, List.map_append]
        exact Paired.snoc (pairs_mono (fun _ _ h => MeanN.put (h.same (sT.trans s4)) eD4) hp) ((hy.from (s1.trans sT)).put eD4))
    (fun H' p => by
      obtain ⟨s1, zs, eD, hp⟩ := p
      rw [List.length_map, List.take_length] at hp
      exact fin D H' zs hD s1 eD hp)
theorem txw_intD {i : Int} (h : i.natAbs < 2 ^ 24) : TxW 40 (.int i) := by
  obtain ⟨a1, a2, a3⟩ := txw_int (n := 24) (Nat.lt_of_lt_of_le h (by decide +kernel)) h (by decide)
  exact ⟨a1, by simp [PyData.depth], a2, by omega⟩
/-- heaps and lefts, written out -/
theorem rep_hl {W1 W2 : Nat} {ds es : List PyData} (h1 : ∀ d ∈ ds, TxW W1 d) (h2 : ∀ d ∈ es, TxW W2 d) (hw : (W1 + 10) * ds.length + (W2 + 10) * es.length ≤ 140000) : Rp (.list [.list ds, .list es]) := by
  obtain ⟨b1, b2, b3, b4⟩ := txw_all h1
  obtain ⟨c1, c2, c3, c4⟩ := txw_all h2
  refine rep_of ?_ ?_ ?_ ?_
  · simp [PyData.showable, PyData.showableAll, b1, c1]
  · simp [PyData.depth, PyData.depthAll]
    omega
  · simp [PyData.leavesShort, PyData.leavesShortAll, b3, c3]
  · simp [PyData.weight, PyData.weightAll]
    omega
theorem gapR_eq {hs' : List (Int × Int)} {ls : List Int} {hs : List (Int × Int)} {t : Nat} {k c : Int} (h : Nd.cnt (its t (hs', ls)).1 0 k = c) : gapR hs' ls hs t k = Rat.divInt (c * 2 ^ t - Nd.cnt hs t k) (2 ^ t) := by
  have e : (2 : Int) ^ t ≠ 0 := Int.ne_of_gt (Int.pow_pos (by decide))
  have h1 : ((c : Int) : Rat) = Rat.divInt (c * 2 ^ t) (2 ^ t) := by
    have := Rat.divInt_mul_right (n := c) (d := 1) e
    rw [Int.one_mul] at this
    rw [this]
    exact (Rat.num_divInt_den (c : Rat)).symm
  rw [gapR, h, h1, Rat.divInt_sub_divInt _ _ e e, ← Int.sub_mul, Rat.divInt_mul_right e]
theorem divInt_zero_iff {u : Int} {t : Nat} : Rat.divInt u (2 ^ t) = 0 ↔ u = 0 := by
  have e : (2 : Int) ^ t ≠ 0 := Int.ne_of_gt (Int.pow_pos (by decide))
  refine ⟨fun h => ?_, fun h => by rw [h, Rat.zero_divInt]⟩
  have h0 : Rat.divInt u (2 ^ t) = Rat.divInt 0 (2 ^ t) := by rw [h, Rat.zero_divInt]
  have := (Rat.divInt_eq_divInt_iff e e).mp h0
  rw [Int.zero_mul] at this
  exact (Int.mul_eq_zero.mp this).resolve_right e
theorem sh_gap {hs : List (Int × Int)} (o : OkHs hs) {t : Nat} (ht : t ≤ 26) {c : Int} (k : Int) (h0 : 0 ≤ c) (h1 : c ≤ (hs.map (·.2)).sum) : Sh (Rat.divInt (c * 2 ^ t - Nd.cnt hs t k) (2 ^ t)) := by
  have e : (2 : Int) ^ t ≠ 0 := Int.ne_of_gt (Int.pow_pos (by decide))
  have d := divInt_le (u := c * 2 ^ t - Nd.cnt hs t k) e
  have h : (Nd.cnt hs t k).natAbs ≤ (hs.map fun p => p.2 * (W t (k - p.1) : Int)).length * (10 ^ 60 * 2 ^ 26) := sum_abs fun x hx => by
    obtain ⟨p, hp, rfl⟩ := List.mem_map.mp hx
    rw [Int.natAbs_mul, Int.natAbs_natCast]
    exact Nat.mul_le_mul (o.chips p hp) (Nat.le_trans (W_le _ _) (Nat.pow_le_pow_right (by decide) ht))
  rw [List.length_map] at h
  have h2 : hs.length * (10 ^ 60 * 2 ^ 26) ≤ 60 * (10 ^ 60 * 2 ^ 26) := Nat.mul_le_mul_right _ o.few
  have h3 : ((2 : Int) ^ t).natAbs = 2 ^ t := by rw [Int.natAbs_pow]; rfl
  have h5 : 2 ^ t ≤ 2 ^ 26 := Nat.pow_le_pow_right (by decide) ht
  have hc := okHs_total o
  have h6 : (c * 2 ^ t).natAbs ≤ 60 * 10 ^ 60 * 2 ^ 26 := by
    rw [Int.natAbs_mul, h3]
    exact Nat.mul_le_mul (by omega) h5
  have big : 60 * 10 ^ 60 * 2 ^ 26 + 60 * (10 ^ 60 * 2 ^ 26) < 10 ^ 75 := by decide +kernel
  refine ⟨?_, ?_⟩
  · refine Nat.lt_of_le_of_lt (Nat.le_trans d.1 ?_) big
    generalize c * 2 ^ t = a at h6 ⊢
    generalize Nd.cnt hs t k = b at h ⊢
    omega
  · rw [h3] at d
    omega
/-- over a range, those that a drawn test lets -/
theorem lcIn_rgK {r : Addr} {N kd n j : Nat} {lo : Int} {tt : TT} {te : TE} {vs : List Nat} {σ : L2.St} {H1 : Hp} {Q : VK} (R : Rid r N H1) (hn : n ≤ 50000)
    (hw : ∀ x, wipe ((wipe σ vs).set j (some x)) vs = wipe σ vs)
    (step : ∀ (m : Nat) (H2 : Hp), m < n → Gr r H1 H2 → Rid r (N + kd * m) H2 → ∀ (QE : VK) (Z : Hp → Prop), (∀ H4, Gr r H2 H4 → Rid r (N + kd * (m + 1)) H4 → QE (.int (lo + (m : Int))) H4) → (∀ H4, Gr r H2 H4 → Rid r (N + kd * (m + 1)) H4 → Z H4) →
      tt ((wipe σ vs).set j (some (.int (lo + (m : Int))))) H2 fun b H3 => if b = true then te ((wipe σ vs).set j (some (.int (lo + (m : Int))))) H3 QE else Z H3)
    (fin : ∀ p H' (ks : List Int), H1 p = none → Gr r H1 H' → Rid r (N + kd * n) H' → H' p = some (.lst (ks.map V.int)) → ks.Nodup → (∀ k ∈ ks, lo ≤ k ∧ k < lo + n) → ks.length ≤ n → Q (.ref p) H') :
    LcIn (Itr lo n) (gName j) tt te vs σ H1 Q := fun D hD =>
  have nD := R.ne hD
  have eR : ∃ u, H1 r = some u := by
    obtain ⟨c, ns, a, z, h1, h2, _⟩ := R.ex
    exact ⟨_, h2⟩
  lc_it (walk_range (lo := lo) (n := n)) (fun m H => Gr r H1 H ∧ Rid r (N + kd * m) H ∧ ∃ ks : List Int, H D = some (.lst (ks.map V.int)) ∧ ks.Nodup ∧ (∀ k ∈ ks, lo ≤ k ∧ k < lo + m) ∧ ks.length ≤ m) ⟨Gr.new hD, R.new hD, [], upd_same, .nil, fun _ h => (nomatch h), Nat.le_refl _⟩ (fun _ _ _ _ => trivial)
    (fun m x H H' hm p y => by
      obtain ⟨rfl, rfl⟩ := y
      obtain ⟨g1, Rm, ks, eD, hnd, hb, hl⟩ := p
      refine k_gname ?_
      refine ⟨hw _, ?_⟩
      refine step m _ hm g1 Rm _ _ (fun H4 g4 R4 => ?_) fun H4 g4 R4 => ?_
      · have eD4 := g4.all _ _ nD eD
        have gz := g1.trans g4
        refine ⟨_, eD4, ?_, grPutNew gz hD eR, (ridN_of R gz R4 hD).put.rid, ks ++ [lo + (m : Int)], ?_, ?_, fun k hk => ?_, ?_⟩
        · rw [List.length_map]
          exact Nat.lt_of_le_of_lt hl (Nat.lt_of_lt_of_le hm (Nat.le_trans hn (by decide)))
        · rw [upd_same, List.map_append]
          rfl
        · rw [List.nodup_append]
          refine ⟨hnd, by simp, fun x hx y hy e => ?_⟩
          have := hb x hx
          simp only [List.mem_singleton] at hy
          omega
        · rcases List.mem_append.mp hk with h | h
          · have := hb k h
            omega
          · rw [List.mem_singleton.mp h]
            omega
        · rw [List.length_append]
          exact Nat.add_le_add_right hl 1
      · exact ⟨g1.trans g4, R4, ks, g4.all _ _ nD eD, hnd, fun k hk => by have := hb k hk; omega, by omega⟩)
    (fun H' p => by
      obtain ⟨g1, Rm, ks, eD, hnd, hb, hl⟩ := p
      exact fin D H' ks hD g1 Rm eD hnd hb hl)
end Nd

namespace Nd
open PySem PySem.Spec PyProof.Rows L2 LamX
/-! ### heaps that a power of two divides -/
def scH (t : Nat) (qs : List (Int × Int)) : List (Int × Int) := qs.map fun p => (p.1, p.2 * 2 ^ t)
theorem cnt_scH (t : Nat) (qs : List (Int × Int)) (n : Nat) (s : Int) : Nd.cnt (scH t qs) n s = 2 ^ t * Nd.cnt qs n s := by
  unfold scH
  induction qs with
  | nil => rw [List.map_nil, cnt_nil, Int.mul_zero]
  | cons p qs ih =>
    rw [List.map_cons, cnt_cons, cnt_cons, ih, Int.mul_add, Int.mul_comm p.2 (2 ^ t), Int.mul_assoc]
theorem two_pos (t : Nat) : (0 : Int) < 2 ^ t := Int.pow_pos (by decide)
theorem scH_pos {t : Nat} {qs : List (Int × Int)} (h : ∀ p ∈ scH t qs, 1 ≤ p.2) : ∀ p ∈ qs, 1 ≤ p.2 := fun p hp => by
  have h1 : 1 ≤ p.2 * 2 ^ t := h _ (List.mem_map.mpr ⟨p, hp, rfl⟩)
  refine Classical.byContradiction fun z => ?_
  have := Int.mul_le_mul_of_nonneg_right (show p.2 ≤ 0 by omega) (Int.le_of_lt (two_pos t))
  omega
def spHalvedL : Sp := fun vs H Q _ => ∃ (r : Addr) (v : V) (qs : List (Int × Int)) (t : Nat), vs = [v, .int (t : Int)] ∧ Hs r H v (scH t qs) ∧ OkHs (scH t qs) ∧ t ≤ 200 ∧
  ∀ H' p kvs, Same H H' → H p = none → H' p = some (.dK kvs) → DnP kvs (fun s => Nd.cnt qs t s) (-1000400) 1000400 → Q (.ref p) H'
theorem half_pow {n : Nat} {c : Int} : (2 ^ (n + 1) * c) / 2 = 2 ^ n * c := by
  rw [Int.pow_succ, Int.mul_assoc, Int.mul_comm 2 c, ← Int.mul_assoc]
  exact Int.mul_ediv_cancel _ (by decide)
theorem turnsK_even {ks : List Int} : ∀ {hs : List (Int × Int)}, (∀ p ∈ hs, p.2 % 2 = 0) → turnsK ks hs = ks
  | [], _ => rfl
  | p :: hs, h => by
    show turnsK (turnK ks p) hs = ks
    have := h p List.mem_cons_self
    rw [turnK, if_neg (by omega)]
    exact turnsK_even fun q hq => h q (List.mem_cons_of_mem _ hq)
theorem goes_even {L : Int → Bool} {k : Int} : ∀ {hs : List (Int × Int)}, (∀ p ∈ hs, p.2 % 2 = 0) → 2 * (hs.map (goesK L k)).sum = Nd.cnt hs 0 (k + 1) + Nd.cnt hs 0 (k - 1)
  | [], _ => by rw [cnt_nil, cnt_nil]; rfl
  | p :: hs, h => by
    have ih := goes_even (L := L) (k := k) (hs := hs) fun q hq => h q (List.mem_cons_of_mem _ hq)
    have hp := h p List.mem_cons_self
    rw [List.map_cons, List.sum_cons, Int.mul_add, ih, cnt_cons, cnt_cons, W, W]
    have e1 : sL L p = p.2 / 2 := by unfold sL; rw [if_neg (by omega)]
    have e2 : sR L p = p.2 / 2 := by unfold sR; rw [if_neg (by omega)]
    unfold goesK at2
    rw [e1, e2]
    have e3 : 2 * (p.2 / 2) = p.2 := by omega
    by_cases h1 : k = p.1 - 1
    · rw [if_pos h1, if_neg (show ¬ k = p.1 + 1 by omega), if_pos (show k + 1 - p.1 = 0 by omega), if_neg (show ¬ k - 1 - p.1 = 0 by omega)]
      simp
      omega
    · by_cases h2 : k = p.1 + 1
      · rw [if_neg h1, if_pos h2, if_neg (show ¬ k + 1 - p.1 = 0 by omega), if_pos (show k - 1 - p.1 = 0 by omega)]
        simp
        omega
      · rw [if_neg h1, if_neg h2, if_neg (show ¬ k + 1 - p.1 = 0 by omega), if_neg (show ¬ k - 1 - p.1 = 0 by omega)]
        simp
theorem its_even {t : Nat} {qs hs : List (Int × Int)} {ls : List Int} (p : hs.Perm (scH t qs)) (a : Asc hs) : ∀ n : Nat, n ≤ t → (∀ k, Nd.cnt (its n (hs, ls)).1 0 k = 2 ^ (t - n) * Nd.cnt qs n k) ∧ (its n (hs, ls)).2 = ls
  | 0, _ => ⟨fun k => (cnt_perm p 0 k).trans (cnt_scH t qs 0 k), rfl⟩
  | n + 1, hn => by
    obtain ⟨h1, h2⟩ := its_even p a (ls := ls) n (by omega)
    have aN := its_asc (ls := ls) a n
    have e : t - n = (t - (n + 1)) + 1 := by omega
    have hev : ∀ p ∈ (its n (hs, ls)).1, p.2 % 2 = 0 := fun p hp => by
      have := cnt_zero_at (asc_nodup aN) hp
      rw [h1, e, Int.pow_succ, Int.mul_comm _ 2, Int.mul_assoc] at this
      omega
    refine ⟨fun k => ?_, ?_⟩
    · have g := goes_even (L := fun x => decide (x ∈ (its n (hs, ls)).2)) (k := k) hev
      show Nd.cnt (sentF _ (its n (hs, ls)).1) 0 k = _
      rw [cnt_sent_perm (List.Perm.refl _)]
      rw [h1, h1, ← Int.mul_add, ← cnt_succ, e, Int.pow_succ, Int.mul_comm _ 2, Int.mul_assoc] at g
      omega
    · show turnsK (its n (hs, ls)).2 (its n (hs, ls)).1 = ls
      rw [turnsK_even hev, h2]
theorem asc_spots {hs : List (Int × Int)} {f : Int → Int} {ys : List Int} (a : Asc hs) (h : ∀ k, Nd.cnt hs 0 k = f k) (sp : Spots f ys) : hs = ys.map fun k => (k, f k) := by
  have e : hs.map (·.1) = ys := by
    refine sorted_uniq (List.pairwise_map.mpr (a.gap.imp fun h => by omega)) sp.srt fun k => ?_
    rw [sp.mem, ← h, cnt_pos a.pos]
  rw [← e, List.map_map]
  conv => lhs; rw [← List.map_id hs]
  refine List.map_congr_left fun p hp => ?_
  show p = (p.1, f p.1)
  rw [← h, cnt_zero_at (asc_nodup a) hp]
theorem lt_uniq {xs ys : List Int} (h1 : xs.Pairwise (· < ·)) (h2 : ys.Pairwise (· ≤ ·)) (hp : xs.Perm ys) : xs = ys := by
  refine sorted_uniq h1 ?_ fun k => hp.mem_iff
  have hn : ys.Nodup := hp.nodup_iff.mp (h1.imp fun h => by omega)
  exact (h2.and hn).imp fun h => by omega
/-! ### a line and what is drawn beside it -/
theorem LnO.gr {CL r : Addr} {n : Nat} {H H' : Hp} {o : Addr} {tick : Int} {hs : List (Int × Int)} {ls : List Int} (h : LnO CL H o tick hs ls) (R : Rid r n H) (g : Gr r H H') : LnO CL H' o tick hs ls := by
  obtain ⟨dx, ph, pl, ts, e1, e7, e8, e9⟩ := h.ex
  obtain ⟨c, ns, a, z, _, h2, _⟩ := R.ex
  have nt : ∀ {b : Addr} {vs : List V}, H b = some (.tup vs) → b ≠ r := fun e z => by rw [z, h2] at e; cases e
  have no : o ≠ r := fun z => by rw [z, h2] at e1; cases e1
  exact ⟨⟨dx, ph, pl, ts, g.all _ _ no e1, g.all _ _ (nt e7) e7, pairs_mono (fun _ _ h => g.all _ _ (nt h) h) e8, g.all _ _ (nt e9) e9⟩, h.asc, h.few, h.lsr, h.lfew⟩
theorem LnO.ne {CL r : Addr} {n : Nat} {H : Hp} {o : Addr} {tick : Int} {hs : List (Int × Int)} {ls : List Int} (h : LnO CL H o tick hs ls) (R : Rid r n H) : o ≠ r := by
  obtain ⟨dx, ph, pl, ts, e1, _⟩ := h.ex
  obtain ⟨c, ns, a, z, _, h2, _⟩ := R.ex
  exact fun z => by rw [z, h2] at e1; cases e1
theorem Rid.but {CL r : Addr} {n : Nat} {H H' : Hp} {o : Addr} {tick : Int} {hs : List (Int × Int)} {ls : List Int} (R : Rid r n H) (h : LnO CL H o tick hs ls) (b : But o H H') : Rid r n H' := by
  obtain ⟨dx, ph, pl, ts, e1, _⟩ := h.ex
  obtain ⟨c, ns, a, z, h1, h2, h3, h4⟩ := R.ex
  exact ⟨c, ns, a, z, h1, b _ _ (fun z => by rw [z, e1] at h2; cases h2) h2, b _ _ (fun z => by rw [z, e1] at h3; cases h3) h3, h4⟩
/-- what was before a line was made, or is none of it, stays -/
theorem gr_but {r o : Addr} {H0 H1 H2 : Hp} (g : Gr r H0 H1) (no : H0 o = none) (b : But o H1 H2) : Gr r H0 H2 :=
  ⟨fun c u nc e => b c u (ne_of_none e no) (g.all c u nc e), fun c t e => by
    obtain ⟨t', h⟩ := g.own c t e
    exact ⟨t', b _ _ (ne_of_none e no) h⟩⟩
theorem LnO.put {CL : Addr} {H : Hp} {o b : Addr} {tick : Int} {hs : List (Int × Int)} {ls : List Int} {xs ys : List V} (h : LnO CL H o tick hs ls) (eb : H b = some (.lst xs)) : LnO CL (upd H b (.lst ys)) o tick hs ls := by
  obtain ⟨dx, ph, pl, ts, e1, e7, e8, e9⟩ := h.ex
  have nt : ∀ {c : Addr} {vs : List V}, H c = some (.tup vs) → c ≠ b := fun e z => by rw [z, eb] at e; cases e
  have no : o ≠ b := fun z => by rw [z, eb] at e1; cases e1
  exact ⟨⟨dx, ph, pl, ts, (upd_ne no).trans e1, (upd_ne (nt e7)).trans e7, pairs_mono (fun _ _ h => (upd_ne (nt h)).trans h) e8, (upd_ne (nt e9)).trans e9⟩, h.asc, h.few, h.lsr, h.lfew⟩
theorem shIntsT (ns : List Int) : SeqAt.shaped (.tuple (ns.map PyData.int)) = true := by
  simp [SeqAt.shaped, PyData.canLay0, PyData.depth, canInts ns, depInts ns]
theorem eqvAllInts : ∀ ns : List Int, PyData.eqvAll (ns.map PyData.int) (ns.map PyData.int) = true
  | [] => by simp only [List.map_nil, PyData.eqvAll]
  | n :: ns => by simp [PyData.eqvAll, PyData.eqv, eqvAllInts ns]
theorem eqv_intsT (ns : List Int) : PyData.eqv (.tuple (ns.map PyData.int)) (.tuple (ns.map PyData.int)) = true := by simp only [PyData.eqv, eqvAllInts]
/-! ### where heaps can be behind n ticks -/
theorem sent_near {L : Int → Bool} {hs : List (Int × Int)} (a : Asc hs) {p : Int × Int} (h : p ∈ sentF L hs) : ∃ q ∈ hs, p.1 = q.1 - 1 ∨ p.1 = q.1 + 1 := by
  refine Classical.byContradiction fun z => ?_
  have aS := Asc.sent (L := L) a
  have h1 := cnt_zero_at (asc_nodup aS) h
  rw [cnt_sent] at h1
  have h2 := aS.pos p h
  have h3 := sum_zero (f := fun q : Int × Int => at2 p.1 (q.1 - 1) (sL L q) + at2 p.1 (q.1 + 1) (sR L q)) (l := hs) fun q hq => by
    have n1 : ¬ p.1 = q.1 - 1 := fun e => z ⟨q, hq, .inl e⟩
    have n2 : ¬ p.1 = q.1 + 1 := fun e => z ⟨q, hq, .inr e⟩
    show at2 p.1 (q.1 - 1) (sL L q) + at2 p.1 (q.1 + 1) (sR L q) = 0
    unfold at2
    rw [if_neg n1, if_neg n2]
    rfl
  omega
theorem its_near {hs : List (Int × Int)} {ls : List Int} (a : Asc hs) : ∀ (n : Nat) {p : Int × Int}, p ∈ (its n (hs, ls)).1 → ∃ q ∈ hs, q.1 - n ≤ p.1 ∧ p.1 ≤ q.1 + n ∧ (p.1 + n) % 2 = q.1 % 2
  | 0, p, h => ⟨p, h, by omega, by omega, by simp⟩
  | n + 1, p, h => by
    obtain ⟨q1, h1, e1⟩ := sent_near (its_asc (ls := ls) a n) h
    obtain ⟨q, h2, b1, b2, b3⟩ := its_near a n h1
    exact ⟨q, h2, by omega, by omega, by omega⟩
theorem its_far {hs : List (Int × Int)} {ls : List Int} (a : Asc hs) {k : Int} : ∀ (n : Nat), (∀ q ∈ hs, q.1 + n < k) → (k ∈ (its n (hs, ls)).2 ↔ k ∈ ls)
  | 0, _ => Iff.rfl
  | n + 1, h => by
    show k ∈ turnsK (its n (hs, ls)).2 (its n (hs, ls)).1 ↔ _
    rw [turnsK_off, its_far a n fun q hq => by have := h q hq; omega]
    intro p hp e
    obtain ⟨q, hq, b1, b2, b3⟩ := its_near a n hp
    have := h q hq
    omega
theorem InB.perm {B : Int} {hs : List (Int × Int)} {ls ls' : List Int} (h : InB B (hs, ls)) (p : ls'.Perm ls) : InB B (hs, ls') := ⟨h.asc, p.nodup_iff.mpr h.nd, h.hb, fun k hk => h.kb k (p.mem_iff.mp hk)⟩
theorem InB.le {B C : Int} {s : List (Int × Int) × List Int} (h : InB B s) (l : B ≤ C) : InB C s := ⟨h.asc, h.nd, fun p hp => by have := h.hb p hp; omega, fun k hk => by have := h.kb k hk; omega⟩
/-! ### a set of ints: how many are unlike -/
theorem setR_cnt {w : World} {h : Heap} {a : Addr} {ns : List Int} {c : Nat} (R : SetR w h a (fun j => decide (j ∈ ns)) c) : (∀ m : List Int, (∀ x ∈ ns, x ∈ m) → c ≤ m.length) ∧ ∀ m : List Int, m.Nodup → (∀ x ∈ m, x ∈ ns) → m.length ≤ c := by
  obtain ⟨o, es, ep, t, ho, hex, hd, g, nd, hm, hb, hf, hn, hr, hl⟩ := R
  have hlen : (es.toList.map keyOf).length = c := by rw [List.length_map, Array.length_toList]; exact hn
  have h1 : ∀ x ∈ es.toList.map keyOf, x ∈ ns := fun x hx => of_decide_eq_true ((hm x).mpr hx)
  have h2 : ∀ x ∈ ns, x ∈ es.toList.map keyOf := fun x hx => (hm x).mp (decide_eq_true hx)
  refine ⟨fun m hm => ?_, fun m hn hm => ?_⟩
  · rw [← hlen]
    exact nodup_len nd fun x hx => hm x (h1 x hx)
  · rw [← hlen]
    exact nodup_len hn fun x hx => h2 x (hm x hx)
def rSetU (K : PySem.W.Frag) (w : World) : List V → Hp → VK → Prop := fun vs H Q => ∃ (l : Addr) (ns : List Int), vs = [V.ref l] ∧ SqA K H l (ns.map V.int) ∧ ns.length ≤ 4000 ∧
  ∀ (p : Addr) (c : Nat), (∀ m : List Int, (∀ x ∈ ns, x ∈ m) → c ≤ m.length) → (∀ m : List Int, m.Nodup → (∀ x ∈ m, x ∈ ns) → m.length ≤ c) → H p = none → Q (.ref p) (upd H p (SetO w p (fun j => decide (j ∈ ns)) c))
section
variable {X : Cx}
theorem cr_setU (hc : X.calm = true) : CallR X (.type "set") (rSetU X.K X.w) := by
  intro pins s σ H vs us Q I r ⟨l, ns, e, hl, hz, q⟩
  subst e
  rw [Vals.ref1 r]
  have hb : ns.length + 1 < scanBound := by have : scanBound = 4096 := rfl; omega
  have fin : ∀ (h' : Heap) (tk c : Nat), SetR X.w h' s.heap.objs.size (fun j => decide (j ∈ ns)) c → (∀ b o, s.heap.get? b = some o → h'.get? b = some o) → EP X pins σ Q (.ref s.heap.objs.size) { s with heap := h', toks := tk } := fun h' tk c R k => by
    obtain ⟨c1, c2⟩ := setR_cnt R
    exact ⟨.ref s.heap.objs.size, upd H s.heap.objs.size (SetO X.w s.heap.objs.size (fun j => decide (j ∈ ns)) c), I.laid (t' := tk) k (Nat.le_refl _) (setO_new R), rfl, q _ c c1 c2 (I.hok.fresh (Nat.le_refl _))⟩
  rcases hl with hl | hl
  · obtain ⟨its, rv, pl, _⟩ := I.list hl
    exact set_of_list ns (I.ok.hd hc) pl.isList (by simpa using ints_of_vals rv) hb fun h' tk c R _ k => fin h' tk c R k
  · obtain ⟨its, rv, pl, _⟩ := I.tuple hl
    exact call_set_tupI ns (I.ok.hd hc) (show s.heap.IsTuple l its.toArray from pl) (by simpa using ints_of_vals rv) hb fun h' tk c R _ k => fin h' tk c R k
end
theorem tot_pos : ∀ {hs : List (Int × Int)}, (∀ p ∈ hs, 1 ≤ p.2) → 0 ≤ (hs.map (·.2)).sum ∧ (hs ≠ [] → 1 ≤ (hs.map (·.2)).sum)
  | [], _ => ⟨by simp, fun h => absurd rfl h⟩
  | p :: hs, h => by
    have h1 := (tot_pos fun q hq => h q (List.mem_cons_of_mem _ hq) : 0 ≤ (hs.map (·.2)).sum ∧ _).1
    have h2 := h p List.mem_cons_self
    rw [List.map_cons, List.sum_cons]
    exact ⟨by omega, fun _ => by omega⟩
theorem first_get {α : Type} {l : List α} (h : l ≠ []) : ∃ x, l[0]? = some x := by
  cases l with
  | nil => exact absurd rfl h
  | cons x l => exact ⟨x, rfl⟩
theorem last_get {α : Type} {l : List α} (h : l ≠ []) : ∃ x, l[l.length - 1]? = some x := by
  have : 0 < l.length := List.length_pos_iff.mpr h
  exact ⟨l[l.length - 1]'(by omega), by simp⟩
theorem pairs_getR {α β : Type} {F : α → β → Prop} : ∀ {l : List α} {m : List β} {i : Nat} {y : β}, Paired F l m → m[i]? = some y → ∃ x, l[i]? = some x ∧ F x y
  | _, _, 0, _, .cons h _, e => by cases e; exact ⟨_, rfl, h⟩
  | _, _, i + 1, _, .cons _ t, e => pairs_getR (i := i) t e
  | _, _, 0, _, .nil, e => nomatch e
  | _, _, _ + 1, _, .nil, e => nomatch e
theorem atI_last {α : Type} {xs : List α} {v : α} (h : xs[xs.length - 1]? = some v) : atI xs (-1) = some v := by
  have hj : xs.length - 1 < xs.length := (List.getElem?_eq_some_iff.mp h).1
  have e : ixN xs.length (-1) = some (xs.length - 1) := by
    unfold ixN
    rw [if_neg (by omega)]
    rw [if_pos (by omega)]
    congr 1
    omega
  unfold atI
  rw [e]
  exact h
/-! ### heaps laid together, where they may be -/
def spJoin : Sp := fun vs H Q _ => ∃ (r : Addr) (v w : V) (one other : List (Int × Int)) (c : Int), vs = [v, w] ∧ (∃ u, H r = some u) ∧ Hs r H v one ∧ Hs r H w other ∧ OkHs one ∧ OkHs other ∧ (one ++ other).length ≤ 60 ∧ (∀ p ∈ one ++ other, p.1 % 2 = c) ∧ (∀ k, Nd.cnt (one ++ other) 0 k ≤ 10 ^ 60) ∧
  ∀ H' a ts ys, Same H H' → H a = none → H' a = some (.tup (ts.map V.ref)) → Spots (Nd.cnt (one ++ other) 0) ys → Paired (PrI H H') ts (ys.map fun k => (k, Nd.cnt (one ++ other) 0 k)) → Q (.ref a) H'
theorem Hs.join {r : Addr} {H : Hp} {v w : V} {one other : List (Int × Int)} (h : Hs r H v one) (h' : Hs r H w other) : ∃ a b xs ys, v = .ref a ∧ w = .ref b ∧ (H a = some (.lst xs) ∨ TupQ H a xs) ∧ (H b = some (.lst ys) ∨ TupQ H b ys) ∧ Paired (PrA r H) (xs ++ ys) (one ++ other) := by
  obtain ⟨a, xs, e, n, ea, hp⟩ := h.ex
  obtain ⟨b, ys, e', n', eb, hp'⟩ := h'.ex
  exact ⟨a, b, xs, ys, e, e', ea, eb, pairs_append hp hp'⟩
end Nd

namespace Nd
open PySem PySem.Spec PyProof.Rows L2 LamX
/-! ### odd heaps and the ways that their odd chips go -/
def oddsL (A : List (Int × Int)) (L : List Int) : List (Int × Int) := (A.filter fun p => decide (p.2 % 2 = 1)).map fun p => (p.1, if p.1 ∈ L then -1 else 1)
theorem oddsL_congr {A : List (Int × Int)} {L M : List Int} (h : ∀ k, k ∈ L ↔ k ∈ M) : oddsL A L = oddsL A M := by
  unfold oddsL
  refine List.map_congr_left fun p _ => ?_
  by_cases e : p.1 ∈ L
  · rw [if_pos e, if_pos ((h _).mp e)]
  · rw [if_neg e, if_neg (mt (h _).mpr e)]
theorem stp_congr {A : List (Int × Int)} {L M : List Int} (h : ∀ k, k ∈ L ↔ k ∈ M) (a : Asc A) : (stp (A, L)).1 = (stp (A, M)).1 ∧ ∀ k, k ∈ (stp (A, L)).2 ↔ k ∈ (stp (A, M)).2 := by
  refine ⟨?_, fun k => turnsK_perm (asc_nodup a) (List.Perm.refl _) h k⟩
  show sentF _ A = sentF _ A
  rw [show (fun x => decide (x ∈ L)) = fun x => decide (x ∈ M) from funext fun x => decide_eq_decide.mpr (h x)]
theorem perm_mem {L M : List Int} (h1 : L.Nodup) (h2 : M.Nodup) (h : ∀ k, k ∈ L ↔ k ∈ M) : L.Perm M := (List.perm_ext_iff_of_nodup h1 h2).mpr h
theorem stp_perm {A : List (Int × Int)} {L M : List Int} (h : L.Perm M) (n : L.Nodup) (a : Asc A) : (stp (A, L)).1 = (stp (A, M)).1 ∧ (stp (A, L)).2.Perm (stp (A, M)).2 := by
  obtain ⟨h1, h2⟩ := stp_congr (A := A) (L := L) (M := M) (fun k => h.mem_iff) a
  exact ⟨h1, perm_mem (turnsK_nodup n) (turnsK_nodup (h.nodup_iff.mp n)) h2⟩
theorem Gone.perm {hs : List (Int × Int)} {ks : List Int} {n : Nat} {qs qs' : List (Int × Int)} {kk : List Int} (g : Gone hs ks n qs kk) (h : qs'.Perm qs) : Gone hs ks n qs' kk := fun hs' ls p1 a p2 => by
  obtain ⟨h1, h2⟩ := g hs' ls p1 a p2
  exact ⟨h.trans h1, h2⟩
/-- a sorted list of what is behind n ticks is the line's own -/
theorem Gone.srt {hs hs' : List (Int × Int)} {ks ls : List Int} {n : Nat} {qs : List (Int × Int)} {kk : List Int} (ok : OkHs hs) (g : Gone hs ks n qs kk) (h : qs.Pairwise fun a b => a.1 < b.1) (p1 : hs'.Perm hs) (a : Asc hs') (p2 : ls.Perm ks) : (its n (hs', ls)).1 = qs := by
  obtain ⟨g1, _⟩ := g hs' ls p1 a p2
  have aN := its_asc (ls := ls) a n
  exact List.Perm.eq_of_pairwise (le := fun a b : Int × Int => a.1 < b.1) (fun a b _ _ h1 h2 => by omega) (aN.gap.imp fun h => by omega) h g1.symm
/-- over pairs that are let: a new tuple of two ints for each -/
theorem lcIn_prFT {K : PySem.W.Frag} {J : It} {G : Hp → Prop} {r : Addr} {xs : List V} {hs : List (Int × Int)} {i j : Nat} {tt : TT} {te : TE} {vs : List Nat} {σ : L2.St} {H1 : Hp} {Q : VK} (W : Walk J xs.length G (YAt xs)) (c : Int × Int → Bool) (f : Int × Int → Int × Int) (hG : ∀ H', Same H1 H' → G H') (hall : Paired (PrA r H1) xs hs) (hz : xs.length ≤ 10000000)
    (hw : ∀ x y, wipe (((wipe σ vs).set i (some x)).set j (some y)) vs = wipe σ vs)
    (step : ∀ (p : Int × Int) (H2 : Hp), p ∈ hs → Same H1 H2 → ∀ (QE : VK) (Z : Hp → Prop), (c p = true → ∀ H4 b, Same H2 H4 → H2 b = none → H4 b = some (.tup [.int (f p).1, .int (f p).2]) → QE (.ref b) H4) → (c p = false → ∀ H4, Same H2 H4 → Z H4) →
      tt (((wipe σ vs).set i (some (.int p.1))).set j (some (.int p.2))) H2 fun b H3 => if b = true then te (((wipe σ vs).set i (some (.int p.1))).set j (some (.int p.2))) H3 QE else Z H3)
    (fin : ∀ (p : Addr) (H' : Hp) (ts : List Addr), H1 p = none → Same H1 H' → H' p = some (.lst (ts.map V.ref)) → Paired (PrI H1 H') ts ((hs.filter c).map f) → Q (.ref p) H') :
    LcIn J (gAny K 2 (gCons (gName i) (gCons (gName j) gNil))) tt te vs σ H1 Q := fun D hD =>
  lc_it W (fun m H => Same H1 H ∧ ∃ ts : List Addr, H D = some (.lst (ts.map V.ref)) ∧ Paired (PrI H1 H) ts (((hs.take m).filter c).map f)) ⟨Same.new hD, [], upd_same, .nil⟩ (fun m H _ p => hG _ p.1)
    (fun m x H H' hm p y => by
      obtain ⟨rfl, hx⟩ := y
      obtain ⟨s1, ts, eD, hp⟩ := p
      obtain ⟨z, hz1, g⟩ := Nd.paired_get hall hx
      refine (g.same s1).any ?_
      refine k_gcons (k_gname (k_gcons (k_gname (k_gnil ?_))))
      refine ⟨hw _ _, step z _ (List.mem_of_getElem? hz1) s1 _ _ (fun hc H4 b s4 nb eb => ?_) fun hc H4 s4 => ?_⟩
      · have eD4 := s4 _ _ eD
        have ne : ∀ {c : Addr} {zs : List V}, H4 c = some (.tup zs) → c ≠ D := fun e z => by
          rw [z, eD4] at e
          cases e
        refine ⟨_, eD4, ?_, fun c o e => ?_, ts ++ [b], ?_, ?_⟩
        · rw [List.length_map, pairs_len hp, List.length_map]
          refine Nat.lt_of_le_of_lt (List.length_filter_le _ _) ?_
          rw [List.length_take]
          exact Nat.lt_of_le_of_lt (Nat.min_le_left _ _) (Nat.lt_of_lt_of_le hm (Nat.le_trans hz (by decide)))
        · rw [upd_ne (ne_of_none e hD)]
          exact s4 _ _ (s1 _ _ e)
        · rw [upd_same, List.map_append]
          rfl
        · rw [List.take_succ, hz1, List.filter_append, List.map_append, Option.toList_some, List.filter_cons, if_pos hc]
          exact Paired.snoc (pairs_mono (fun _ _ h => ⟨h.1, (upd_ne (ne (s4 _ _ h.2))).trans (s4 _ _ h.2)⟩) hp) ⟨s1.free nb, (upd_ne (ne eb)).trans eb⟩
      · refine ⟨s1.trans s4, ts, s4 _ _ eD, ?_⟩
        rw [List.take_succ, hz1, List.filter_append, Option.toList_some, List.filter_cons, if_neg (by rw [hc]; decide), List.filter_nil, List.append_nil]
        exact pairs_mono (fun _ _ h => ⟨h.1, s4 _ _ h.2⟩) hp)
    (fun H' p => by
      obtain ⟨s1, ts, eD, hp⟩ := p
      rw [pairs_len hall, List.take_length] at hp
      exact fin D H' ts hD s1 eD hp)
/-- over ints: those that are let -/
theorem lcIn_kF {J : It} {G : Hp → Prop} {Y : Nat → Hp → V → Hp → Prop} {ks : List Int} {j : Nat} {tt : TT} {te : TE} {vs : List Nat} {σ : L2.St} {H1 : Hp} {Q : VK} (W : Walk J ks.length G Y) (hY : ∀ m H x H', Y m H x H' → H' = H ∧ ∃ k, ks[m]? = some k ∧ x = .int k) (c : Int → Bool) (hG : ∀ H', Same H1 H' → G H') (hz : ks.length ≤ 10000000)
    (hw : ∀ x, wipe ((wipe σ vs).set j (some x)) vs = wipe σ vs)
    (step : ∀ (k : Int) (H2 : Hp), k ∈ ks → Same H1 H2 → ∀ (QE : VK) (Z : Hp → Prop), (c k = true → ∀ H4, Same H2 H4 → QE (.int k) H4) → (c k = false → ∀ H4, Same H2 H4 → Z H4) →
      tt ((wipe σ vs).set j (some (.int k))) H2 fun b H3 => if b = true then te ((wipe σ vs).set j (some (.int k))) H3 QE else Z H3)
    (fin : ∀ (p : Addr) (H' : Hp), H1 p = none → Same H1 H' → H' p = some (.lst ((ks.filter c).map V.int)) → Q (.ref p) H') :
    LcIn J (gName j) tt te vs σ H1 Q := fun D hD =>
  lc_it W (fun m H => Same H1 H ∧ H D = some (.lst (((ks.take m).filter c).map V.int))) ⟨Same.new hD, upd_same⟩ (fun m H _ p => hG _ p.1)
    (fun m x H H' hm p y => by
      obtain ⟨rfl, k, hk, rfl⟩ := hY _ _ _ _ y
      obtain ⟨s1, eD⟩ := p
      refine k_gname ?_
      refine ⟨hw _, ?_⟩
      refine step k _ (List.mem_of_getElem? hk) s1 _ _ (fun hc H4 s4 => ?_) (fun hc H4 s4 => ?_)
      · have eD4 := s4 _ _ eD
        refine ⟨_, eD4, ?_, fun c o e => ?_, ?_⟩
        · rw [List.length_map]
          exact Nat.lt_of_le_of_lt (List.length_filter_le _ _) (by rw [List.length_take]; exact Nat.lt_of_le_of_lt (Nat.min_le_left _ _) (Nat.lt_of_lt_of_le hm (Nat.le_trans hz (by decide))))
        · rw [upd_ne (ne_of_none e hD)]
          exact s4 _ _ (s1 _ _ e)
        · rw [upd_same, List.take_succ, hk, List.filter_append, List.map_append, Option.toList_some, List.filter_cons, if_pos hc]
          rfl
      · refine ⟨s1.trans s4, ?_⟩
        rw [s4 _ _ eD, List.take_succ, hk, List.filter_append, Option.toList_some, List.filter_cons, if_neg (by rw [hc]; decide), List.filter_nil, List.append_nil])
    (fun H' p => by
      obtain ⟨s1, eD⟩ := p
      rw [List.take_length] at eD
      exact fin D H' hD s1 eD)
def spOddNow (CL : Addr) : Sp := fun vs H Q _ => ∃ (o : Addr) (tick : Int) (A : List (Int × Int)) (L : List Int), vs = [.ref o] ∧ LnO CL H o tick A L ∧ ∀ H' a ts, Same H H' → H a = none → H' a = some (.tup (ts.map V.ref)) → Paired (PrI H H') ts (oddsL A L) → Q (.ref a) H'
/-- rows of odd heaps, tick by tick -/
def RowsO (H H' : Hp) (rs : List Addr) (f : Nat → List (Int × Int)) (n : Nat) : Prop := Paired (fun b m => H b = none ∧ ∃ ts : List Addr, H' b = some (.tup (ts.map V.ref)) ∧ Paired (PrI H H') ts (f m)) rs (List.range n)
def spOddHeaps : Sp := fun vs H Q _ => ∃ (r : Addr) (v x : V) (hs : List (Int × Int)) (ks : List Int) (t : Nat), vs = [v, x, .int (t : Int)] ∧ Hs r H v hs ∧ OkHs hs ∧ LfS r H x ks ∧ t ≤ 60 ∧
  ∀ H' a rs hs' ls, Same H H' → H a = none → H' a = some (.tup (rs.map V.ref)) → hs'.Perm hs → Asc hs' → ls.Perm ks → RowsO H H' rs (fun n => oddsL (its n (hs', ls)).1 (its n (hs', ls)).2) t → Q (.ref a) H'
end Nd
namespace Nd
open PySem PySem.Spec PyProof.Rows L2 LamX
/-! ### drawn heaps and lefts, told one by one -/
def spHeapsN : Sp := fun vs H Q _ => ∃ (r : Addr) (n m : Nat) (c : Int), vs = [.ref r, .int c, .int (m : Int)] ∧ Rid r n H ∧ n + 100 < 1000000 ∧ m ≤ 6 ∧ 0 ≤ c ∧ c < 2 ∧
  ∀ H' v hs, Gr r H H' → Rid r (n + 60) H' → HTu r H' v hs → OkHs hs → hs.length ≤ m → (∀ p ∈ hs, -62 ≤ p.1 ∧ p.1 ≤ 62 ∧ p.1 % 2 = c) → Q v H'
def spLeftsN : Sp := fun vs H Q _ => ∃ (r : Addr) (n : Nat), vs = [.ref r] ∧ Rid r n H ∧ n + 20 < 1000000 ∧
  ∀ H' p ks, Gr r H H' → Rid r (n + 10) H' → H' p = some (.lst (ks.map V.int)) → LfS r H' (.ref p) ks → ks.length ≤ 6 → (∀ k ∈ ks, -9 ≤ k ∧ k ≤ 9) → Q (.ref p) H'
/-! ### a start, played tick by tick -/
/-- what is told of tick n: the heaps, and the odd ones with their ways -/
def PlayAt (H H' : Hp) (hs : List (Int × Int)) (ks : List Int) (b : Addr) (n : Nat) : Prop := H b = none ∧ ∃ (d o : Addr) (qs : List (Int × Int)) (kk : List Int) (ts : List Addr), H' b = some (.tup [.ref d, .ref o]) ∧ H d = none ∧ H o = none ∧ H' d = some (.dK (qs.map entI)) ∧ Gone hs ks n qs kk ∧ H' o = some (.lst (ts.map V.ref)) ∧
  ∃ os, Paired (PrI H H') ts os ∧ ∀ hs' ls, hs'.Perm hs → Asc hs' → ls.Perm ks → os = oddsL (its n (hs', ls)).1 (its n (hs', ls)).2
def spPlayed : Sp := fun vs H Q _ => ∃ (r : Addr) (v x : V) (hs : List (Int × Int)) (ks : List Int) (t : Nat), vs = [v, x, .int (t : Int)] ∧ Hs r H v hs ∧ OkHs hs ∧ LfS r H x ks ∧ t ≤ 60 ∧
  ∀ H' p bs z, Same H H' → H p = none → H' p = some (.lst ((bs ++ [z]).map V.ref)) → Paired (fun b n => PlayAt H H' hs ks b n) bs (List.range t) → (H z = none ∧ ∃ (d o : Addr) (qs : List (Int × Int)) (kk : List Int), H' z = some (.tup [.ref d, .ref o]) ∧ H d = none ∧ H' d = some (.dK (qs.map entI)) ∧ Gone hs ks t qs kk ∧ H' o = some (.lst [])) → Q (.ref p) H'
end Nd
namespace Nd
open PySem PySem.Spec PyProof.Rows L2 LamX
def G2 (L O : Addr) (H H' : Hp) : Prop := ∀ b o, b ≠ L → b ≠ O → H b = some o → H' b = some o
theorem G2.trans {L O : Addr} {H H1 H2 : Hp} (a : G2 L O H H1) (b : G2 L O H1 H2) : G2 L O H H2 := fun c o n m e => b c o n m (a c o n m e)
theorem G2.same {L O : Addr} {H H' : Hp} (s : Same H H') : G2 L O H H' := fun c o _ _ e => s c o e
theorem G2.putL {L O : Addr} {H : Hp} {u : HO} : G2 L O H (upd H L u) := fun c o n _ e => by rw [upd_ne n]; exact e
theorem G2.putO {L O : Addr} {H : Hp} {u : HO} : G2 L O H (upd H O u) := fun c o _ n e => by rw [upd_ne n]; exact e
theorem valV_at {qs : List (Int × Int)} (hn : (qs.map (·.1)).Nodup) {k : Int} (h : k ∈ qs.map (·.1)) : valV (qs.map entI) (.inl k) = some (.int (Nd.cnt qs 0 k)) := by
  obtain ⟨p, hp, rfl⟩ := List.mem_map.mp h
  obtain ⟨v, hv⟩ := valV_some (kvs := qs.map entI) (k := .inl p.1) (List.mem_map.mpr ⟨_, List.mem_map.mpr ⟨p, hp, rfl⟩, rfl⟩)
  obtain ⟨q, hq, e⟩ := List.mem_map.mp (valV_mem hv)
  have e1 : q.1 = p.1 := Sum.inl.inj (congrArg Prod.fst e)
  have e2 : V.int q.2 = v := congrArg Prod.snd e
  rw [hv, ← e2, ← e1, cnt_zero_at hn hq]
theorem oddsL_snoc {A : List (Int × Int)} {L : List Int} {p : Int × Int} : oddsL (A ++ [p]) L = oddsL A L ++ if p.2 % 2 = 1 then [(p.1, if p.1 ∈ L then -1 else 1)] else [] := by
  unfold oddsL
  rw [List.filter_append, List.map_append]
  congr 1
  by_cases h : p.2 % 2 = 1
  · rw [if_pos h, List.filter_cons, if_pos (decide_eq_true h)]
    rfl
  · rw [if_neg h, List.filter_cons, if_neg (by simp [h])]
    rfl
/-- as PlayAt, and the list of odd ones is not D -/
def PlayX (D : Addr) (H H' : Hp) (hs : List (Int × Int)) (ks : List Int) (b : Addr) (n : Nat) : Prop := H b = none ∧ ∃ (d o : Addr) (qs : List (Int × Int)) (kk : List Int) (ts : List Addr), H' b = some (.tup [.ref d, .ref o]) ∧ H d = none ∧ H o = none ∧ H' d = some (.dK (qs.map entI)) ∧ Gone hs ks n qs kk ∧ H' o = some (.lst (ts.map V.ref)) ∧ o ≠ D ∧
  ∃ os, Paired (PrI H H') ts os ∧ ∀ hs' ls, hs'.Perm hs → Asc hs' → ls.Perm ks → os = oddsL (its n (hs', ls)).1 (its n (hs', ls)).2
theorem PlayX.at {D : Addr} {H H' : Hp} {hs : List (Int × Int)} {ks : List Int} {b : Addr} {n : Nat} (h : PlayX D H H' hs ks b n) : PlayAt H H' hs ks b n := by
  obtain ⟨h1, d, o, qs, kk, ts, e1, e2, e3, e4, e5, e6, _, e7⟩ := h
  exact ⟨h1, d, o, qs, kk, ts, e1, e2, e3, e4, e5, e6, e7⟩
/-- what is neither of two lists or dicts that are changed stays -/
theorem PlayX.keep {D : Addr} {H H1 H2 : Hp} {hs : List (Int × Int)} {ks : List Int} {b : Addr} {n : Nat} (h : PlayX D H H1 hs ks b n) (g : ∀ c u, c ≠ D → H1 c = some u → H2 c = some u) (eD : ∃ xs, H1 D = some (.lst xs)) : PlayX D H H2 hs ks b n := by
  obtain ⟨xs, eD⟩ := eD
  obtain ⟨h1, d, o, qs, kk, ts, e1, e2, e3, e4, e5, e6, e7, os, e8, e9⟩ := h
  have nt : ∀ {c : Addr} {vs : List V}, H1 c = some (.tup vs) → c ≠ D := fun e z => by rw [z, eD] at e; cases e
  exact ⟨h1, d, o, qs, kk, ts, g _ _ (nt e1) e1, e2, e3, g _ _ (fun z => by rw [z, eD] at e4; cases e4) e4, e5, g _ _ e7 e6, e7, os, pairs_mono (fun _ _ h => ⟨h.1, g _ _ (nt h.2) h.2⟩) e8, e9⟩
theorem Gone.mem {hs hs' : List (Int × Int)} {ks ls : List Int} {n : Nat} {qs : List (Int × Int)} {kk : List Int} (g : Gone hs ks n qs kk) (p1 : hs'.Perm hs) (a : Asc hs') (p2 : ls.Perm ks) : ∀ k, k ∈ kk ↔ k ∈ (its n (hs', ls)).2 := (g hs' ls p1 a p2).2
/-- sorted by their keys -/
theorem srt_perm {qs : List (Int × Int)} {ys : List Int} (hn : (qs.map (·.1)).Nodup) (hp : ys.Perm (qs.map (·.1))) (hs : ys.Pairwise (· ≤ ·)) : (ys.map fun k => (k, Nd.cnt qs 0 k)).Perm qs ∧ (ys.map fun k => (k, Nd.cnt qs 0 k)).Pairwise fun a b => a.1 < b.1 := by
  have e : (qs.map (·.1)).map (fun k => (k, Nd.cnt qs 0 k)) = qs := by
    rw [List.map_map]
    conv => rhs; rw [← List.map_id qs]
    refine List.map_congr_left fun p h => ?_
    show (p.1, Nd.cnt qs 0 p.1) = p
    rw [cnt_zero_at hn h]
  refine ⟨?_, List.pairwise_map.mpr ?_⟩
  · have := hp.map fun k => (k, Nd.cnt qs 0 k)
    rwa [e] at this
  · have hn2 : ys.Nodup := hp.nodup_iff.mpr hn
    exact (hs.and hn2).imp fun h => by
      have h1 := h.1
      have h2 := h.2
      show _ < _
      omega
end Nd
namespace Nd
open PySem PySem.Spec PyProof.Rows L2 LamX
theorem its_congr {A : List (Int × Int)} {L M : List Int} (h : ∀ k, k ∈ L ↔ k ∈ M) (a : Asc A) : ∀ n : Nat, (its n (A, L)).1 = (its n (A, M)).1 ∧ ∀ k, k ∈ (its n (A, L)).2 ↔ k ∈ (its n (A, M)).2
  | 0 => ⟨rfl, h⟩
  | n + 1 => by
    obtain ⟨h1, h2⟩ := its_congr h a n
    have aN := its_asc (ls := L) a n
    show (stp (its n (A, L))).1 = (stp (its n (A, M))).1 ∧ ∀ k, k ∈ (stp (its n (A, L))).2 ↔ k ∈ (stp (its n (A, M))).2
    rw [show its n (A, M) = ((its n (A, L)).1, (its n (A, M)).2) from by rw [h1]]
    exact stp_congr h2 aN
theorem asc_uniq {A B C : List (Int × Int)} (a : Asc A) (b : Asc B) (p1 : A.Perm C) (p2 : B.Perm C) : A = B :=
  List.Perm.eq_of_pairwise (le := fun a b : Int × Int => a.1 < b.1) (fun a b _ _ h1 h2 => by omega) (a.gap.imp fun h => by omega) (b.gap.imp fun h => by omega) (p1.trans p2.symm)
/-- what odd heaps there are does not hang on the order that a start is told in -/
theorem oddsL_uniq {A B C : List (Int × Int)} {L M N : List Int} (a : Asc A) (b : Asc B) (p1 : A.Perm C) (p2 : B.Perm C) (q1 : L.Perm N) (q2 : M.Perm N) (n : Nat) : oddsL (its n (A, L)).1 (its n (A, L)).2 = oddsL (its n (B, M)).1 (its n (B, M)).2 := by
  obtain rfl := asc_uniq a b p1 p2
  obtain ⟨h1, h2⟩ := its_congr (A := A) (fun k => (q1.trans q2.symm).mem_iff) a n
  rw [h1]
  exact oddsL_congr h2
theorem its_len {A : List (Int × Int)} {L : List Int} (a : Asc A) (n : Nat) : (its n (A, L)).1.length ≤ A.length * (n + 1) := by
  have h := nodup_len (l := ((its n (A, L)).1).map (·.1)) (m := A.flatMap fun q => (List.range (n + 1)).map fun j : Nat => q.1 - (n : Int) + 2 * (j : Int)) (asc_nodup (its_asc a n)) fun x hx => by
    obtain ⟨p, hp, rfl⟩ := List.mem_map.mp hx
    obtain ⟨q, hq, b1, b2, b3⟩ := its_near a n hp
    refine List.mem_flatMap.mpr ⟨q, hq, List.mem_map.mpr ⟨((p.1 - q.1 + n) / 2).toNat, List.mem_range.mpr (by omega), by omega⟩⟩
  rw [List.length_map] at h
  refine Nat.le_trans h ?_
  have : ∀ l : List (Int × Int), (l.flatMap fun q => (List.range (n + 1)).map fun j : Nat => q.1 - (n : Int) + 2 * (j : Int)).length = l.length * (n + 1) := fun l => by
    induction l with
    | nil => simp
    | cons q l ih =>
      rw [List.flatMap_cons, List.length_append, ih, List.length_map, List.length_range, List.length_cons, Nat.add_mul]
      omega
  rw [this]
  exact Nat.le_refl _
theorem oddsL_len {A : List (Int × Int)} {L : List Int} : (oddsL A L).length ≤ A.length := by
  unfold oddsL
  rw [List.length_map]
  exact List.length_filter_le _ _
theorem cut_last (xs : List V) (x : V) : cutV (xs ++ [x]) none (some (-1)) = xs := by
  unfold cutV
  rw [_root_.HT.sIx_none]
  have e : _root_.HT.sIx (xs ++ [x]).length (xs ++ [x]).length (some (-1)) = xs.length := by
    unfold _root_.HT.sIx
    simp
    try omega
  rw [e]
  simp
def rowD (row : List (Int × Int)) : PyData := .tuple (row.map pD)
/-- over what was played: a tuple of the odd ones, tick by tick -/
theorem lcIn_rows {K : PySem.W.Frag} {a : Addr} {bs : List Addr} {t i j : Nat} {te : TE} {vs : List Nat} {σ : L2.St} {H0 H1 : Hp} {Q : VK} (f : Nat → List (Int × Int)) (s01 : Same H0 H1) (hx : H1 a = some (.lst (bs.map V.ref))) (hb : Paired (fun b m => ∃ (d o : Addr) (ts : List Addr), H1 b = some (.tup [.ref d, .ref o]) ∧ H1 o = some (.lst (ts.map V.ref)) ∧ Paired (PrI H0 H1) ts (f m)) bs (List.range t)) (hz : t ≤ 50000)
    (hw : ∀ x y, wipe (((wipe σ vs).set i (some x)).set j (some y)) vs = wipe σ vs)
    (step : ∀ (d o : Addr) (ts : List Addr) (H2 : Hp), Same H1 H2 → H2 o = some (.lst (ts.map V.ref)) → ∀ QE : VK, (∀ H4 b, Same H2 H4 → H2 b = none → H4 b = some (.tup (ts.map V.ref)) → QE (.ref b) H4) → te (((wipe σ vs).set i (some (.ref d))).set j (some (.ref o))) H2 QE)
    (fin : ∀ (p : Addr) (H' : Hp) (rs : List Addr), H1 p = none → Same H1 H' → H' p = some (.lst (rs.map V.ref)) → RowsO H0 H' rs f t → Q (.ref p) H') :
    LcIn (Itl K a) (gTup K 2 (gCons (gName i) (gCons (gName j) gNil))) tYes te vs σ H1 Q := fun D hD =>
  lc_it walk_list (fun m H => Same H1 H ∧ ∃ rs : List Addr, H D = some (.lst (rs.map V.ref)) ∧ RowsO H0 H rs f m) ⟨Same.new hD, [], upd_same, .nil⟩ (fun m H _ p => .inl (.inl (p.1 _ _ hx)))
    (fun m x H H' hm p y => by
      obtain ⟨rfl, hx'⟩ := y
      obtain ⟨s1, rs, eD, hp⟩ := p
      rw [List.getElem?_map] at hx'
      obtain ⟨b, hbm, rfl⟩ := Option.map_eq_some_iff.mp hx'
      obtain ⟨m', hm', d, o, ts, e1, e2, e3⟩ := Nd.paired_get hb hbm
      have hlt : m < t := by
        have := (List.getElem?_eq_some_iff.mp hm').1
        rwa [List.length_range] at this
      rw [List.getElem?_range hlt] at hm'
      obtain rfl := Option.some.inj hm'
      refine k_gtup (.inl (.inl (s1 _ _ e1))) rfl ?_
      refine k_gcons (k_gname (k_gcons (k_gname (k_gnil ?_))))
      refine ⟨hw _ _, k_tYes ?_⟩
      rw [if_pos rfl]
      refine step d o ts _ s1 (s1 _ _ e2) _ fun H4 b4 s4 nb4 eb4 => ?_
      have eD4 := s4 _ _ eD
      have nt : ∀ {c : Addr} {us : List V}, H4 c = some (.tup us) → c ≠ D := fun e z => by rw [z, eD4] at e; cases e
      have hrl : rs.length = m := by have := pairs_len hp; rwa [List.length_range] at this
      refine ⟨_, eD4, ?_, fun c u e => ?_, rs ++ [b4], ?_, ?_⟩
      · rw [List.length_map, hrl]
        exact Nat.lt_of_lt_of_le hlt (Nat.le_trans hz (by decide))
      · rw [upd_ne (ne_of_none e hD)]
        exact s4 _ _ (s1 _ _ e)
      · rw [upd_same, List.map_append]
        rfl
      · unfold RowsO
        rw [List.range_succ]
        refine Paired.snoc (pairs_mono (fun b m h => ⟨h.1, ?_⟩) hp) ⟨(s01.trans s1).free nb4, ts, (upd_ne (nt eb4)).trans eb4, pairs_mono (fun _ _ h => ⟨h.1, (upd_ne (nt (s4 _ _ (s1 _ _ h.2)))).trans (s4 _ _ (s1 _ _ h.2))⟩) e3⟩
        obtain ⟨ts', e1', h1⟩ := h.2
        exact ⟨ts', (upd_ne (nt (s4 _ _ e1'))).trans (s4 _ _ e1'), pairs_mono (fun _ _ h => ⟨h.1, (upd_ne (nt (s4 _ _ h.2))).trans (s4 _ _ h.2)⟩) h1⟩)
    (fun H' p => by
      obtain ⟨s1, rs, eD, hp⟩ := p
      have hl : (bs.map V.ref).length = t := by rw [List.length_map, pairs_len hb, List.length_range]
      rw [hl] at hp
      exact fin D H' rs hD s1 eD hp)
theorem RowsO.same {H H1 H2 : Hp} {rs : List Addr} {f : Nat → List (Int × Int)} {n : Nat} (h : RowsO H H1 rs f n) (s : Same H1 H2) : RowsO H H2 rs f n := pairs_mono (fun _ _ h => ⟨h.1, by
  obtain ⟨ts, e, h1⟩ := h.2
  exact ⟨ts, s _ _ e, pairs_mono (fun _ _ h => ⟨h.1, s _ _ h.2⟩) h1⟩⟩) h
theorem RowsO.dp {K : PySem.W.Frag} {H H1 : Hp} {f : Nat → List (Int × Int)} : ∀ {rs : List Addr} {l : List Nat}, Paired (fun b m => H b = none ∧ ∃ ts : List Addr, H1 b = some (.tup (ts.map V.ref)) ∧ Paired (PrI H H1) ts (f m)) rs l → DpAll K H1 (rs.map V.ref) (l.map fun m => rowD (f m))
  | _, _, .nil => .nil
  | _, _, .cons ⟨_, ts, e, h⟩ t => .cons (.tup (.inl (.inl e)) (prs_dpI h)) (RowsO.dp t)
theorem RowsO.congr {H H1 : Hp} {rs : List Addr} {f g : Nat → List (Int × Int)} {n : Nat} (h : RowsO H H1 rs f n) (e : ∀ m, m < n → f m = g m) : RowsO H H1 rs g n := by
  have : ∀ {rs : List Addr} {l : List Nat}, (∀ m ∈ l, f m = g m) → Paired (fun b m => H b = none ∧ ∃ ts : List Addr, H1 b = some (.tup (ts.map V.ref)) ∧ Paired (PrI H H1) ts (f m)) rs l → Paired (fun b m => H b = none ∧ ∃ ts : List Addr, H1 b = some (.tup (ts.map V.ref)) ∧ Paired (PrI H H1) ts (g m)) rs l := fun {rs l} h p => by
    induction p with
    | nil => exact .nil
    | cons x t ih => exact .cons ⟨x.1, by rw [← h _ List.mem_cons_self]; exact x.2⟩ (ih fun m hm => h m (List.mem_cons_of_mem _ hm))
  exact this (fun m hm => e m (List.mem_range.mp hm)) h
end Nd
namespace Nd
open PySem PySem.Spec PyProof.Rows L2 LamX
theorem rows_lay : ∀ rows : List (List (Int × Int)), PyData.canLayAll0 (rows.map rowD) = true ∧ PyData.depthAll (rows.map rowD) ≤ 2 := fun rows => by
  have h : ∀ ps : List (Int × Int), PyData.canLayAll0 (ps.map pD) = true ∧ PyData.depthAll (ps.map pD) ≤ 1 := fun ps => by
    induction ps with
    | nil => simp [PyData.canLayAll0, PyData.depthAll]
    | cons p ps ih =>
      refine ⟨by simp [PyData.canLayAll0, PyData.canLay0, pD, ih.1], ?_⟩
      simp [PyData.depthAll, PyData.depth, pD]
      omega
  induction rows with
  | nil => simp [PyData.canLayAll0, PyData.depthAll]
  | cons row rows ih =>
    obtain ⟨h1, h2⟩ := h row
    refine ⟨by simp [PyData.canLayAll0, PyData.canLay0, rowD, h1, ih.1], ?_⟩
    simp [PyData.depthAll, PyData.depth, rowD]
    omega
theorem sh_rows (rows : List (List (Int × Int))) : SeqAt.shaped (.tuple (rows.map rowD)) = true := by
  obtain ⟨h1, h2⟩ := rows_lay rows
  simp [SeqAt.shaped, PyData.canLay0, PyData.depth, h1]
  omega
theorem eqv_rows (rows : List (List (Int × Int))) : PyData.eqv (.tuple (rows.map rowD)) (.tuple (rows.map rowD)) = true := by
  have h : ∀ rows : List (List (Int × Int)), PyData.eqvAll (rows.map rowD) (rows.map rowD) = true := fun rows => by
    induction rows with
    | nil => simp only [List.map_nil, PyData.eqvAll]
    | cons r rows ih =>
      have := eqv_pDs r
      rw [List.map_cons, PyData.eqvAll, ih, Bool.and_true]
      exact this
  simp only [PyData.eqv, h]
theorem txw_small {p : Int × Int} (h1 : p.1.natAbs < 2 ^ 24) (h2 : p.2.natAbs ≤ 1) : TxW 80 (pD p) := by
  obtain ⟨a1, a2, a3⟩ := txw_int (n := 24) (Nat.lt_of_lt_of_le h1 (by decide +kernel)) h1 (by decide)
  obtain ⟨b1, b2, b3⟩ := txw_int (n := 2) (i := p.2) (Nat.lt_of_le_of_lt h2 (by decide +kernel)) (Nat.lt_of_le_of_lt h2 (by decide +kernel)) (by decide)
  refine ⟨?_, ?_, ?_, ?_⟩
  · simp [pD, PyData.showable, PyData.showableAll] at a1 b1 ⊢
    exact ⟨a1, b1⟩
  · simp [pD, PyData.depth, PyData.depthAll]
  · simp [pD, PyData.leavesShort, PyData.leavesShortAll] at a2 b2 ⊢
    exact ⟨a2, b2⟩
  · simp [pD, PyData.weight, PyData.weightAll] at a3 b3 ⊢
    omega
theorem txw_row {row : List (Int × Int)} {n : Nat} (h : ∀ p ∈ row, p.1.natAbs < 2 ^ 24 ∧ p.2.natAbs ≤ 1) (hl : row.length ≤ n) : TxW (90 * n + 20) (rowD row) := by
  obtain ⟨b1, b2, b3, b4⟩ := txw_all (W := 80) (ds := row.map pD) fun d hd => by
    obtain ⟨p, hp, rfl⟩ := List.mem_map.mp hd
    exact txw_small (h p hp).1 (h p hp).2
  have b2' : PyData.depthAll (row.map pD) ≤ 1 := by
    clear b1 b3 b4 h hl
    induction row with
    | nil => simp [PyData.depthAll]
    | cons p ps ih =>
      have := ih (by simp [PyData.depthAll] at b2; omega)
      simp [PyData.depthAll, PyData.depth, pD] at this ⊢
      omega
  rw [List.length_map] at b4
  have : 90 * row.length ≤ 90 * n := Nat.mul_le_mul_left _ hl
  refine ⟨by simp [rowD, PyData.showable, b1], by simp [rowD, PyData.depth]; omega, by simp [rowD, PyData.leavesShort, b3], ?_⟩
  simp [rowD, PyData.weight]
  omega
theorem oddsL_bound {A : List (Int × Int)} {L : List Int} {B : Int} (h : ∀ p ∈ A, -B ≤ p.1 ∧ p.1 ≤ B) : ∀ p ∈ oddsL A L, (-B ≤ p.1 ∧ p.1 ≤ B) ∧ p.2.natAbs ≤ 1 := fun p hp => by
  unfold oddsL at hp
  obtain ⟨q, hq, rfl⟩ := List.mem_map.mp hp
  refine ⟨h q (List.mem_filter.mp hq).1, ?_⟩
  show (if q.1 ∈ L then (-1 : Int) else 1).natAbs ≤ 1
  split <;> decide
end Nd
namespace Nd
open PySem PySem.Spec PyProof.Rows L2 LamX
def rTupA (K : PySem.W.Frag) : List V → Hp → VK → Prop := fun xs H Q => ∃ p ys, xs = [.ref p] ∧ ((SqL K H p ys ∧ ∀ l, H l = none → Q (.ref l) (upd H l (.tup ys))) ∨ (SqT K H p ys ∧ Q (.ref p) H))
end Nd
namespace Nd
open PySem PySem.Spec PyProof.Rows L2 LamX
theorem RowsO.gr {r : Addr} {k : Nat} {H H1 H2 : Hp} {rs : List Addr} {f : Nat → List (Int × Int)} {n : Nat} (h : RowsO H H1 rs f n) (R : Rid r k H1) (g : Gr r H1 H2) : RowsO H H2 rs f n := by
  obtain ⟨c, ns, a, z, _, h2, _⟩ := R.ex
  have nt : ∀ {b : Addr} {vs : List V}, H1 b = some (.tup vs) → b ≠ r := fun e z => by rw [z, h2] at e; cases e
  exact pairs_mono (fun _ _ h => ⟨h.1, by
    obtain ⟨ts, e, h1⟩ := h.2
    exact ⟨ts, g.all _ _ (nt e) e, pairs_mono (fun _ _ h => ⟨h.1, g.all _ _ (nt h.2) h.2⟩) h1⟩⟩) h
theorem play_rows {H H1 H2 : Hp} {hs hs0 : List (Int × Int)} {ks : List Int} {bs : List Addr} {t : Nat} {F : Nat → List (Int × Int)} (h : Paired (fun b n => PlayAt H H1 hs ks b n) bs (List.range t)) (s : Same H1 H2) (q0 : hs0.Perm hs) (a0 : Asc hs0) (hF : ∀ n, oddsL (its n (hs0, ks)).1 (its n (hs0, ks)).2 = F n) :
    Paired (fun b m => ∃ (d o : Addr) (ts : List Addr), H2 b = some (.tup [.ref d, .ref o]) ∧ H2 o = some (.lst (ts.map V.ref)) ∧ Paired (PrI H H2) ts (F m)) bs (List.range t) := pairs_mono (fun b n h => by
  obtain ⟨_, d, o, qs, kk, ts, e1, _, _, _, _, e2, os, e3, e4⟩ := h
  rw [e4 hs0 ks q0 a0 (List.Perm.refl _), hF] at e3
  exact ⟨d, o, ts, s _ _ e1, s _ _ e2, pairs_mono (fun _ _ h => ⟨h.1, s _ _ h.2⟩) e3⟩) h
end Nd
namespace Nd
open PySem PySem.Spec PyProof.Rows L2 LamX
/-! ### oddness in a field, spot and tick -/
theorem k_sortedPL {K : PySem.W.Frag} {a : Addr} {ts : List Addr} {ps : List (Int × Int)} {H0 H : Hp} {Q : VK} (ea : H a = some (.lst (ts.map V.ref))) (hp : Paired (PrI H0 H) ts ps)
    (q : ∀ p ts' ps', H p = none → ps'.Perm ps → ps'.Pairwise lexLe → Paired (PrI H0 H) ts' ps' → Q (.ref p) (upd H p (.lst (ts'.map V.ref)))) : rSortedPO K [.ref a] H Q := by
  refine ⟨a, _, keyAt H, rfl, .inl (.inl ea), fun x hx => ?_, fun ys p srt stb np => ?_⟩
  · obtain ⟨t, ht, rfl⟩ := List.mem_map.mp hx
    obtain ⟨y, _, h⟩ := pairs_memL hp ht
    refine ⟨t, rfl, ?_⟩
    rw [keyAt_of h.2]
    exact h.2
  · obtain ⟨ts', rfl⟩ : ∃ ts' : List Addr, ys = ts'.map V.ref := by
      refine ⟨ys.map fun v => match v with | .ref t => t | _ => 0, ?_⟩
      rw [List.map_map]
      conv => lhs; rw [← List.map_id ys]
      refine List.map_congr_left fun y hy => ?_
      obtain ⟨t, _, rfl⟩ := List.mem_map.mp (stb.perm.mem_iff.mp hy)
      rfl
    have ht : ∀ t ∈ ts', t ∈ ts := fun t h => by
      obtain ⟨t2, h2, e⟩ := List.mem_map.mp (stb.perm.mem_iff.mp (List.mem_map.mpr ⟨t, h, rfl⟩))
      cases e
      exact h2
    have hpr : Paired (PrI H0 H) ts' (ts'.map fun t => keyAt H (.ref t)) := pairs_of_keys fun t h => by
      obtain ⟨y, _, f⟩ := pairs_memL hp (ht t h)
      exact ⟨f.1, y, f.2⟩
    have perm : (ts'.map fun t => keyAt H (.ref t)).Perm ps := by
      rw [pairs_keys hp]
      have := stb.perm.map (keyAt H)
      rw [List.map_map, List.map_map] at this
      exact this
    refine q p ts' _ np perm ?_ hpr
    have srt2 : (ts'.map fun t => keyAt H (.ref t)).Pairwise fun x y : Int × Int => SrtO.lexB y x = false := by
      refine List.pairwise_map.mpr ?_
      exact (List.pairwise_map.mp srt)
    refine srt2.imp fun {x y} h => ?_
    have := SrtO.lexB_no.mp h
    unfold lexLe
    omega
theorem lex_uniq {ps qs rs : List (Int × Int)} (h1 : ps.Perm rs) (h2 : qs.Perm rs) (s1 : ps.Pairwise lexLe) (s2 : qs.Pairwise lexLe) : ps = qs :=
  List.Perm.eq_of_pairwise (le := lexLe) (fun a b _ _ h1 h2 => by unfold lexLe at h1 h2; exact Prod.ext (by omega) (by omega)) s1 s2 (h1.trans h2.symm)
def fieldL (F : Nat → List (Int × Int)) (lo hi : Int) (n : Nat) : List (Int × Int) := ((F n).filter fun p => decide (lo ≤ p.1 ∧ p.1 ≤ hi)).map fun p => (p.1, (n : Int))
def foundL (F : Nat → List (Int × Int)) (lo hi : Int) (t : Nat) : List (Int × Int) := (List.range t).flatMap (fieldL F lo hi)
theorem foundL_succ {F : Nat → List (Int × Int)} {lo hi : Int} {t : Nat} : foundL F lo hi (t + 1) = foundL F lo hi t ++ fieldL F lo hi t := by
  unfold foundL
  rw [List.range_succ, List.flatMap_append]
  simp
theorem foundL_len {F : Nat → List (Int × Int)} {lo hi : Int} {B : Nat} : ∀ {t : Nat}, (∀ n, n < t → (F n).length ≤ B) → (foundL F lo hi t).length ≤ t * B
  | 0, _ => by simp [foundL]
  | t + 1, h => by
    rw [foundL_succ, List.length_append]
    have h1 := foundL_len (t := t) (lo := lo) (hi := hi) fun n hn => h n (by omega)
    have h2 : (fieldL F lo hi t).length ≤ B := by
      unfold fieldL
      rw [List.length_map]
      exact Nat.le_trans (List.length_filter_le _ _) (h t (by omega))
    rw [Nat.add_mul]
    omega
theorem foundL_mem {F : Nat → List (Int × Int)} {lo hi : Int} {t : Nat} {p : Int × Int} (h : p ∈ foundL F lo hi t) : lo ≤ p.1 ∧ p.1 ≤ hi ∧ 0 ≤ p.2 ∧ p.2 < t := by
  obtain ⟨n, hn, h⟩ := List.mem_flatMap.mp h
  obtain ⟨q, hq, rfl⟩ := List.mem_map.mp h
  have h1 := of_decide_eq_true (List.mem_filter.mp hq).2
  have h2 := List.mem_range.mp hn
  exact ⟨h1.1, h1.2, by show (0 : Int) ≤ (n : Int); omega, by show (n : Int) < t; omega⟩
theorem foundL_congr {F G : Nat → List (Int × Int)} {lo hi : Int} : ∀ {t : Nat}, (∀ n, n < t → F n = G n) → foundL F lo hi t = foundL G lo hi t
  | 0, _ => rfl
  | t + 1, h => by
    rw [foundL_succ, foundL_succ, foundL_congr fun n hn => h n (by omega)]
    unfold fieldL
    rw [h t (by omega)]
def spNeedField : Sp := fun vs H Q _ => ∃ (lo hi : Int) (t : Nat), vs = [.int lo, .int hi, .int (t : Int)] ∧ -999900 ≤ lo ∧ lo ≤ 999900 ∧ lo ≤ hi ∧ hi ≤ lo + 80 ∧ t ≤ 10 ∧ ∀ H', Same H H' → Q .non H'
def spOddness : Sp := fun vs H Q _ => ∃ (r : Addr) (v x : V) (hs : List (Int × Int)) (ks : List Int) (lo hi : Int) (t : Nat), vs = [v, x, .int lo, .int hi, .int (t : Int)] ∧ Hs r H v hs ∧ OkHs hs ∧ LfS r H x ks ∧ -999900 ≤ lo ∧ lo ≤ 999900 ∧ lo ≤ hi ∧ hi ≤ lo + 80 ∧ t ≤ 10 ∧
  ∀ H' a ts ps hs' ls, Same H H' → H a = none → H' a = some (.tup (ts.map V.ref)) → Paired (PrI H H') ts ps → hs'.Perm hs → Asc hs' → ls.Perm ks → ps.Perm (foundL (fun n => oddsL (its n (hs', ls)).1 (its n (hs', ls)).2) lo hi t) → ps.Pairwise lexLe → Q (.ref a) H'
end Nd
namespace Nd
open PySem PySem.Spec PyProof.Rows L2 LamX
theorem k_chain {r r' : R2} {ta tb tc : TE} {σ : L2.St} {H : Hp} {Q : VK} (h : ta σ H fun x H1 => tb σ H1 fun y H2 => r x y H2 fun z H3 => ∃ k, z = .bl k ∧ (if k = true then tc σ H3 fun w' H4 => r' y w' H4 Q else Q (.bl false) H3)) : tChain r r' ta tb tc σ H Q := h
theorem k_ext {l b : Addr} {xs zs : List V} {H : Hp} {Q : VK} (h : H l = some (.lst xs)) (h2 : H b = some (.lst zs)) (hz : xs.length + zs.length ≤ sizeLine) (q : Q .non (upd H l (.lst (xs ++ zs)))) : rExtend (.ref l) [.ref b] H Q := ⟨l, b, xs, zs, rfl, rfl, h, h2, hz, q⟩
end Nd
namespace Nd
open PySem PySem.Spec PyProof.Rows L2 LamX
theorem passInM {K : PySem.W.Frag} {a r : Addr} {ts : List Addr} {hs : List (Int × Int)} {j N : Nat} {te : TE} {vs : List Nat} {σ : L2.St} {H1 : Hp} {Q : VK} {M : Nat} {h4 : hs.length ≤ M} {hM : M ≤ 1000} (R : Rid r N H1) (na : a ≠ r) (ea : H1 a = some (.lst (ts.map V.ref))) (hts : Paired (fun t p => t ≠ r ∧ H1 t = some (.tup [.int p.1, .int p.2])) ts hs)
    (hw : ∀ x, wipe ((wipe σ vs).set j (some x)) vs = wipe σ vs)
    (step : ∀ (m : Nat) (t : Addr) (p : Int × Int) (H2 : Hp), m < M → t ≠ r → Gr r H1 H2 → Rid r (N + m) H2 → H2 t = some (.tup [.int p.1, .int p.2]) → ∀ QE : VK, (∀ H4 y, Gr r H2 H4 → Rid r (N + m + 1) H4 → PrA r H4 y p → QE y H4) → te ((wipe σ vs).set j (some (.ref t))) H2 QE)
    (fin : ∀ (p : Addr) (H' : Hp) (ys : List V), H1 p = none → Gr r H1 H' → Rid r (N + hs.length) H' → H' p = some (.lst ys) → Paired (PrA r H') ys hs → Q (.ref p) H') :
    LcIn (Itl K a) (gName j) tYes te vs σ H1 Q := fun D hD =>
  have nD := R.ne hD
  have eR : ∃ u, H1 r = some u := by
    obtain ⟨c, ns, a, z, h1, h2, _⟩ := R.ex
    exact ⟨_, h2⟩
  have hl : (ts.map V.ref).length = hs.length := by rw [List.length_map, pairs_len hts]
  lc_it walk_list (fun m H => Gr r H1 H ∧ Rid r (N + m) H ∧ ∃ ys : List V, H D = some (.lst ys) ∧ Paired (PrA r H) ys (hs.take m)) ⟨Gr.new hD, R.new hD, [], upd_same, .nil⟩ (fun m H _ p => .inl (.inl (p.1.all _ _ na ea)))
    (fun m x H H' hm p y => by
      obtain ⟨rfl, hx⟩ := y
      obtain ⟨g1, Rm, ys, eD, hp⟩ := p
      rw [List.getElem?_map] at hx
      obtain ⟨t, ht, rfl⟩ := Option.map_eq_some_iff.mp hx
      obtain ⟨z, hz1, nt, et⟩ := Nd.paired_get hts ht
      refine k_gname ?_
      refine ⟨hw _, k_tYes ?_⟩
      rw [if_pos rfl]
      refine step m t z _ (by omega) nt g1 Rm (g1.all _ _ nt et) _ fun H4 y g4 R4 hy => ?_
      have eD4 := g4.all _ _ nD eD
      have gz := g1.trans g4
      refine ⟨_, eD4, ?_, grPutNew gz hD eR, (ridN_of R gz R4 hD).put.rid, ys ++ [y], upd_same, ?_⟩
      · rw [pairs_len hp, List.length_take]
        exact Nat.lt_of_le_of_lt (Nat.min_le_right _ _) (Nat.lt_of_le_of_lt h4 (Nat.lt_of_le_of_lt hM (by decide)))
      · have hp4 : Paired (PrA r H4) ys (hs.take m) := pairs_mono (fun _ _ h => PrA.gr h g4) hp
        have put : ∀ {v : V} {p : Int × Int}, PrA r H4 v p → PrA r (upd H4 D (.lst (ys ++ [y]))) v p := fun h => by
          obtain ⟨b, rfl, nb, e⟩ := h
          have : b ≠ D := fun z => by
            rw [z] at e
            rcases e with e | e
            · rcases e.is eD4 with e | ⟨_, e⟩ <;> cases e
            · rw [eD4] at e
              cases e
              exact pra_no_int hp4
          exact ⟨b, rfl, nb, trTo e fun u eu => (upd_ne this).trans eu⟩
        rw [List.take_succ, hz1]
        exact Paired.snoc (pairs_mono (fun _ _ h => put h) hp4) (put hy))
    (fun H' p => by
      obtain ⟨g1, Rm, ys, eD, hp⟩ := p
      rw [hl] at Rm
      rw [hl, List.take_length] at hp
      exact fin D H' ys hD g1 Rm eD hp)
theorem txw_pt {p : Int × Int} (h1 : p.1.natAbs < 2 ^ 24) (h2 : p.2.natAbs < 2 ^ 10) : TxW 90 (pD p) := by
  obtain ⟨a1, a2, a3⟩ := txw_int (n := 24) (Nat.lt_of_lt_of_le h1 (by decide +kernel)) h1 (by decide)
  obtain ⟨b1, b2, b3⟩ := txw_int (n := 10) (i := p.2) (Nat.lt_of_lt_of_le h2 (by decide +kernel)) h2 (by decide)
  refine ⟨?_, ?_, ?_, ?_⟩
  · simp [pD, PyData.showable, PyData.showableAll] at a1 b1 ⊢
    exact ⟨a1, b1⟩
  · simp [pD, PyData.depth, PyData.depthAll]
  · simp [pD, PyData.leavesShort, PyData.leavesShortAll] at a2 b2 ⊢
    exact ⟨a2, b2⟩
  · simp [pD, PyData.weight, PyData.weightAll] at a3 b3 ⊢
    omega
end Nd

namespace Nd
open PySem PySem.Spec PyProof.Rows L2
theorem putK_keyI {ps qs : List (Int × Int)} {k v : Int} (h : putK (ps.map entI) (.inl k) (.int v) = qs.map entI) : ∀ q ∈ qs, (∃ p ∈ ps, p.1 = q.1) ∨ q.1 = k := fun q hq => by
  have hm : entI q ∈ putK (ps.map entI) (.inl k) (.int v) := by
    rw [h]
    exact List.mem_map.mpr ⟨q, hq, rfl⟩
  unfold putK at hm
  split at hm
  · obtain ⟨kv, h1, h2⟩ := List.mem_map.mp hm
    obtain ⟨p, hp, rfl⟩ := List.mem_map.mp h1
    by_cases e : (entI p).1 = Sum.inl k
    · rw [if_pos e] at h2
      exact .inl ⟨p, hp, Sum.inl.inj (congrArg Prod.fst h2)⟩
    · rw [if_neg e] at h2
      exact .inl ⟨p, hp, Sum.inl.inj (congrArg Prod.fst h2)⟩
  · rcases List.mem_append.mp hm with h1 | h1
    · obtain ⟨p, hp, e⟩ := List.mem_map.mp h1
      exact .inl ⟨p, hp, Sum.inl.inj (congrArg Prod.fst e)⟩
    · exact .inr (Sum.inl.inj (congrArg Prod.fst (List.mem_singleton.mp h1)))
/-- a drawn start of at most so many heaps, all near -/
def spStartM : Sp := fun vs H Q _ => ∃ (r : Addr) (n m : Nat), vs = [.ref r, .int (m : Int)] ∧ Rid r n H ∧ n + 100 < 1000000 ∧ m ≤ 4 ∧
  ∀ H' p ph lf hs ks, Gr r H H' → Rid r (n + 60) H' → p ≠ r → H' p = some (.tup [ph, .ref lf]) → HTu r H' ph hs → OkHs hs → hs.length ≤ m → (∀ p ∈ hs, -62 ≤ p.1 ∧ p.1 ≤ 62) → H' lf = some (.lst (ks.map V.int)) → LfS r H' (.ref lf) ks → ks.length ≤ 5 → (∀ k ∈ ks, -9 ≤ k ∧ k ≤ 9) → Q (.ref p) H'
end Nd

namespace Nd
open PySem PySem.Spec PyProof.Rows L2
/-! heaps and lefts that a law writes out -/
theorem prA_new {r p : Addr} {H : Hp} {x y : Int} (n : p ≠ r) (e : H p = some (.tup [.int x, .int y])) : PrA r H (.ref p) (x, y) := ⟨p, rfl, n, .inl e⟩
theorem hs_lst {r p : Addr} {H : Hp} {xs : List V} {hs : List (Int × Int)} (n : p ≠ r) (e : H p = some (.lst xs)) (h : Paired (PrA r H) xs hs) : Hs r H (.ref p) hs := ⟨p, xs, rfl, n, .inl e, h⟩
theorem lfs_lst {r p : Addr} {H : Hp} {xs : List V} {ks : List Int} (n : p ≠ r) (e : H p = some (.lst xs)) (hx : xs = ks.map V.int) (few : ks.length ≤ 400) (nd : ks.Nodup) (ok : ∀ k ∈ ks, -1000000 ≤ k ∧ k ≤ 1000000) : LfS r H (.ref p) ks := ⟨⟨p, rfl, n, .inl (hx ▸ e)⟩, few, nd, ok⟩
theorem okHeap_mk {x y : Int} (h : -1000000 ≤ x ∧ x ≤ 1000000 ∧ 1 ≤ y ∧ y ≤ 10 ^ 60) : okHeap (x, y) = true := by
  unfold okHeap
  rw [decide_eq_true h.1, decide_eq_true h.2.1, decide_eq_true h.2.2.1, decide_eq_true h.2.2.2]; rfl
theorem okHs_one {x m : Int} (h1 : -1000 ≤ x ∧ x ≤ 1000) (h2 : 1 ≤ m ∧ m ≤ 10 ^ 60) : OkHs [(x, m)] := by
  refine ⟨by simp, ?_, by simp, x % 2, by simp⟩
  intro p hp
  simp only [List.mem_cons, List.not_mem_nil, or_false] at hp
  subst hp
  exact okHeap_mk ⟨by omega, by omega, h2.1, h2.2⟩
theorem okHs_two {x y m n : Int} (h1 : -1000 ≤ x ∧ x ≤ 1000) (h2 : -1000 ≤ y ∧ y ≤ 1000) (h3 : x ≠ y) (h4 : x % 2 = y % 2) (h5 : 1 ≤ m ∧ m ≤ 1000) (h6 : 1 ≤ n ∧ n ≤ 1000) : OkHs [(x, m), (y, n)] := by
  refine ⟨by simp, ?_, by simp [h3], x % 2, by simp [h4]⟩
  intro p hp
  have big : (1000 : Int) ≤ 10 ^ 60 := by decide
  simp only [List.mem_cons, List.not_mem_nil, or_false] at hp
  rcases hp with rfl | rfl <;> exact okHeap_mk ⟨by omega, by omega, by omega, Int.le_trans (by omega) big⟩
theorem okHs_three {b m n o : Int} (h1 : -900 ≤ b ∧ b ≤ 900) (h5 : 1 ≤ m ∧ m ≤ 1000) (h6 : 1 ≤ n ∧ n ≤ 1000) (h7 : 1 ≤ o ∧ o ≤ 1000) : OkHs [(b - 2, m), (b, n), (b + 2, o)] := by
  refine ⟨by simp, ?_, ?_, b % 2, ?_⟩
  · intro p hp
    have big : (1000 : Int) ≤ 10 ^ 60 := by decide
    simp only [List.mem_cons, List.not_mem_nil, or_false] at hp
    rcases hp with rfl | rfl | rfl <;> exact okHeap_mk ⟨by omega, by omega, by omega, Int.le_trans (by omega) big⟩
  · simp only [List.map_cons, List.map_nil, List.nodup_cons, List.mem_cons, List.not_mem_nil, or_false, not_or, not_false_iff, List.nodup_nil, and_true]
    exact ⟨⟨by omega, by omega⟩, by omega⟩
  · intro p hp
    simp only [List.mem_cons, List.not_mem_nil, or_false] at hp
    rcases hp with rfl | rfl | rfl <;> simp only <;> omega
end Nd

namespace Nd
open PySem PySem.Spec PyProof.Rows L2 LamX
/-! ### ticks as functions of the spot -/
abbrev FSt := (Int → Int) × (Int → Bool)
def stF (s : FSt) : FSt := (fun k => sL s.2 (k + 1, s.1 (k + 1)) + sR s.2 (k - 1, s.1 (k - 1)), fun k => if s.1 k % 2 = 1 then !s.2 k else s.2 k)
def itF : Nat → FSt → FSt
  | 0, s => s
  | n + 1, s => stF (itF n s)
theorem sL_eq (L : Int → Bool) (s a : Int) : sL L (s, a) = if a % 2 = 1 ∧ L s = true then a / 2 + 1 else a / 2 := rfl
theorem sR_eq (L : Int → Bool) (s a : Int) : sR L (s, a) = if a % 2 = 1 ∧ L s = false then a / 2 + 1 else a / 2 := rfl
theorem pick_sum (F : Int × Int → Int) (s : Int) : ∀ {A : List (Int × Int)}, (A.map (·.1)).Nodup → F (s, 0) = 0 → (A.map fun p => if p.1 = s then F p else 0).sum = F (s, Nd.cnt A 0 s)
  | [], _, h0 => by rw [cnt_nil, h0]; rfl
  | p :: A, hn, h0 => by
    rw [List.map_cons, List.nodup_cons] at hn
    rw [List.map_cons, List.sum_cons]
    by_cases e : p.1 = s
    · subst e
      rw [if_pos rfl]
      have hz : (A.map fun q => if q.1 = p.1 then F q else 0).sum = 0 := sum_zero fun q hq => if_neg fun z => hn.1 (by rw [← z]; exact List.mem_map.mpr ⟨q, hq, rfl⟩)
      rw [hz, cnt_cons, W, if_pos (by omega), cnt_zero_off hn.1]
      simp
    · rw [if_neg e, pick_sum F s hn.2 h0, cnt_cons, W, if_neg (by omega)]
      simp
theorem sum_addP {α : Type} (f g : α → Int) : ∀ l : List α, (l.map fun x => f x + g x).sum = (l.map f).sum + (l.map g).sum
  | [] => rfl
  | x :: l => by
    rw [List.map_cons, List.sum_cons, sum_addP f g l, List.map_cons, List.sum_cons, List.map_cons, List.sum_cons]
    omega
theorem stp_fun {A : List (Int × Int)} {L : List Int} (a : Asc A) : Nd.cnt (stp (A, L)).1 0 = (stF (Nd.cnt A 0, fun x => decide (x ∈ L))).1 ∧ (fun x => decide (x ∈ (stp (A, L)).2)) = (stF (Nd.cnt A 0, fun x => decide (x ∈ L))).2 := by
  refine ⟨funext fun k => ?_, funext fun k => ?_⟩
  · show Nd.cnt (sentF _ A) 0 k = sL _ (k + 1, _) + sR _ (k - 1, _)
    rw [cnt_sent, sum_addP]
    have h1 := pick_sum (fun p => sL (fun x => decide (x ∈ L)) p) (k + 1) (asc_nodup a) (by rw [sL_eq]; simp)
    have h2 := pick_sum (fun p => sR (fun x => decide (x ∈ L)) p) (k - 1) (asc_nodup a) (by rw [sR_eq]; simp)
    rw [← h1, ← h2]
    congr 2
    · refine List.map_congr_left fun p _ => ?_
      unfold at2
      by_cases e : p.1 = k + 1
      · rw [if_pos e, if_pos (by omega)]
      · rw [if_neg e, if_neg (by omega)]
    · refine List.map_congr_left fun p _ => ?_
      unfold at2
      by_cases e : p.1 = k - 1
      · rw [if_pos e, if_pos (by omega)]
      · rw [if_neg e, if_neg (by omega)]
  · show decide (k ∈ turnsK L A) = if Nd.cnt A 0 k % 2 = 1 then !decide (k ∈ L) else decide (k ∈ L)
    by_cases hk : k ∈ A.map (·.1)
    · obtain ⟨p, hp, rfl⟩ := List.mem_map.mp hk
      rw [cnt_zero_at (asc_nodup a) hp]
      have := turnsK_in (s := p.1) (v := p.2) (ks := L) (asc_nodup a) hp
      by_cases h : p.2 % 2 = 1
      · rw [if_pos h] at this ⊢
        by_cases hm : p.1 ∈ L
        · rw [decide_eq_true hm, decide_eq_false (fun z => this.mp z hm)]
          rfl
        · rw [decide_eq_false hm, decide_eq_true (this.mpr hm)]
          rfl
      · rw [if_neg h] at this ⊢
        rw [decide_eq_decide.mpr this]
    · rw [cnt_zero_off hk, if_neg (by decide)]
      exact decide_eq_decide.mpr (turnsK_off fun p hp e => hk (List.mem_map.mpr ⟨p, hp, e⟩))
theorem its_fun {A : List (Int × Int)} {L : List Int} (a : Asc A) : ∀ n : Nat, Nd.cnt (its n (A, L)).1 0 = (itF n (Nd.cnt A 0, fun x => decide (x ∈ L))).1 ∧ (fun x => decide (x ∈ (its n (A, L)).2)) = (itF n (Nd.cnt A 0, fun x => decide (x ∈ L))).2
  | 0 => ⟨rfl, rfl⟩
  | n + 1 => by
    obtain ⟨h1, h2⟩ := its_fun a n
    obtain ⟨g1, g2⟩ := stp_fun (L := (its n (A, L)).2) (its_asc (ls := L) a n)
    show Nd.cnt (stp (its n (A, L))).1 0 = (stF (itF n _)).1 ∧ _ = (stF (itF n _)).2
    rw [h1, h2] at g1 g2
    exact ⟨g1, g2⟩
/-- moved by b -/
theorem itF_move (b : Int) (s : FSt) : ∀ n : Nat, itF n (fun k => s.1 (k - b), fun k => s.2 (k - b)) = (fun k => (itF n s).1 (k - b), fun k => (itF n s).2 (k - b))
  | 0 => rfl
  | n + 1 => by
    show stF (itF n _) = (fun k => (stF (itF n s)).1 (k - b), fun k => (stF (itF n s)).2 (k - b))
    rw [itF_move b s n]
    unfold stF
    refine Prod.ext (funext fun k => ?_) rfl
    show sL _ _ + sR _ _ = sL _ _ + sR _ _
    rw [sL_eq, sR_eq, sL_eq, sR_eq]
    simp only [show k + 1 - b = k - b + 1 by omega, show k - 1 - b = k - b - 1 by omega]
theorem sL_even (L : Int → Bool) (s a h : Int) : sL L (s, a + 2 * h) = sL L (s, a) + h := by
  rw [sL_eq, sL_eq]
  have e1 : (a + 2 * h) % 2 = a % 2 := by omega
  have e2 : (a + 2 * h) / 2 = a / 2 + h := by omega
  rw [e1, e2]
  split <;> omega
theorem sR_even (L : Int → Bool) (s a h : Int) : sR L (s, a + 2 * h) = sR L (s, a) + h := by
  rw [sR_eq, sR_eq]
  have e1 : (a + 2 * h) % 2 = a % 2 := by omega
  have e2 : (a + 2 * h) / 2 = a / 2 + h := by omega
  rw [e1, e2]
  split <;> omega
/-- what a power of two divides goes as the mean, and turns no hand -/
theorem itF_more {t : Nat} (s : FSt) (c : Nat → Int → Int) (hc : ∀ n k, c (n + 1) k = c n (k + 1) + c n (k - 1)) : ∀ n : Nat, n ≤ t → itF n (fun k => s.1 k + 2 ^ t * c 0 k, s.2) = (fun k => (itF n s).1 k + 2 ^ (t - n) * c n k, (itF n s).2)
  | 0, _ => rfl
  | n + 1, hn => by
    have e : t - n = (t - (n + 1)) + 1 := by omega
    have e2 : ∀ x : Int, (2 : Int) ^ (t - n) * x = 2 * (2 ^ (t - (n + 1)) * x) := fun x => by rw [e, Int.pow_succ, Int.mul_comm _ 2, Int.mul_assoc]
    show stF (itF n _) = (fun k => (stF (itF n s)).1 k + _, (stF (itF n s)).2)
    rw [itF_more s c hc n (by omega)]
    unfold stF
    refine Prod.ext (funext fun k => ?_) (funext fun k => ?_)
    · show sL (itF n s).2 (k + 1, (itF n s).1 (k + 1) + 2 ^ (t - n) * c n (k + 1)) + sR (itF n s).2 (k - 1, (itF n s).1 (k - 1) + 2 ^ (t - n) * c n (k - 1)) = sL (itF n s).2 (k + 1, (itF n s).1 (k + 1)) + sR (itF n s).2 (k - 1, (itF n s).1 (k - 1)) + 2 ^ (t - (n + 1)) * c (n + 1) k
      rw [e2, e2, sL_even, sR_even, hc, Int.mul_add]
      omega
    · show (if ((itF n s).1 k + 2 ^ (t - n) * c n k) % 2 = 1 then !(itF n s).2 k else (itF n s).2 k) = if (itF n s).1 k % 2 = 1 then _ else _
      rw [e2, show ((itF n s).1 k + 2 * (2 ^ (t - (n + 1)) * c n k)) % 2 = (itF n s).1 k % 2 by omega]
/-- hands of spots where no odd heap comes change nothing -/
theorem itF_idle {a : Int → Int} {L M : Int → Bool} {t : Nat} (h : ∀ k, (∃ n, n < t ∧ (itF n (a, L)).1 k % 2 = 1) → L k = M k) : ∀ n : Nat, n ≤ t → (itF n (a, L)).1 = (itF n (a, M)).1 ∧ ∀ k, L k = M k → (itF n (a, L)).2 k = (itF n (a, M)).2 k
  | 0, _ => ⟨rfl, fun k e => e⟩
  | n + 1, hn => by
    obtain ⟨h1, h2⟩ := itF_idle h n (by omega)
    have key : ∀ k, sL (itF n (a, L)).2 (k, (itF n (a, L)).1 k) = sL (itF n (a, M)).2 (k, (itF n (a, M)).1 k) ∧ sR (itF n (a, L)).2 (k, (itF n (a, L)).1 k) = sR (itF n (a, M)).2 (k, (itF n (a, M)).1 k) := fun k => by
      rw [sL_eq, sR_eq, sL_eq, sR_eq, ← h1]
      by_cases o : (itF n (a, L)).1 k % 2 = 1
      · rw [h2 k (h k ⟨n, by omega, o⟩)]
        exact ⟨rfl, rfl⟩
      · rw [if_neg (fun z => o z.1), if_neg (fun z => o z.1), if_neg (fun z => o z.1), if_neg (fun z => o z.1)]
        exact ⟨rfl, rfl⟩
    refine ⟨funext fun k => ?_, fun k e => ?_⟩
    · show sL _ _ + sR _ _ = sL _ _ + sR _ _
      rw [(key (k + 1)).1, (key (k - 1)).2]
    · show (if (itF n (a, L)).1 k % 2 = 1 then !(itF n (a, L)).2 k else (itF n (a, L)).2 k) = if (itF n (a, M)).1 k % 2 = 1 then _ else _
      rw [← h1, h2 k e]
/-- where nothing can have come -/
theorem itF_zero {s : FSt} {lo hi : Int} (h : ∀ k, ¬ (lo ≤ k ∧ k ≤ hi) → s.1 k = 0) : ∀ (n : Nat) (k : Int), ¬ (lo - n ≤ k ∧ k ≤ hi + n) → (itF n s).1 k = 0
  | 0, k, hk => h k (by simpa using hk)
  | n + 1, k, hk => by
    show sL _ (k + 1, _) + sR _ (k - 1, _) = 0
    rw [sL_eq, sR_eq, itF_zero h n (k + 1) (by omega), itF_zero h n (k - 1) (by omega)]
    simp
/-- two starts far off from one another -/
theorem itF_two {s u v : FSt} {lo hi lo' hi' : Int} (hu : ∀ k, ¬ (lo ≤ k ∧ k ≤ hi) → u.1 k = 0) (hv : ∀ k, ¬ (lo' ≤ k ∧ k ≤ hi') → v.1 k = 0) (ha : ∀ k, s.1 k = u.1 k + v.1 k) {m : Nat} (hm : hi + 2 * m + 2 < lo') (h1 : ∀ k, k ≤ hi + m → s.2 k = u.2 k) (h2 : ∀ k, lo' - m ≤ k → s.2 k = v.2 k) :
    ∀ n : Nat, n ≤ m → (∀ k, (itF n s).1 k = (itF n u).1 k + (itF n v).1 k) ∧ (∀ k, k ≤ hi + m → (itF n s).2 k = (itF n u).2 k) ∧ ∀ k, lo' - m ≤ k → (itF n s).2 k = (itF n v).2 k
  | 0, _ => ⟨ha, h1, h2⟩
  | n + 1, hn => by
    obtain ⟨i1, i2, i3⟩ := itF_two hu hv ha hm h1 h2 n (by omega)
    have zu := itF_zero hu n
    have zv := itF_zero hv n
    have key : ∀ k, sL (itF n s).2 (k, (itF n s).1 k) = sL (itF n u).2 (k, (itF n u).1 k) + sL (itF n v).2 (k, (itF n v).1 k) ∧ sR (itF n s).2 (k, (itF n s).1 k) = sR (itF n u).2 (k, (itF n u).1 k) + sR (itF n v).2 (k, (itF n v).1 k) := fun k => by
      rw [sL_eq, sR_eq, sL_eq, sR_eq, sL_eq, sR_eq, i1 k]
      by_cases c : k ≤ hi + n
      · rw [zv k (by omega), i2 k (by omega)]
        simp
      · rw [zu k (by omega)]
        by_cases c2 : lo' - n ≤ k
        · rw [i3 k (by omega)]
          simp
        · rw [zv k (by omega)]
          simp
    refine ⟨fun k => ?_, fun k hk => ?_, fun k hk => ?_⟩
    · show sL _ _ + sR _ _ = (sL _ _ + sR _ _) + (sL _ _ + sR _ _)
      rw [(key (k + 1)).1, (key (k - 1)).2]
      omega
    · show (if (itF n s).1 k % 2 = 1 then !(itF n s).2 k else (itF n s).2 k) = if (itF n u).1 k % 2 = 1 then _ else _
      rw [i1 k, zv k (by omega), Int.add_zero, i2 k hk]
    · show (if (itF n s).1 k % 2 = 1 then !(itF n s).2 k else (itF n s).2 k) = if (itF n v).1 k % 2 = 1 then _ else _
      rw [i1 k, zu k (by omega), Int.zero_add, i3 k hk]
def f0 (hs : List (Int × Int)) (ks : List Int) : FSt := (Nd.cnt hs 0, fun x => decide (x ∈ ks))
end Nd

namespace Nd
open PySem PySem.Spec PyProof.Rows L2 LamX
/-! ### gaps as functions of the spot -/
def gapF (hs : List (Int × Int)) (L : Int → Bool) (t : Nat) (k : Int) : Rat := (((itF t (Nd.cnt hs 0, L)).1 k : Int) : Rat) - Rat.divInt (Nd.cnt hs t k) (2 ^ t)
theorem gapR_F {hs hs' : List (Int × Int)} {ls ks : List Int} {t : Nat} {k : Int} (p1 : hs'.Perm hs) (a : Asc hs') (p2 : ls.Perm ks) : gapR hs' ls hs t k = gapF hs (fun x => decide (x ∈ ks)) t k := by
  unfold gapR gapF
  rw [(its_fun a t).1, show Nd.cnt hs' 0 = Nd.cnt hs 0 from funext fun s => cnt_perm p1 0 s, show (fun x => decide (x ∈ ls)) = fun x => decide (x ∈ ks) from funext fun x => decide_eq_decide.mpr p2.mem_iff]
theorem gapF_off {hs : List (Int × Int)} {L : Int → Bool} {t : Nat} {k : Int} (hp : ∀ p ∈ hs, 1 ≤ p.2) (h : Nd.cnt hs t k = 0) : gapF hs L t k = 0 := by
  have key : ∀ (n : Nat) (k : Int), Nd.cnt hs n k = 0 → (itF n (Nd.cnt hs 0, L)).1 k = 0 := by
    intro n
    induction n with
    | zero => exact fun k h => h
    | succ n ih =>
      intro k h
      rw [cnt_succ] at h
      have n1 := cnt_nonneg (t := n) (s := k + 1) hp
      have n2 := cnt_nonneg (t := n) (s := k - 1) hp
      show sL _ (k + 1, _) + sR _ (k - 1, _) = 0
      rw [sL_eq, sR_eq, ih (k + 1) (by omega), ih (k - 1) (by omega)]
      simp
  unfold gapF
  rw [key t k h, h, Rat.zero_divInt]
  exact Rat.sub_self
/-- ms tells just the spots at which g is not 0, in their order -/
structure IsGaps (g : Int → Rat) (ms : List (Int × Rat)) : Prop where
  srt : ms.Pairwise fun a b => a.1 < b.1
  mem : ∀ m, m ∈ ms ↔ m.2 = g m.1 ∧ g m.1 ≠ 0
theorem IsGaps.uniq {g : Int → Rat} {ms ms' : List (Int × Rat)} (h : IsGaps g ms) (h' : IsGaps g ms') : ms = ms' := by
  have n1 : ms.Nodup := h.srt.imp fun z e => by rw [e] at z; omega
  have n2 : ms'.Nodup := h'.srt.imp fun z e => by rw [e] at z; omega
  refine List.Perm.eq_of_pairwise (le := fun a b : Int × Rat => a.1 < b.1) (fun a b _ _ h1 h2 => by omega) h.srt h'.srt ?_
  exact (List.perm_ext_iff_of_nodup n1 n2).mpr fun m => (h.mem m).trans (h'.mem m).symm
theorem IsGaps.congr {g g' : Int → Rat} {ms : List (Int × Rat)} (h : IsGaps g ms) (e : ∀ k, g' k = g k) : IsGaps g' ms := by
  rw [show g' = g from funext e]
  exact h
theorem IsGaps.move {g : Int → Rat} {ms : List (Int × Rat)} (h : IsGaps g ms) (b : Int) : IsGaps (fun k => g (k - b)) (ms.map fun m => (m.1 + b, m.2)) := by
  refine ⟨List.pairwise_map.mpr (h.srt.imp fun z => by show _ < _; omega), fun m => ?_⟩
  rw [List.mem_map]
  constructor
  · rintro ⟨x, hx, rfl⟩
    have := (h.mem x).mp hx
    show x.2 = g (x.1 + b - b) ∧ g (x.1 + b - b) ≠ 0
    rw [show x.1 + b - b = x.1 by omega]
    exact this
  · intro hm
    exact ⟨(m.1 - b, m.2), (h.mem _).mpr hm, Prod.ext (show m.1 - b + b = m.1 by omega) rfl⟩
theorem IsGaps.append {g g1 g2 : Int → Rat} {ms1 ms2 : List (Int × Rat)} (h1 : IsGaps g1 ms1) (h2 : IsGaps g2 ms2) (c : Int) (e1 : ∀ k, k < c → g k = g1 k ∧ g2 k = 0) (e2 : ∀ k, c ≤ k → g k = g2 k ∧ g1 k = 0) : IsGaps g (ms1 ++ ms2) := by
  have b1 : ∀ m ∈ ms1, m.1 < c := fun m hm => by
    refine Int.not_le.mp fun z => ((h1.mem m).mp hm).2 (e2 m.1 z).2
  have b2 : ∀ m ∈ ms2, c ≤ m.1 := fun m hm => by
    refine Int.not_lt.mp fun z => ((h2.mem m).mp hm).2 (e1 m.1 z).2
  refine ⟨List.pairwise_append.mpr ⟨h1.srt, h2.srt, fun a ha b hb => by have := b1 a ha; have := b2 b hb; omega⟩, fun m => ?_⟩
  rw [List.mem_append]
  constructor
  · rintro (hm | hm)
    · rw [(e1 m.1 (b1 m hm)).1]
      exact (h1.mem m).mp hm
    · rw [(e2 m.1 (b2 m hm)).1]
      exact (h2.mem m).mp hm
  · intro hm
    by_cases hc : m.1 < c
    · rw [(e1 m.1 hc).1] at hm
      exact .inl ((h1.mem m).mpr hm)
    · rw [(e2 m.1 (by omega)).1] at hm
      exact .inr ((h2.mem m).mpr hm)
theorem gaps_is {hs hs' : List (Int × Int)} {ls ks ys : List Int} {t : Nat} (ok : OkHs hs) (p1 : hs'.Perm hs) (a : Asc hs') (p2 : ls.Perm ks) (sp : Spots (Nd.cnt hs t) ys) :
    IsGaps (gapF hs (fun x => decide (x ∈ ks)) t) ((ys.map fun k => (k, gapR hs' ls hs t k)).filter fun m => m.2 ≠ 0) := by
  have e : ∀ k, gapR hs' ls hs t k = gapF hs (fun x => decide (x ∈ ks)) t k := fun k => gapR_F p1 a p2
  refine ⟨List.Pairwise.filter _ (List.pairwise_map.mpr (sp.srt.imp fun z => z)), fun m => ?_⟩
  rw [List.mem_filter, List.mem_map]
  constructor
  · rintro ⟨⟨k, hk, rfl⟩, h⟩
    have h := of_decide_eq_true h
    exact ⟨e k, by rw [← e k]; exact h⟩
  · rintro ⟨h1, h2⟩
    refine ⟨⟨m.1, (sp.mem m.1).mpr fun z => h2 (gapF_off (fun p hp => (okHeap_of (ok.ok p hp)).2.2.1) z), Prod.ext rfl (by rw [h1, ← e])⟩, ?_⟩
    rw [h1]
    exact decide_eq_true h2
/-! ### how counts go along -/
def mvH (b : Int) (hs : List (Int × Int)) : List (Int × Int) := hs.map fun p => (p.1 + b, p.2)
theorem cnt_mv (b : Int) (hs : List (Int × Int)) (t : Nat) (k : Int) : Nd.cnt (mvH b hs) t k = Nd.cnt hs t (k - b) := by
  unfold mvH
  induction hs with
  | nil => rw [List.map_nil, cnt_nil, cnt_nil]
  | cons p hs ih => rw [List.map_cons, cnt_cons, cnt_cons, ih, show k - (p.1 + b) = k - b - p.1 by omega]
theorem cnt_ext {A B : List (Int × Int)} (h : ∀ k, Nd.cnt A 0 k = Nd.cnt B 0 k) : ∀ (n : Nat) (k : Int), Nd.cnt A n k = Nd.cnt B n k
  | 0, k => h k
  | n + 1, k => by rw [cnt_succ, cnt_succ, cnt_ext h n, cnt_ext h n]
theorem cnt_spots {f : Int → Int} {ys : List Int} (sp : Spots f ys) (k : Int) : Nd.cnt (ys.map fun k => (k, f k)) 0 k = f k := by
  have hn : ((ys.map fun k => (k, f k)).map (·.1)).Nodup := by
    rw [List.map_map]
    have : ys.map ((fun x : Int × Int => x.1) ∘ fun k => (k, f k)) = ys := (List.map_congr_left fun k _ => rfl).trans (List.map_id _)
    rw [this]
    exact sp.srt.imp fun h => by omega
  by_cases hk : k ∈ ys
  · exact cnt_zero_at (p := (k, f k)) hn (List.mem_map.mpr ⟨k, hk, rfl⟩)
  · rw [cnt_zero_off]
    · exact Classical.byContradiction fun z => hk ((sp.mem k).mpr fun e => z e.symm)
    · intro hm
      obtain ⟨p, hp, e⟩ := List.mem_map.mp hm
      obtain ⟨j, hj, rfl⟩ := List.mem_map.mp hp
      exact hk (e ▸ hj)
theorem gapF_mv (b : Int) (hs : List (Int × Int)) (L : Int → Bool) (t : Nat) (k : Int) : gapF (mvH b hs) (fun x => L (x - b)) t k = gapF hs L t (k - b) := by
  unfold gapF
  rw [cnt_mv, show Nd.cnt (mvH b hs) 0 = fun k => Nd.cnt hs 0 (k - b) from funext fun s => cnt_mv b hs 0 s]
  rw [itF_move b (Nd.cnt hs 0, L) t]
theorem divInt_addW (u c : Int) (t : Nat) : Rat.divInt (u + 2 ^ t * c) (2 ^ t) = Rat.divInt u (2 ^ t) + (c : Rat) := by
  have e : (2 : Int) ^ t ≠ 0 := Int.ne_of_gt (two_pos t)
  have h1 : ((c : Int) : Rat) = Rat.divInt (c * 2 ^ t) (2 ^ t) := by
    have := Rat.divInt_mul_right (n := c) (d := 1) e
    rw [Int.one_mul] at this
    rw [this]
    exact (Rat.num_divInt_den (c : Rat)).symm
  rw [h1, Rat.divInt_add_divInt _ _ e e, ← Int.add_mul, Rat.divInt_mul_right e, Int.mul_comm c]
/-- heaps put on that a power of two divides -/
theorem gapF_more {A B qs : List (Int × Int)} {L : Int → Bool} {t : Nat} (h : ∀ k, Nd.cnt B 0 k = Nd.cnt A 0 k + 2 ^ t * Nd.cnt qs 0 k) (k : Int) : gapF B L t k = gapF A L t k := by
  have e1 : Nd.cnt B 0 = fun k => Nd.cnt A 0 k + 2 ^ t * Nd.cnt qs 0 k := funext h
  have e2 : ∀ (n : Nat) (k : Int), Nd.cnt B n k = Nd.cnt A n k + 2 ^ t * Nd.cnt qs n k := fun n => by
    induction n with
    | zero => exact h
    | succ n ih =>
      intro k
      rw [cnt_succ, cnt_succ, cnt_succ, ih, ih, Int.mul_add]
      omega
  unfold gapF
  rw [e1, itF_more (t := t) (Nd.cnt A 0, L) (fun n k => Nd.cnt qs n k) (fun n k => cnt_succ n k qs) t (Nat.le_refl _), e2]
  show ((((itF t (Nd.cnt A 0, L)).1 k + 2 ^ (t - t) * Nd.cnt qs t k : Int)) : Rat) - _ = _
  rw [Nat.sub_self, Int.pow_zero, Int.one_mul, divInt_addW, Rat.intCast_add]
  generalize ((Nd.cnt qs t k : Int) : Rat) = y
  generalize (((itF t (Nd.cnt A 0, L)).1 k : Int) : Rat) = x
  generalize Rat.divInt (Nd.cnt A t k) (2 ^ t) = z
  grind
theorem gapF_idle {hs : List (Int × Int)} {L M : Int → Bool} {t : Nat} (h : ∀ k, (∃ n, n < t ∧ (itF n (Nd.cnt hs 0, L)).1 k % 2 = 1) → L k = M k) (k : Int) : gapF hs M t k = gapF hs L t k := by
  unfold gapF
  rw [(itF_idle h t (Nat.le_refl _)).1]
theorem putK_entB_iff (ks : List Int) (k : Int) : ∃ qs : List Int, putK (ks.map entB) (.inl k) (.bl true) = qs.map entB ∧ (ks.Nodup → qs.Nodup) ∧ ∀ j, j ∈ qs ↔ j ∈ ks ∨ j = k := by
  by_cases h : k ∈ ks
  · exact ⟨ks, putK_entB_in h, id, fun j => ⟨.inl, fun z => z.elim id fun e => e ▸ h⟩⟩
  · refine ⟨ks ++ [k], putK_entB h, fun hn => ?_, fun j => by simp⟩
    rw [List.nodup_append]
    exact ⟨hn, by simp, fun x hx y hy e => h (by simp at hy; rw [← hy, ← e]; exact hx)⟩
def spOddSpots : Sp := fun vs H Q _ => ∃ (r : Addr) (v x : V) (hs : List (Int × Int)) (ks : List Int) (t : Nat), vs = [v, x, .int (t : Int)] ∧ Hs r H v hs ∧ OkHs hs ∧ LfS r H x ks ∧ t ≤ 60 ∧
  ∀ H' d (ds : List Int), Same H H' → H d = none → H' d = some (.dK (ds.map entB)) → ds.Nodup → (∀ k, k ∈ ds ↔ ∃ n, n < t ∧ (itF n (Nd.cnt hs 0, fun x => decide (x ∈ ks))).1 k % 2 = 1) → Q (.ref d) H'
end Nd
namespace Nd
open PySem PySem.Spec PyProof.Rows L2 LamX
/-- over a tuple of spots and means: the spot moved, the mean itself -/
theorem lcIn_mT {K : PySem.W.Frag} {a r : Addr} {zs : List V} {ms : List (Int × Rat)} {i j : Nat} {te : TE} {vs : List Nat} {σ : L2.St} {n0 : Nat} {H1 : Hp} {Q : VK} (b : Int) (R : Rid r n0 H1) (hx : H1 a = some (.tup zs)) (hall : Paired (MeanR r H1) zs ms) (hz : zs.length ≤ 5000000)
    (hw : ∀ x y, wipe (((wipe σ vs).set i (some x)).set j (some y)) vs = wipe σ vs)
    (step : ∀ (m : Int × Rat) (y : V) (H2 : Hp), Same H1 H2 → ∀ QE : VK, (∀ H4 p, Same H2 H4 → H2 p = none → H4 p = some (.tup [.int (m.1 + b), y]) → QE (.ref p) H4) → te (((wipe σ vs).set i (some (.int m.1))).set j (some y)) H2 QE)
    (fin : ∀ (p : Addr) (H' : Hp) (ys : List V), H1 p = none → Same H1 H' → H' p = some (.lst ys) → Paired (MeanR r H') ys (ms.map fun m => (m.1 + b, m.2)) → Q (.ref p) H') :
    LcIn (Itt K a) (gTup K 2 (gCons (gName i) (gCons (gName j) gNil))) tYes te vs σ H1 Q := fun D hD =>
  lc_it walk_tup (fun m H => Same H1 H ∧ ∃ ys : List V, H D = some (.lst ys) ∧ Paired (MeanR r H) ys ((ms.take m).map fun m => (m.1 + b, m.2))) ⟨Same.new hD, [], upd_same, .nil⟩ (fun m H _ p => .inl (.inl (p.1 _ _ hx)))
    (fun m x H H' hm p y => by
      obtain ⟨rfl, hx⟩ := y
      obtain ⟨s1, ys, eD, hp⟩ := p
      obtain ⟨z, hz1, f⟩ := Nd.paired_get hall hx
      obtain ⟨b1, y, rfl, nb, eb, fy⟩ := f.same s1
      refine k_gtup (.inl (.inl eb)) rfl ?_
      refine k_gcons (k_gname (k_gcons (k_gname (k_gnil ?_))))
      refine ⟨hw _ _, k_tYes ?_⟩
      rw [if_pos rfl]
      refine step z y _ s1 _ fun H4 p4 s4 np4 ep4 => ?_
      have eD4 := s4 _ _ eD
      have nt : ∀ {c : Addr} {us : List V}, H4 c = some (.tup us) → c ≠ D := fun e z => by rw [z, eD4] at e; cases e
      have put : ∀ {v : V} {q : Int × Rat}, MeanR r H4 v q → MeanR r (upd H4 D (.lst (ys ++ [.ref p4]))) v q := fun {v q} h => by
        obtain ⟨a2, y2, e1, n1, e2, c2, e3, n2, e4⟩ := h
        exact ⟨a2, y2, e1, n1, (upd_ne (nt e2)).trans e2, c2, e3, n2, (upd_ne (nt e4)).trans e4⟩
      refine ⟨_, eD4, ?_, fun c o e => ?_, ys ++ [.ref p4], upd_same, ?_⟩
      · rw [pairs_len hp, List.length_map, List.length_take]
        exact Nat.lt_of_le_of_lt (Nat.min_le_left _ _) (Nat.lt_of_lt_of_le hm (Nat.le_trans hz (by decide)))
      · rw [upd_ne (ne_of_none e hD)]
        exact s4 _ _ (s1 _ _ e)
      · rw [List.take_succ, hz1, List.map_append]
        exact Paired.snoc (pairs_mono (fun _ _ h => put (h.same s4)) hp) (put ⟨p4, y, rfl, (R.same s1).ne np4, ep4, fy.same s4⟩))
    (fun H' p => by
      obtain ⟨s1, ys, eD, hp⟩ := p
      rw [pairs_len hall, List.take_length] at hp
      exact fin D H' ys hD s1 eD hp)
theorem mv_L (b : Int) (ks : List Int) : (fun x => decide (x ∈ ks.map fun k => k + b)) = fun x => decide (x - b ∈ ks) := funext fun x => decide_eq_decide.mpr (by
  rw [List.mem_map]
  exact ⟨fun ⟨k, hk, e⟩ => by rw [← e, show k + b - b = k by omega]; exact hk, fun h => ⟨x - b, h, by omega⟩⟩)
theorem OkHs.mv {hs : List (Int × Int)} (ok : OkHs hs) {b B : Int} (h : ∀ p ∈ hs, -B ≤ p.1 ∧ p.1 ≤ B) (h2 : -1000000 ≤ -B + b ∧ B + b ≤ 1000000) : OkHs (mvH b hs) := by
  obtain ⟨c, hc⟩ := ok.col
  refine ⟨by unfold mvH; rw [List.length_map]; exact ok.few, fun p hp => ?_, ?_, (c + b) % 2, fun p hp => ?_⟩
  · obtain ⟨q, hq, rfl⟩ := List.mem_map.mp hp
    obtain ⟨b1, b2, b3, b4⟩ := okHeap_of (ok.ok q hq)
    have := h q hq
    unfold okHeap
    simp only [Bool.and_eq_true, decide_eq_true_eq]
    omega
  · unfold mvH
    rw [List.map_map]
    have e : hs.map ((fun x : Int × Int => x.1) ∘ fun p => (p.1 + b, p.2)) = (hs.map (·.1)).map (· + b) := by rw [List.map_map]; rfl
    rw [e]
    exact List.pairwise_map.mpr (ok.nd.imp fun h z => h (by omega))
  · obtain ⟨q, hq, rfl⟩ := List.mem_map.mp hp
    have := hc q hq
    show (q.1 + b) % 2 = _
    omega
theorem cnt_le_max {A : List (Int × Int)} {B k : Int} (hn : (A.map (·.1)).Nodup) (h : ∀ p ∈ A, p.2 ≤ B) (h0 : 0 ≤ B) : Nd.cnt A 0 k ≤ B := by
  by_cases hk : k ∈ A.map (·.1)
  · obtain ⟨p, hp, rfl⟩ := List.mem_map.mp hk
    rw [cnt_zero_at hn hp]
    exact h p hp
  · rw [cnt_zero_off hk]
    exact h0
end Nd

namespace Nd
open PySem PySem.Spec PyProof.Rows L2
/-! heaps of any size: what goes on from them -/
structure OkW (hs : List (Int × Int)) : Prop where
  few : hs.length ≤ 2000
  bd : ∀ p ∈ hs, -1000000 ≤ p.1 ∧ p.1 ≤ 1000000
  pos : ∀ p ∈ hs, 1 ≤ p.2
  nd : (hs.map (·.1)).Nodup
  col : ∃ c : Int, ∀ p ∈ hs, p.1 % 2 = c
theorem OkHs.w {hs : List (Int × Int)} (o : OkHs hs) : OkW hs := ⟨Nat.le_trans o.few (by decide), fun p hp => by have := okHeap_of (o.ok p hp); omega, fun p hp => (okHeap_of (o.ok p hp)).2.2.1, o.nd, o.col⟩
theorem asc_exW {hs : List (Int × Int)} (ok : OkW hs) : ∃ hs' : List (Int × Int), hs'.Perm hs ∧ Asc hs' := by
  have hp := List.mergeSort_perm hs fun a b => decide (a.1 ≤ b.1)
  have hsrt := List.pairwise_mergeSort (le := fun a b : Int × Int => decide (a.1 ≤ b.1)) (fun a b c h1 h2 => by simp only [decide_eq_true_eq] at *; omega) (fun a b => by simp only [Bool.or_eq_true, decide_eq_true_eq]; omega) hs
  refine ⟨_, hp, ?_, fun p hq => ok.pos p (hp.mem_iff.mp hq), ?_⟩
  · have hn : (((hs.mergeSort fun a b => decide (a.1 ≤ b.1))).map (·.1)).Nodup := (hp.map _).nodup_iff.mpr ok.nd
    rw [List.Nodup, List.pairwise_map] at hn
    obtain ⟨c, hc⟩ := ok.col
    refine (hsrt.and hn).imp_of_mem fun {a b} ha hb h => ?_
    have h1 := hc a (hp.mem_iff.mp ha)
    have h2 := hc b (hp.mem_iff.mp hb)
    have h3 := of_decide_eq_true h.1
    have h4 := h.2
    omega
  · obtain ⟨c, hc⟩ := ok.col
    exact ⟨c, fun p hq => hc p (hp.mem_iff.mp hq)⟩
theorem Gone.factsW {hs : List (Int × Int)} {ks : List Int} {n : Nat} {qs : List (Int × Int)} {kk : List Int} (ok : OkW hs) (g : Gone hs ks n qs kk) : (qs.map (·.1)).Nodup ∧ ∀ p ∈ qs, 1 ≤ p.2 := by
  obtain ⟨hs', p1, a⟩ := asc_exW ok
  obtain ⟨h1, _⟩ := g hs' ks p1 a (List.Perm.refl _)
  have a2 := its_asc (ls := ks) a n
  exact ⟨(h1.map _).nodup_iff.mpr (asc_nodup a2), fun p hp => a2.pos p (h1.mem_iff.mp hp)⟩
theorem OkW.inB {hs hs' : List (Int × Int)} {ks ls : List Int} {r : Addr} {H : Hp} {x : V} (o : OkW hs) (l : LfS r H x ks) (p1 : hs'.Perm hs) (a : Asc hs') (p2 : ls.Perm ks) : InB ((1000000 : Nat) : Int) (hs', ls) :=
  ⟨a, p2.nodup_iff.mpr l.nd, fun p hp => by have := o.bd p (p1.mem_iff.mp hp); omega, fun k hk => by have := l.ok k (p2.mem_iff.mp hk); omega⟩
theorem Gone.fewW {hs : List (Int × Int)} {ks : List Int} {n : Nat} {qs : List (Int × Int)} {kk : List Int} {r : Addr} {H : Hp} {x : V} (ok : OkW hs) (l : LfS r H x ks) (g : Gone hs ks n qs kk) (hn : n ≤ 200) (hk : kk.Nodup) :
    qs.length ≤ 2000500 ∧ kk.length ≤ 2000500 ∧ (∀ p ∈ qs, -1000200 ≤ p.1 ∧ p.1 ≤ 1000200) ∧ ∀ k ∈ kk, -1000200 ≤ k ∧ k ≤ 1000200 := by
  obtain ⟨hs', p1, a⟩ := asc_exW ok
  obtain ⟨h1, h2⟩ := g hs' ks p1 a (List.Perm.refl _)
  have b := (ok.inB l p1 a (List.Perm.refl _)).its n
  have b2 : InB ((1000000 + n : Nat) : Int) (its n (hs', ks)) := by
    rw [Int.natCast_add]
    exact b
  have hl := b2.hlen
  refine ⟨by rw [h1.length_eq]; omega, ?_, fun p hp => by have := b2.hb p (h1.mem_iff.mp hp); omega, fun k hk => by have := b2.kb k ((h2 k).mp hk); omega⟩
  have := nodup_range (lo := -1000200) (n := 2000401) hk fun k hk => by have := b2.kb k ((h2 k).mp hk); omega
  omega
def spGoneW : Sp := fun vs H Q _ => ∃ (r : Addr) (v x : V) (hs : List (Int × Int)) (ks : List Int) (t : Nat), vs = [v, x, .int (t : Int)] ∧ Hs r H v hs ∧ OkW hs ∧ LfS r H x ks ∧ t ≤ 200 ∧
  ∀ H' p a b qs kk, Same H H' → H p = none → H' p = some (.tup [.ref a, .ref b]) → H' a = some (.dK (qs.map entI)) → H' b = some (.dK (kk.map entB)) → H a = none → H b = none → a ≠ b → kk.Nodup → Gone hs ks t qs kk → Q (.ref p) H'
/-- one after another -/
theorem its_add (n : Nat) (s : List (Int × Int) × List Int) : ∀ m : Nat, its m (its n s) = its (n + m) s
  | 0 => rfl
  | m + 1 => by
    show stp (its m (its n s)) = stp (its (n + m) s)
    rw [its_add n s m]
theorem nd_perm {ks ls : List Int} (h1 : ks.Nodup) (h2 : ls.Nodup) (h : ∀ k, k ∈ ks ↔ k ∈ ls) : ks.Perm ls := (List.perm_ext_iff_of_nodup h1 h2).mpr h
theorem Gone.more {hs : List (Int × Int)} {ks : List Int} {n m : Nat} {qs rs : List (Int × Int)} {kk jj : List Int} (hks : ks.Nodup) (hkk : kk.Nodup) (hin : ∀ hs' ls : List _, hs'.Perm hs → Asc hs' → ls.Perm ks → (its n (hs', ls)).2.Nodup)
    (g : Gone hs ks n qs kk) (g2 : Gone qs kk m rs jj) : Gone hs ks (n + m) rs jj := by
  intro hs' ls p1 a p2
  obtain ⟨h1, h2⟩ := g hs' ls p1 a p2
  have hn := hin hs' ls p1 a p2
  have := g2 (its n (hs', ls)).1 (its n (hs', ls)).2 h1.symm (its_asc a n) (nd_perm hn hkk fun k => (h2 k).symm)
  have e : its m ((its n (hs', ls)).1, (its n (hs', ls)).2) = its (n + m) (hs', ls) := by
    rw [show ((its n (hs', ls)).1, (its n (hs', ls)).2) = its n (hs', ls) from rfl]
    exact its_add n _ m
  rwa [e] at this
end Nd

namespace Nd
open PySem PySem.Spec PyProof.Rows L2
/-- what isinstance asks of an own class -/
structure InsC (K : PySem.W.Frag) (C : Addr) : Prop where
  cls : Cls K C
  ha : PySem.W.findIn K (.ref C) "__class__" = some (some (.builtin "object.__class__"))
  hn : PySem.W.specialIn K (.builtin "object.__class__") "__get__" = some (some (.builtin "getset_descriptor.__get__"))
  htk : PySem.W.takesIn K (.builtin "object.__class__") = some true
  hm : PySem.W.mroIn K C (.type "object") = some true
theorem InsC.ty {K : PySem.W.Frag} {C : Addr} (h : InsC K C) {H : Hp} {o dx : Addr} {fs : List (Str × V)} (e : H o = some (.ins C dx fs)) : TyX K H (.ref o) (.ref C) := .base (.ins e h.cls h.ha h.hn h.htk h.hm)
theorem kitOne_self (K : PySem.W.Frag) (C : Addr) : PySem.W.kitOne K (.ref C) (.ref C) = some true := by
  unfold PySem.W.kitOne
  rw [if_pos (by simp)]
def spNeedLine (CL : Addr) : Sp := fun vs H Q _ => ∃ (o dx : Addr) (fs : List (Str × V)), vs = [.ref o] ∧ H o = some (.ins CL dx fs) ∧ Q .non H
def spHandAt (CL : Addr) : Sp := fun vs H Q _ => ∃ (o : Addr) (tick : Int) (hs : List (Int × Int)) (ls : List Int) (s : Int), vs = [.ref o, .int s] ∧ LnO CL H o tick hs ls ∧ ∀ H', Same H H' → Q (.int (if s ∈ ls then -1 else 1)) H'
def dueS (ls : List Int) (p : Int × Int) : Int × Int × Int := if p.1 ∈ ls then (p.1, p.2 - p.2 / 2, p.2 - (p.2 - p.2 / 2)) else (p.1, p.2 - (p.2 - p.2 / 2), p.2 - p.2 / 2)
def TrI (H H' : Hp) (t : Addr) (x : Int × Int × Int) : Prop := H t = none ∧ H' t = some (.tup [.int x.1, .int x.2.1, .int x.2.2])
def spSendings (CL : Addr) : Sp := fun vs H Q _ => ∃ (o : Addr) (tick : Int) (hs : List (Int × Int)) (ls : List Int), vs = [.ref o] ∧ LnO CL H o tick hs ls ∧
  ∀ H' p ts, Same H H' → H p = none → H' p = some (.tup (ts.map V.ref)) → Paired (TrI H H') ts (hs.map (dueS ls)) → Q (.ref p) H'
end Nd

namespace Nd
open PySem PySem.Spec PyProof.Rows L2
/-! ### a method called by names alone: o.m(a=x) -/
structure CalMK (P : Program) (w : World) (K : PySem.W.Frag) (mg : Str → Option Value) (base : Heap) (CX : CXT) (k : Nat) (C : Addr) (m : Str) (ks : List Str) (ix : List Nat) (sp : Sp) : Prop where
  cls : Cls K C
  ex : ∃ (f : Addr) (fd : FuncData) (ps : List Str), Meth K C m f ∧ FnG P w K mg base CX k f fd ps sp ∧
    ∀ (s : Shared) (self : Value) (ws : List Value), ws.length = ks.length → BindsTo s fd ⟨[self], ks.zip ws⟩ (ps.zip (self :: byIx ix ws))
theorem mkwBinds {K : PySem.W.Frag} {x qual : Str} {st : Stmt} {f : Addr} {fd : FuncData} {ps ks : List Str} {ix : List Nat} (F : Fun K x qual st f fd)
    (h : ∀ (kV doc pm : Value) (an : Option Addr) (cdv ct self : Value) (ws : List Value), ws.length = ks.length →
      bindArgs (PySem.W.fnOf x qual (defArgs st) (defBody st) (defScope st) .none kV doc pm an cdv ct) ⟨[self], ks.zip ws⟩ = pure (ps.zip (self :: byIx ix ws))) :
    ∀ (s : Shared) (self : Value) (ws : List Value), ws.length = ks.length → BindsTo s fd ⟨[self], ks.zip ws⟩ (ps.zip (self :: byIx ix ws)) := by
  obtain ⟨oc, od, kV, doc, pm, an, cdv, ct, osl, rfl, lk, hcd⟩ := F.ex
  exact fun s self ws hl => .of_eq (h kV doc pm an cdv ct self ws hl)
def tMethK (C : Addr) (m : Str) (n : Nat) (ix : List Nat) (sp : Sp) (E : XK) (ta : TE) (tk : TA) : TE := fun σ H Q => ta σ H fun x H1 => ∃ a dx fs, x = .ref a ∧ H1 a = some (.ins C dx fs) ∧ fs.lookup m = none ∧ tk σ H1 fun zs H2 => zs.length = n ∧ sp (x :: byIx ix zs) H2 Q E
theorem k_methK {C : Addr} {m : Str} {n : Nat} {ix : List Nat} {sp : Sp} {E : XK} {ta : TE} {tk : TA} {σ : L2.St} {H : Hp} {Q : VK} (h : ta σ H fun x H1 => ∃ a dx fs, x = .ref a ∧ H1 a = some (.ins C dx fs) ∧ fs.lookup m = none ∧ tk σ H1 fun zs H2 => zs.length = n ∧ sp (x :: byIx ix zs) H2 Q E) : tMethK C m n ix sp E ta tk σ H Q := h
theorem pe_methK {X : Cx} {CX : CXT} {k : Nat} {C : Addr} {m : Str} {ks : List Str} {ix : List Nat} {sp : Sp} {E : XK} {apos pos : Pos} {o : Expr} {kws : List Keyword} {ta : TE} {tk : TA} {pl : Sem Bool} (he : PE X o ta) (c : CalMK X.prog X.w X.K X.mg X.base CX k C m ks ix sp) (hG : X.A.guards = some []) (hr : Room k X.A) (hx : Passes CX X E) (hkw : PK X kws tk)
    (hall : (backToKw pos (keywordEach kws X.env)).all (·.1.isSome) = true := by rfl) (hks : (backToKw pos (keywordEach kws X.env)).filterMap (·.1) = ks := by rfl)
    (hpl : ((backTo pos (starEach [] X.env)).any (·.1) || (backToKw pos (keywordEach kws X.env)).any (·.1.isNone)) = false := by rfl)
    (ht : eval (.Call (.Attribute o m apos) [] kws pos) X.env = (do
      let ov ← eval o X.env
      standAt apos.atName
      let (f, first) ← holding [ov] (getMethod ov m pl)
      callWith pos f first (backTo pos (starEach [] X.env)) (backToKw pos (keywordEach kws X.env))) := by rfl) :
    PE X (.Call (.Attribute o m apos) [] kws pos) (tMethK C m ks.length ix sp E ta tk) := by
  obtain ⟨f, fd, ps, hm, F, hb⟩ := c.ex
  refine ⟨fun pins s σ H Q I h => ?_⟩
  refine PySem.W.methodCall_KW (pl := pl) (thn (he.run pins s σ H _ I h) fun u s1 ⟨x, H1, I1, rx, a, dx, fs, ex, ea, l, q⟩ => ?_) ht
  subst ex
  obtain rfl : u = Value.ref a := rx
  refine getmeth_ok I1 ea c.cls hm l ?_
  refine PySem.W.callWith_KW0 (first := [.ref a]) (h₀ := X.base) I.ok.mod.kin hm.kp hall ?_ hpl
  refine thn (hkw.run pos pins s1 σ H1 _ I1 q) ?_
  rintro ws s2 ⟨zs, H2, I2, rz, l2, q2⟩
  refine ⟨I2.kIn, ?_⟩
  rw [hks]
  have run := F.go X.A X.stack s2 H2 ⟨[.ref a], ks.zip ws⟩ (.ref a :: byIx ix ws) (.ref a :: byIx ix zs) Q E hG hr I2.env0 (hb s2 (.ref a) ws (rz.length.symm.trans l2)) (.cons rfl (byIx_vals rz ix)) q2
  refine wpAny_call (codeAny_mono run ?_)
  rintro (e' | fl) s' hq
  · exact hx pins σ H2 s2 e' s' I2 hq
  · cases fl with
    | ret u => exact I2.after hq
    | next => exact hq.elim
    | brk => exact hq.elim
    | cont => exact hq.elim
end Nd

namespace Nd
open PySem PySem.Spec PyProof.Rows L2 LamX
/-- over ints, those that a drawn test lets -/
theorem lcIn_lsK {K : PySem.W.Frag} {a r : Addr} {ks : List Int} {N kd j : Nat} {tt : TT} {te : TE} {vs : List Nat} {σ : L2.St} {H1 : Hp} {Q : VK} (R : Rid r N H1) (na : a ≠ r) (hx : H1 a = some (.lst (ks.map V.int))) (hn : ks.length ≤ 50000)
    (hw : ∀ x, wipe ((wipe σ vs).set j (some x)) vs = wipe σ vs)
    (step : ∀ (m : Nat) (k : Int) (H2 : Hp), ks[m]? = some k → Gr r H1 H2 → Rid r (N + kd * m) H2 → ∀ (QE : VK) (Z : Hp → Prop), (∀ H4, Gr r H2 H4 → Rid r (N + kd * (m + 1)) H4 → QE (.int k) H4) → (∀ H4, Gr r H2 H4 → Rid r (N + kd * (m + 1)) H4 → Z H4) →
      tt ((wipe σ vs).set j (some (.int k))) H2 fun b H3 => if b = true then te ((wipe σ vs).set j (some (.int k))) H3 QE else Z H3)
    (fin : ∀ p H' (ls : List Int), H1 p = none → Gr r H1 H' → Rid r (N + kd * ks.length) H' → H' p = some (.lst (ls.map V.int)) → ls.Sublist ks → Q (.ref p) H') :
    LcIn (Itl K a) (gName j) tt te vs σ H1 Q := fun D hD =>
  have nD := R.ne hD
  have eR : ∃ u, H1 r = some u := by
    obtain ⟨c, ns, a, z, h1, h2, _⟩ := R.ex
    exact ⟨_, h2⟩
  lc_it walk_list (fun m H => Gr r H1 H ∧ Rid r (N + kd * m) H ∧ ∃ ls : List Int, H D = some (.lst (ls.map V.int)) ∧ ls.Sublist (ks.take m)) ⟨Gr.new hD, R.new hD, [], upd_same, List.Sublist.refl _⟩ (fun m H _ p => .inl (.inl (p.1.all _ _ na hx)))
    (fun m x H H' hm p y => by
      obtain ⟨rfl, hx'⟩ := y
      rw [List.getElem?_map] at hx'
      obtain ⟨k, hk, rfl⟩ := Option.map_eq_some_iff.mp hx'
      obtain ⟨g1, Rm, ls, eD, hsub⟩ := p
      have htk : ks.take (m + 1) = ks.take m ++ [k] := by rw [List.take_succ, hk]; rfl
      have hl : ls.length ≤ m := Nat.le_trans hsub.length_le (by rw [List.length_take]; exact Nat.min_le_left _ _)
      have hmn : m < ks.length := (List.getElem?_eq_some_iff.mp hk).1
      refine k_gname ?_
      refine ⟨hw _, ?_⟩
      refine step m k _ hk g1 Rm _ _ (fun H4 g4 R4 => ?_) fun H4 g4 R4 => ?_
      · have eD4 := g4.all _ _ nD eD
        have gz := g1.trans g4
        refine ⟨_, eD4, ?_, grPutNew gz hD eR, (ridN_of R gz R4 hD).put.rid, ls ++ [k], ?_, ?_⟩
        · rw [List.length_map]
          exact Nat.lt_of_le_of_lt hl (Nat.lt_of_lt_of_le hmn (Nat.le_trans hn (by decide)))
        · rw [upd_same, List.map_append]
          rfl
        · rw [htk]
          exact hsub.append (List.Sublist.refl _)
      · refine ⟨g1.trans g4, R4, ls, g4.all _ _ nD eD, ?_⟩
        rw [htk]
        exact hsub.trans (List.sublist_append_left _ _))
    (fun H' p => by
      obtain ⟨g1, Rm, ls, eD, hsub⟩ := p
      rw [List.length_map] at Rm hsub
      rw [List.take_length] at hsub
      exact fin D H' ls hD g1 Rm eD hsub)
theorem eqvs_means_inj : ∀ {ms ns : List (Int × Rat)}, PyData.eqvAll (ms.map meanD) (ns.map meanD) = true → ms = ns
  | [], [], _ => rfl
  | [], n :: ns, h => by simp [PyData.eqvAll] at h
  | m :: ms, [], h => by simp [PyData.eqvAll] at h
  | m :: ms, n :: ns, h => by
    rw [List.map_cons, List.map_cons, PyData.eqvAll, Bool.and_eq_true] at h
    obtain ⟨h1, h2⟩ := h
    have e := eqvs_means_inj h2
    simp only [meanD, PyData.eqv, PyData.eqvAll, eqv_fq, Bool.and_true, Bool.and_eq_true, decide_eq_true_eq] at h1
    rw [e]
    congr 1
    exact Prod.ext (by simpa using h1.1) h1.2
theorem ne_means {ms ns : List (Int × Rat)} (h : ms ≠ ns) : (!PyData.eqv (.tuple (ms.map meanD)) (.tuple (ns.map meanD))) = true := by
  have : PyData.eqv (.tuple (ms.map meanD)) (.tuple (ns.map meanD)) = false := by
    refine Bool.eq_false_iff.mpr fun z => h ?_
    simp only [PyData.eqv] at z
    exact eqvs_means_inj z
  rw [this]
  rfl
theorem IsGaps.inj {g g' : Int → Rat} {ms : List (Int × Rat)} (h : IsGaps g ms) (h' : IsGaps g' ms) (k : Int) : g k = g' k := by
  by_cases z : g k = 0
  · refine Classical.byContradiction fun e => ?_
    have z' : g' k ≠ 0 := fun y => e (z.trans y.symm)
    have := (h.mem (k, g' k)).mp ((h'.mem (k, g' k)).mpr ⟨rfl, z'⟩)
    exact e this.1.symm
  · exact ((h'.mem (k, g k)).mp ((h.mem (k, g k)).mpr ⟨rfl, z⟩)).1
/-- a hand turned at an odd heap shows a tick later, beside it -/
theorem gapF_turn {hs : List (Int × Int)} {L M : Int → Bool} {f : Int} (hodd : Nd.cnt hs 0 f % 2 = 1) (h1 : M f = !L f) (h2 : ∀ k, k ≠ f → M k = L k) : gapF hs M 1 (f + 1) ≠ gapF hs L 1 (f + 1) := by
  have e : (itF 1 (Nd.cnt hs 0, M)).1 (f + 1) ≠ (itF 1 (Nd.cnt hs 0, L)).1 (f + 1) := by
    show sL M (f + 1 + 1, Nd.cnt hs 0 (f + 1 + 1)) + sR M (f + 1 - 1, Nd.cnt hs 0 (f + 1 - 1)) ≠ sL L (f + 1 + 1, Nd.cnt hs 0 (f + 1 + 1)) + sR L (f + 1 - 1, Nd.cnt hs 0 (f + 1 - 1))
    rw [show f + 1 - 1 = f by omega, sL_eq, sL_eq, sR_eq, sR_eq, h2 (f + 1 + 1) (by omega), h1]
    cases L f <;> simp [hodd] <;> omega
  unfold gapF
  intro z
  apply e
  have z2 : (((itF 1 (Nd.cnt hs 0, M)).1 (f + 1) : Int) : Rat) = (((itF 1 (Nd.cnt hs 0, L)).1 (f + 1) : Int) : Rat) := by
    generalize Rat.divInt (Nd.cnt hs 1 (f + 1)) (2 ^ 1) = y at z
    generalize (((itF 1 (Nd.cnt hs 0, M)).1 (f + 1) : Int) : Rat) = a at z ⊢
    generalize (((itF 1 (Nd.cnt hs 0, L)).1 (f + 1) : Int) : Rat) = b at z ⊢
    grind
  exact Rat.intCast_inj.mp z2
end Nd
namespace Nd
open PySem PySem.Spec PyProof.Rows L2 LamX
theorem k_dnin {ty td : TE} {σ : L2.St} {H : Hp} {Q : VK} (h : ty σ H fun y H1 => td σ H1 fun x H2 => ∃ a ov, x = .ref a ∧ DGet H2 a y ov ∧ Q (.bl (!ov.isSome)) H2) : tDNotIn ty td σ H Q := h
end Nd
namespace Nd
open PySem PySem.Spec PyProof.Rows L2 LamX
theorem cnt_zero_far {hs : List (Int × Int)} {lo hi : Int} (h : ∀ k, ¬ (lo ≤ k ∧ k ≤ hi) → Nd.cnt hs 0 k = 0) : ∀ (n : Nat) (k : Int), ¬ (lo - n ≤ k ∧ k ≤ hi + n) → Nd.cnt hs n k = 0
  | 0, k, hk => h k (by simpa using hk)
  | n + 1, k, hk => by rw [cnt_succ, cnt_zero_far h n (k + 1) (by omega), cnt_zero_far h n (k - 1) (by omega)]; rfl
theorem cnt_within {hs : List (Int × Int)} {lo hi : Int} (h : ∀ p ∈ hs, lo ≤ p.1 ∧ p.1 ≤ hi) (k : Int) (hk : ¬ (lo ≤ k ∧ k ≤ hi)) : Nd.cnt hs 0 k = 0 := cnt_zero_off fun hm => by
  obtain ⟨p, hp, rfl⟩ := List.mem_map.mp hm
  exact hk (h p hp)
theorem divInt_addU (u v : Int) (t : Nat) : Rat.divInt (u + v) (2 ^ t) = Rat.divInt u (2 ^ t) + Rat.divInt v (2 ^ t) := by
  have e : (2 : Int) ^ t ≠ 0 := Int.ne_of_gt (two_pos t)
  rw [Rat.divInt_add_divInt _ _ e e, ← Int.add_mul, Rat.divInt_mul_right e]
/-- two starts far off from one another have the gaps of both -/
theorem gapF_two {hs : List (Int × Int)} {ks : List Int} {t : Nat} (hsb : ∀ p ∈ hs, -62 ≤ p.1 ∧ p.1 ≤ 62) (hkb : ∀ k ∈ ks, -9 ≤ k ∧ k ≤ 9) (ht : t ≤ 10) (hp : ∀ p ∈ hs, 1 ≤ p.2) :
    (∀ k, k < 200 → gapF (hs ++ mvH 400 hs) (fun x => decide (x ∈ ks ++ ks.map fun k => k + 400)) t k = gapF hs (fun x => decide (x ∈ ks)) t k ∧ gapF hs (fun x => decide (x ∈ ks)) t (k - 400) = 0) ∧
    ∀ k, 200 ≤ k → gapF (hs ++ mvH 400 hs) (fun x => decide (x ∈ ks ++ ks.map fun k => k + 400)) t k = gapF hs (fun x => decide (x ∈ ks)) t (k - 400) ∧ gapF hs (fun x => decide (x ∈ ks)) t k = 0 := by
  have hu := cnt_within hsb
  have hmb : ∀ p ∈ mvH 400 hs, (338 : Int) ≤ p.1 ∧ p.1 ≤ 462 := fun p hm => by
    obtain ⟨q, hq, rfl⟩ := List.mem_map.mp hm
    have := hsb q hq
    show 338 ≤ q.1 + 400 ∧ q.1 + 400 ≤ 462
    omega
  have hv := cnt_within hmb
  have zu := cnt_zero_far hu t
  obtain ⟨e1, _, _⟩ := itF_two (s := (Nd.cnt (hs ++ mvH 400 hs) 0, fun x => decide (x ∈ ks ++ ks.map fun k => k + 400))) (u := (Nd.cnt hs 0, fun x => decide (x ∈ ks))) (v := (Nd.cnt (mvH 400 hs) 0, fun x => decide (x ∈ ks.map fun k => k + 400))) (m := 10) hu hv (fun k => Nd.cnt_append 0 k hs (mvH 400 hs)) (by omega)
    (fun k hk => decide_eq_decide.mpr (by
      rw [List.mem_append]
      refine ⟨fun h => h.elim id fun z => ?_, .inl⟩
      obtain ⟨j, hj, e⟩ := List.mem_map.mp z
      have := hkb j hj
      omega))
    (fun k hk => decide_eq_decide.mpr (by
      rw [List.mem_append]
      refine ⟨fun h => h.elim (fun z => ?_) id, .inr⟩
      have := hkb k z
      omega)) t ht
  have eV : ∀ k, gapF (mvH 400 hs) (fun x => decide (x ∈ ks.map fun k => k + 400)) t k = gapF hs (fun x => decide (x ∈ ks)) t (k - 400) := fun k => by
    rw [mv_L]
    exact gapF_mv 400 hs (fun x => decide (x ∈ ks)) t k
  have eS : ∀ k, gapF (hs ++ mvH 400 hs) (fun x => decide (x ∈ ks ++ ks.map fun k => k + 400)) t k = gapF hs (fun x => decide (x ∈ ks)) t k + gapF hs (fun x => decide (x ∈ ks)) t (k - 400) := fun k => by
    rw [← eV]
    unfold gapF
    rw [e1 k, Nd.cnt_append, divInt_addU, Rat.intCast_add]
    generalize (((itF t (Nd.cnt hs 0, fun x => decide (x ∈ ks))).1 k : Int) : Rat) = a
    generalize (((itF t (Nd.cnt (mvH 400 hs) 0, fun x => decide (x ∈ ks.map fun k => k + 400))).1 k : Int) : Rat) = b
    generalize Rat.divInt (Nd.cnt hs t k) (2 ^ t) = c
    generalize Rat.divInt (Nd.cnt (mvH 400 hs) t k) (2 ^ t) = d
    grind
  refine ⟨fun k hk => ?_, fun k hk => ?_⟩
  · have z : gapF hs (fun x => decide (x ∈ ks)) t (k - 400) = 0 := gapF_off hp (zu _ (by omega))
    exact ⟨by rw [eS, z, Rat.add_zero], z⟩
  · have z : gapF hs (fun x => decide (x ∈ ks)) t k = 0 := gapF_off hp (zu _ (by omega))
    exact ⟨by rw [eS, z, Rat.zero_add], z⟩
end Nd

namespace Nd
open PySem PySem.Spec PyProof.Rows L2 LamX L2.DX
/-! ### max(d): the greatest key of a dict, keys all ints -/
def rMaxK : List V → Hp → VK → Prop := fun xs H Q => ∃ (a : Addr) (kvs : List (Key × V)) (ks : List Int), xs = [.ref a] ∧ Rd H a (.dK kvs) ∧ kvs.map (·.1) = ks.map Sum.inl ∧ 0 < ks.length ∧
  ∀ m, m ∈ ks → (∀ y, y ∈ ks → y ≤ m) → Q (.int m) H
section
variable {X : Cx}
theorem cr_maxK (hc : X.calm = true) : CallR X (.builtin "max") rMaxK := by
  intro pins s σ H xs us Q I r ⟨a, kvs, ks, ex, hd, hks, hne, q⟩
  subst ex
  obtain ⟨u, eu, rx⟩ := vals1 r
  subst eu
  cases rx
  have hz : kvs.length ≤ sizeLine := (hd.ok I.hok).1
  obtain ⟨z, lo, vs, rel, dd⟩ := dk_rd I.hok hd
  obtain ⟨ep, hat⟩ := dd.dictAt
  have hkeys : vs.map (·.1) = ks.map Sum.inl := rel.keys.symm.trans hks
  have hl : vs.length = ks.length := by
    have e := congrArg List.length hkeys
    rwa [List.length_map, List.length_map] at e
  have K := PySem.W.kdl_dict (knd := mixKind X.prog X.w) (kvs := vs) (ep := ep) lo
  refine call_max_walkS ?_
  obtain ⟨oI, St, hit, W, st⟩ := K.iter X.A.in1 s (I.ok.hd hc) hat
  have hval : ∀ (j : Nat) (v : Value), (∃ k x, vs[j]? = some (k, x) ∧ (mixKind X.prog X.w).is k v = true) → ∃ t, v = .int (ks.getD j 0) t := fun j v ⟨k, x, e1, e2⟩ => by
    have e3 : (vs.map (·.1))[j]? = some k := by rw [List.getElem?_map, e1]; rfl
    rw [hkeys, List.getElem?_map] at e3
    obtain ⟨y, e4, e5⟩ := Option.map_eq_some_iff.mp e3
    subst e5
    rcases keyIs_shape (show keyIs (Sum.inl y) v = true from e2) with ⟨i, t, ek, ev⟩ | ⟨z, t, ek, ev⟩
    · cases ek
      exact ⟨t, by rw [List.getD_eq_getElem?_getD, e4]; exact ev⟩
    · cases ek
  refine hit _ _ ⟨s.heap.objs.size, _, _, _, vs.length, _, _, fun i j => decide (ks.getD i 0 > ks.getD j 0), rfl, W.toS, st, fun b hb => ?_, by omega, CmpOf.ints_gt (fun j => ks.getD j 0) hval, fun v s' hv hm => ?_⟩
  · show b < (s.heap.push oI).objs.size
    rw [size_push']
    rcases List.mem_cons.mp hb with e | hb
    · rw [e]; exact Nat.lt_succ_self _
    · rw [List.mem_singleton.mp hb]; exact Nat.lt_succ_of_lt (K.there _ hat).2
  · obtain ⟨t, rfl⟩ := hval _ v hv
    have hk : ∀ b o, s.heap.get? b = some o → s'.heap.get? b = some o := fun b o e =>
      hm.heap b o (fun hI => absurd (Heap.lt_size e) (by rw [List.mem_singleton.mp hI]; exact Nat.lt_irrefl _)) (Heap.get?_push_of_some _ e)
    rw [Moved.eq_with hm]
    obtain ⟨h1, h2⟩ := argBest_gt (fun j => ks.getD j 0) (vs.length - 1)
    refine ⟨V.int (ks.getD (argBest (fun i j => decide (ks.getD i 0 > ks.getD j 0)) (vs.length - 1)) 0), H, I.kept hk, ⟨t, rfl⟩, q _ ?_ fun y hy => ?_⟩
    · rw [List.getD_eq_getElem?_getD, List.getElem?_eq_getElem (by omega)]
      exact List.getElem_mem _
    · obtain ⟨j, hj, rfl⟩ := List.getElem_of_mem hy
      have := h2 j (by omega)
      simpa [List.getD_eq_getElem?_getD, List.getElem?_eq_getElem hj] using this
end
theorem lcIn_prFw {K : PySem.W.Frag} {J : It} {G : Hp → Prop} {r : Addr} {xs : List V} {hs : List (Int × Int)} {i j : Nat} {tt : TT} {te : TE} {vs : List Nat} {σ : L2.St} {H1 : Hp} {Q : VK} (W : Walk J xs.length G (YAt xs)) (c : Int × Int → Bool) (v : Int × Int → V) (hG : ∀ H', Same H1 H' → G H') (hall : Paired (PrA r H1) xs hs) (hz : xs.length ≤ 5000000)
    (hw : ∀ x y, wipe (((wipe σ vs).set i (some x)).set j (some y)) vs = wipe σ vs)
    (step : ∀ (p : Int × Int) (H2 : Hp), p ∈ hs → Same H1 H2 → ∀ (QE : VK) (Z : Hp → Prop), (c p = true → ∀ H4, Same H2 H4 → QE (v p) H4) → (c p = false → ∀ H4, Same H2 H4 → Z H4) →
      tt (((wipe σ vs).set i (some (.int p.1))).set j (some (.int p.2))) H2 fun b H3 => if b = true then te (((wipe σ vs).set i (some (.int p.1))).set j (some (.int p.2))) H3 QE else Z H3)
    (fin : ∀ p H', H1 p = none → Same H1 H' → H' p = some (.lst ((hs.filter c).map v)) → Q (.ref p) H') :
    LcIn J (gAny K 2 (gCons (gName i) (gCons (gName j) gNil))) tt te vs σ H1 Q := fun D hD =>
  lc_it W (fun m H => Same H1 H ∧ H D = some (.lst (((hs.take m).filter c).map v))) ⟨Same.new hD, upd_same⟩ (fun m H _ p => hG _ p.1)
    (fun m x H H' hm p y => by
      obtain ⟨rfl, hx⟩ := y
      obtain ⟨s1, eD⟩ := p
      obtain ⟨z, hz1, f⟩ := Nd.paired_get hall hx
      refine (f.same s1).any ?_
      refine k_gcons (k_gname (k_gcons (k_gname (k_gnil ?_))))
      refine ⟨hw _ _, step z _ (List.mem_of_getElem? hz1) s1 _ _ (fun hc H4 s4 => ?_) fun hc H4 s4 => ?_⟩
      · have eD4 := s4 _ _ eD
        refine ⟨_, eD4, ?_, fun c o e => ?_, ?_⟩
        · rw [List.length_map]
          refine Nat.lt_of_le_of_lt (List.length_filter_le _ _) ?_
          rw [List.length_take]
          exact Nat.lt_of_le_of_lt (Nat.min_le_left _ _) (Nat.lt_of_lt_of_le hm (Nat.le_trans hz (by decide)))
        · rw [upd_ne (ne_of_none e hD)]
          exact s4 _ _ (s1 _ _ e)
        · rw [upd_same, List.take_succ, hz1, List.filter_append, List.map_append, Option.toList_some, List.filter_cons, if_pos hc]
          rfl
      · refine ⟨s1.trans s4, ?_⟩
        rw [s4 _ _ eD, List.take_succ, hz1, List.filter_append, Option.toList_some, List.filter_cons, if_neg (by rw [hc]; decide), List.filter_nil, List.append_nil])
    (fun H' p => by
      obtain ⟨s1, eD⟩ := p
      rw [pairs_len hall, List.take_length] at eD
      exact fin D H' hD s1 eD)
theorem DnP.nonneg {kvs : List (Key × V)} {f : Int → Int} {lo hi : Int} (d : DnP kvs f lo hi) (k : Int) : 0 ≤ f k := by
  cases h : valV kvs (.inl k) with
  | none => rw [d.dn.off k h]; exact Int.le_refl _
  | some v => exact Int.le_of_lt (d.pos k v h)
theorem ents_put {ps : List (Int × Int)} {k v : Int} (P : Int × Int → Prop) (h : ∀ p ∈ ps, P p) (hv : P (k, v)) (hn : (ps.map (·.1)).Nodup) :
    ∃ qs : List (Int × Int), putK (ps.map entI) (.inl k) (.int v) = qs.map entI ∧ (qs.map (·.1)).Nodup ∧ (∀ p ∈ qs, P p) ∧ qs.length ≤ ps.length + 1 ∧ qs ≠ [] := by
  unfold putK
  split
  · rename_i hyes
    refine ⟨ps.map fun p => if p.1 = k then (p.1, v) else p, ?_, ?_, fun p hp => ?_, ?_, fun z => ?_⟩
    · rw [List.map_map, List.map_map]
      refine List.map_congr_left fun p _ => ?_
      show (if (entI p).1 = Sum.inl k then ((entI p).1, V.int v) else entI p) = entI (if p.1 = k then (p.1, v) else p)
      by_cases e : p.1 = k
      · rw [if_pos e, if_pos (by rw [← e]; rfl)]
        rfl
      · rw [if_neg e, if_neg (show ¬ (entI p).1 = Sum.inl k from fun z => e (Sum.inl.inj z))]
    · have : (ps.map fun p => if p.1 = k then (p.1, v) else p).map (·.1) = ps.map (·.1) := by
        rw [List.map_map]
        refine List.map_congr_left fun p _ => ?_
        show (if p.1 = k then (p.1, v) else p).1 = p.1
        split <;> rfl
      rw [this]
      exact hn
    · obtain ⟨q, hq, rfl⟩ := List.mem_map.mp hp
      by_cases e : q.1 = k
      · rw [if_pos e, e]
        exact hv
      · rw [if_neg e]
        exact h q hq
    · rw [List.length_map]
      exact Nat.le_succ _
    · rw [List.map_eq_nil_iff.mp z] at hyes
      cases hyes
  · rename_i hno
    refine ⟨ps ++ [(k, v)], by rw [List.map_append]; rfl, ?_, fun p hp => ?_, ?_, by simp⟩
    · rw [List.map_append, List.nodup_append]
      refine ⟨hn, by simp, fun a ha b hb e => ?_⟩
      obtain ⟨q, hq, rfl⟩ := List.mem_map.mp ha
      simp only [List.map_cons, List.map_nil, List.mem_singleton] at hb
      exact hno (List.any_eq_true.mpr ⟨entI q, List.mem_map.mpr ⟨q, hq, rfl⟩, by simp [entI, e, hb]⟩)
    · rcases List.mem_append.mp hp with hp | hp
      · exact h p hp
      · rw [List.mem_singleton.mp hp]
        exact hv
    · rw [List.length_append]
      exact Nat.le_refl _
theorem LnO.beside {CL : Addr} {H H' : Hp} {o p : Addr} {tick tock : Int} {hs ks : List (Int × Int)} {ls ms : List Int} (h : LnO CL H p tick hs ls) (g : LnO CL H o tock ks ms) (ne : p ≠ o) (b : But o H H') : LnO CL H' p tick hs ls := by
  obtain ⟨dx, ph, pl, ts, e1, e7, e8, e9⟩ := h.ex
  obtain ⟨dy, _, _, _, f1, _⟩ := g.ex
  have nt : ∀ {c : Addr} {vs : List V}, H c = some (.tup vs) → c ≠ o := fun e z => by rw [z, f1] at e; cases e
  exact ⟨⟨dx, ph, pl, ts, b _ _ ne e1, b _ _ (nt e7) e7, pairs_mono (fun _ _ h => b _ _ (nt h) h) e8, b _ _ (nt e9) e9⟩, h.asc, h.few, h.lsr, h.lfew⟩
theorem odd_iff {A : List (Int × Int)} (a : Asc A) (k : Int) : k ∈ (A.filter fun p => decide (p.2 % 2 = 1)).map (·.1) ↔ Nd.cnt A 0 k % 2 = 1 := by
  constructor
  · intro h
    obtain ⟨p, hp, rfl⟩ := List.mem_map.mp h
    obtain ⟨h1, h2⟩ := List.mem_filter.mp hp
    rw [cnt_zero_at (asc_nodup a) h1]
    exact of_decide_eq_true h2
  · intro h
    have hk : k ∈ A.map (·.1) := Classical.byContradiction fun z => by rw [cnt_zero_off z] at h; omega
    obtain ⟨p, hp, rfl⟩ := List.mem_map.mp hk
    rw [cnt_zero_at (asc_nodup a) hp] at h
    exact List.mem_map.mpr ⟨p, List.mem_filter.mpr ⟨hp, decide_eq_true h⟩, rfl⟩
theorem odd_eq {A B : List (Int × Int)} (a : Asc A) (b : Asc B) (h : ∀ k, Nd.cnt A 0 k % 2 = Nd.cnt B 0 k % 2) : (A.filter fun p => decide (p.2 % 2 = 1)).map (·.1) = (B.filter fun p => decide (p.2 % 2 = 1)).map (·.1) := by
  refine sorted_uniq ?_ ?_ fun k => by rw [odd_iff a, odd_iff b, h]
  · exact List.pairwise_map.mpr ((a.gap.sublist List.filter_sublist).imp fun h => by omega)
  · exact List.pairwise_map.mpr ((b.gap.sublist List.filter_sublist).imp fun h => by omega)
end Nd

namespace Nd
open PySem PySem.Spec PyProof.Rows L2 LamX L2.DX
/-! ### a tuple of which it is known that it has no dict of its own: what dict(t) asks -/
def TupP (H : Hp) (a : Addr) (xs : List V) : Prop := ∃ ob : Obj, ob.dict = none ∧ H a = some (.frz ob (.tup xs))
theorem TupP.sq {K : PySem.W.Frag} {H : Hp} {a : Addr} {xs : List V} (h : TupP H a xs) : SqT K H a xs := by
  obtain ⟨ob, _, e⟩ := h
  exact .inl (.inr ⟨ob, e⟩)
theorem TupP.to {H H' : Hp} {a : Addr} {xs : List V} (h : TupP H a xs) (k : ∀ u, H a = some u → H' a = some u) : TupP H' a xs := by
  obtain ⟨ob, d, e⟩ := h
  exact ⟨ob, d, k _ e⟩
section
variable {X : Cx}
theorem call_tupleP : CallR X (.type "tuple") (fun xs H Q => ∃ p ys, xs = [.ref p] ∧ SqL X.K H p ys ∧ ∀ l ob, ob.dict = none → H l = none → Q (.ref l) (upd H l (.frz ob (.tup ys)))) := by
  intro pins s σ H xs us Q I r h
  obtain ⟨p, ys, rfl, hq, q⟩ := h
  obtain ⟨u, rfl, rx⟩ := vals1 r
  cases rx
  obtain ⟨its, r', pl, hz⟩ := I.list hq
  have hlen := r'.length
  refine call_tuple_list pl.isList (fun h' kp => ?_) (by simp only [List.size_toArray] <;> omega)
  have I1 : Inv X pins σ H { s with heap := h' } := I.kept (t' := s.toks) kp
  have I2 : Inv X pins σ (upd H h'.objs.size (.frz { cls := .type "tuple", data := .seq its.toArray } (.tup ys))) { s with heap := h'.push { cls := .type "tuple", data := .seq its.toArray } } :=
    I1.laid (t' := s.toks) (fun b o e => Heap.get?_push_of_some _ e) (Nat.le_refl _) (show ObjOk X.prog X.w _ _ _ (.frz _ (.tup ys)) from ⟨Heap.get?_push_size _ rfl, hz, its, r', IsTup.new _ _⟩)
  exact ⟨.ref h'.objs.size, _, I2, rfl, q _ _ rfl (I1.hok.fresh (Nat.le_refl _))⟩
/-- dict(t) of a tuple of pairs -/
theorem call_dictT (hcalm : X.calm = true) : CallR X (.type "dict") (fun xs H Q => ∃ (a : Addr) (ps : List Addr) (kvs : List (Key × V)), xs = [.ref a] ∧ TupP H a (ps.map V.ref) ∧ Paired (fun p kv => SqT X.K H p [kV kv.1, kv.2]) ps kvs ∧
    ∀ p, H p = none → Q (.ref p) (upd H p (.dK (mergeK [] kvs)))) := by
  intro pins s σ H xs us Q I r q
  obtain ⟨a, ps, kvs, ex, ⟨ob, hdn, hq⟩, hp, q⟩ := q
  subst ex
  obtain ⟨u, eu, rx⟩ := vals1 r
  subst eu
  cases rx
  obtain ⟨ho, hz, its, rv, hit⟩ := (show ObjOk X.prog X.w H s.heap a (.frz ob (.tup (ps.map V.ref))) from I.hok a _ hq)
  have ei := refs_at rv
  subst ei
  rw [List.length_map] at hz
  obtain ⟨prs, rel, hl, hpr⟩ := pairs_of I hp
  obtain ⟨o', ho', hc, n, hdat⟩ := hit
  obtain rfl : ob = o' := Option.some.inj (ho.symm.trans ho')
  have hps : ∀ (j : Nat) (b : Addr), ps[j]? = some b → (fun j => ps.getD j 0) j = b := fun j b e => by
    show ps.getD j 0 = b
    rw [List.getD_eq_getElem?_getD, e]
    rfl
  have hch : ∀ j : Fin prs.length, ∃ u : Value, IsTup s.heap (ps.getD j 0) #[u, (prs[j]).2] ∧ keyIs (prs[j]).1 u = true := fun j => by
    obtain ⟨b, u, e1, e2, e3⟩ := hpr j prs[j] (List.getElem?_eq_getElem j.2)
    refine ⟨u, ?_, e3⟩
    rw [show ps.getD j 0 = b from hps j b e1]
    exact e2
  obtain ⟨pv, hpv⟩ : ∃ pv : List (Value × Value), pv = List.ofFn fun j : Fin prs.length => (Classical.choose (hch j), (prs[j]).2) := ⟨_, rfl⟩
  have hlen : pv.length = prs.length := by rw [hpv, List.length_ofFn]
  have hat : ∀ j k v, pv[j]? = some (k, v) → ∃ kk, prs[j]? = some (kk, v) ∧ keyIs kk k = true ∧ j < prs.length ∧ IsTup s.heap (ps.getD j 0) #[k, v] := fun j k v e => by
    have hj : j < prs.length := by
      rw [← hlen]
      exact (List.getElem?_eq_some_iff.mp e).1
    rw [hpv, List.getElem?_ofFn, dif_pos hj] at e
    obtain ⟨e1, e2⟩ := Prod.mk.inj (Option.some.inj e)
    obtain ⟨c1, c2⟩ := Classical.choose_spec (hch ⟨j, hj⟩)
    subst e1 e2
    exact ⟨prs[j].1, List.getElem?_eq_getElem hj, c2, hj, c1⟩
  have hok : (fun h : Heap => PlainSeq "tuple" h a (ps.map Value.ref).toArray ∧ PairItems h (ps.map Value.ref).toArray (fun j => ps.getD j 0) pv) s.heap :=
    ⟨⟨ob, n, ho, hc, hdn, hdat⟩, by simp [hlen, hl], fun j k v e => by
      obtain ⟨kk, _, _, hj, ht⟩ := hat j k v e
      refine ⟨?_, .inl ht⟩
      have hj2 : j < ps.length := by omega
      simp [List.getElem?_eq_getElem hj2, List.getD_eq_getElem?_getD]⟩
  refine PySem.call_dict_pairs (knd := mixKind X.prog X.w) (kvs := prs) (PairArg.tuple (prog := X.prog) (w := X.w) a (ps.map Value.ref).toArray (fun j => ps.getD j 0) pv) (I.ok.hd hcalm) hok ⟨hlen.symm, fun i key v e => ?_⟩ (by omega) fun h' tk hd' k => ?_
  · obtain ⟨kk, e1, e2, _⟩ := hat i key v e
    exact ⟨kk, e1, e2⟩
  · have hm : (s.heap.objs.size == sysModules) = false := beq_eq_false_iff_ne.mpr (Nat.ne_of_gt I.big)
    have hlen' : (mergeK [] kvs).length ≤ sizeLine := by
      refine Nat.le_trans (length_mergeK kvs []) ?_
      rw [List.length_nil, Nat.zero_add, rel.length, hl]
      exact hz
    exact ⟨.ref s.heap.objs.size, upd H s.heap.objs.size (.dK (mergeK [] kvs)), I.laid (t' := tk) (fun b o e => k b o (by simp) e) (Nat.le_refl _) (show ObjOk X.prog X.w _ _ _ (.dK (mergeK [] kvs)) from ⟨hlen', hm, merged [] prs, KV.merge rel .nil, hd'⟩), rfl, q _ (I.hok.fresh (Nat.le_refl _))⟩
end
structure LnF (CL : Addr) (H : Hp) (o : Addr) (tick : Int) (hs : List (Int × Int)) (ls : List Int) : Prop where
  ex : ∃ (dx ph pl : Addr) (ts : List Addr), H o = some (.ins CL dx (lnFs tick ph pl)) ∧ TupP H ph (ts.map V.ref) ∧ Paired (fun t p => H t = some (.tup [.int p.1, .int p.2])) ts hs ∧ H pl = some (.tup (ls.map V.int))
  asc : Asc hs
  few : hs.length ≤ 2500000
  lsr : ls.Pairwise (· < ·)
  lfew : ls.length ≤ 3000000
theorem LnF.same {CL : Addr} {H H' : Hp} {o : Addr} {tick : Int} {hs : List (Int × Int)} {ls : List Int} (h : LnF CL H o tick hs ls) (s : Same H H') : LnF CL H' o tick hs ls := by
  obtain ⟨dx, ph, pl, ts, e1, e7, e8, e9⟩ := h.ex
  exact ⟨⟨dx, ph, pl, ts, s _ _ e1, e7.to (s _), pairs_mono (fun _ _ h => s _ _ h) e8, s _ _ e9⟩, h.asc, h.few, h.lsr, h.lfew⟩
def spLnInitF (CL : Addr) : Sp := fun vs H Q _ => ∃ (o dx : Addr) (v x : V) (hs : List (Int × Int)) (ks : List Int), vs = [.ref o, v, x] ∧ H o = some (.ins CL dx []) ∧ Hs o H v hs ∧ OkHs hs ∧ LfS o H x ks ∧
  ∀ H' hs' ls, But o H H' → hs'.Perm hs → Asc hs' → ls.Perm ks → LnF CL H' o 0 hs' ls → Q .non H'
theorem k_mkLineF {CL o dx : Addr} {v x : V} {hs : List (Int × Int)} {ks : List Int} {r : Addr} {H : Hp} {Q : Hp → Prop} {E : XK} (hv : Hs r H v hs) (ok : OkHs hs) (hx : LfS r H x ks) (no : H o = none) (ndx : H dx = none) (ne : dx ≠ o)
    (k : ∀ H' hs' ls, Same H H' → hs'.Perm hs → Asc hs' → ls.Perm ks → LnF CL H' o 0 hs' ls → Q H') : spLnInitF CL (V.ref o :: ([v, x] ++ [])) (upd (upd H dx (.own o)) o (.ins CL dx [])) (fun v H2 => v = .non ∧ Q H2) E := by
  have s1 : Same H (upd (upd H dx (.own o)) o (.ins CL dx [])) := (Same.new ndx).trans (Same.new (by rw [upd_ne (Ne.symm ne)]; exact no))
  have b1 : But o H (upd (upd H dx (.own o)) o (.ins CL dx [])) := But.of s1
  refine ⟨o, dx, v, x, hs, ks, rfl, upd_same, (hv.off no).but b1, ok, (hx.off no).but b1, fun H' hs' ls b h1 h2 h3 h4 => ⟨rfl, k H' hs' ls (fun c u e => ?_) h1 h2 h3 h4⟩⟩
  exact b c u (ne_of_none e no) (s1 c u e)
def spForwardF (CL : Addr) : Sp := fun vs H Q _ => ∃ (o : Addr) (m B : Nat) (tick : Int) (hs : List (Int × Int)) (ls : List Int), vs = [.ref o, .int (m : Int)] ∧ m ≤ 200 ∧ LnF CL H o tick hs ls ∧ InB (B : Int) (hs, ls) ∧ B + m ≤ 1200000 ∧
  ∀ H' ls', But o H H' → LnF CL H' o (tick + m) (its m (hs, ls)).1 ls' → ls'.Perm (its m (hs, ls)).2 → Q (.int (tick + m)) H'
def spAdvanceF (CL : Addr) : Sp := fun vs H Q _ => ∃ (o : Addr) (B : Nat) (tick : Int) (hs : List (Int × Int)) (ls : List Int), vs = [.ref o] ∧ LnF CL H o tick hs ls ∧ InB (B : Int) (hs, ls) ∧ B + 1 ≤ 1200000 ∧
  ∀ H' ls', But o H H' → LnF CL H' o (tick + 1) (its 1 (hs, ls)).1 ls' → ls'.Perm (its 1 (hs, ls)).2 → Q (.int (tick + 1)) H'
theorem Rid.butF {CL r : Addr} {n : Nat} {H H' : Hp} {o : Addr} {tick : Int} {hs : List (Int × Int)} {ls : List Int} (R : Rid r n H) (h : LnF CL H o tick hs ls) (b : But o H H') : Rid r n H' := by
  obtain ⟨dx, ph, pl, ts, e1, _⟩ := h.ex
  obtain ⟨c, ns, a, z, h1, h2, h3, h4⟩ := R.ex
  exact ⟨c, ns, a, z, h1, b _ _ (fun z => by rw [z, e1] at h2; cases h2) h2, b _ _ (fun z => by rw [z, e1] at h3; cases h3) h3, h4⟩
theorem LnF.beside {CL : Addr} {H H' : Hp} {o p : Addr} {tick tock : Int} {hs ks : List (Int × Int)} {ls ms : List Int} (h : LnF CL H p tick hs ls) (g : LnF CL H o tock ks ms) (ne : p ≠ o) (b : But o H H') : LnF CL H' p tick hs ls := by
  obtain ⟨dx, ph, pl, ts, e1, e7, e8, e9⟩ := h.ex
  obtain ⟨dy, _, _, _, f1, _⟩ := g.ex
  have nt : ∀ {c : Addr} {vs : List V}, H c = some (.tup vs) → c ≠ o := fun e z => by rw [z, f1] at e; cases e
  exact ⟨⟨dx, ph, pl, ts, b _ _ ne e1, by
    obtain ⟨ob, d, e⟩ := e7
    exact ⟨ob, d, b _ _ (fun z => by rw [z, f1] at e; cases e) e⟩, pairs_mono (fun _ _ h => b _ _ (nt h) h) e8, b _ _ (nt e9) e9⟩, h.asc, h.few, h.lsr, h.lfew⟩
theorem Dn.val {kvs : List (Key × V)} {f : Int → Int} {lo hi : Int} (d : Dn kvs f lo hi) {k : Int} (h : f k ≠ 0) : valV kvs (.inl k) = some (.int (f k)) := by
  have g := d.get k
  cases e : valV kvs (.inl k) with
  | none => exact absurd (d.off k e) h
  | some v =>
    rw [e] at g
    exact congrArg some g
/-- the outermost spot on the right: one way only -/
theorem cnt_edge {qs : List (Int × Int)} {lo far : Int} (h : ∀ p ∈ qs, lo ≤ p.1 ∧ p.1 ≤ far) : ∀ n : Nat, Nd.cnt qs n (far + n) = Nd.cnt qs 0 far
  | 0 => by rw [show far + ((0 : Nat) : Int) = far by omega]
  | n + 1 => by
    rw [cnt_succ, cnt_zero_far (cnt_within h) n (far + ((n + 1 : Nat) : Int) + 1) (by omega), show far + ((n + 1 : Nat) : Int) - 1 = far + n by omega, cnt_edge h n, Int.zero_add]
end Nd

namespace Nd
open PySem PySem.Spec PyProof.Rows L2 LamX L2.DX
/-! ### sorted(d.items()), keys all ints, values of any kind: by the keys alone -/
def keyFst (h : Heap) : Value → Int
  | .ref a => match h.get? a with
    | some o => match o.data with
      | .seq vs _ => match vs.toList with
        | .int x _ :: _ => x
        | _ => 0
      | _ => 0
    | none => 0
  | _ => 0
theorem keyFst_at {h : Heap} {a : Addr} {x : Int} {t : Tok} {y : Value} {o : Obj} {n : Nat} (e : h.get? a = some o) (d : o.data = .seq #[.int x t, y] n) : keyFst h (.ref a) = x := by
  simp [keyFst, e, d]
def IsPairF (h : Heap) (v : Value) (x : Int) : Prop := ∃ a o t u n, v = .ref a ∧ h.get? a = some o ∧ o.cls = .type "tuple" ∧ o.data = .seq #[.int x t, u] n
theorem IsPairF.keeps {h h' : Heap} {v : Value} {x : Int} (p : IsPairF h v x) (k : ∀ b o, h.get? b = some o → o.cls = .type "tuple" → h'.get? b = some o) : IsPairF h' v x := by
  obtain ⟨a, o, t, u, n, e, ho, hc, hd⟩ := p
  exact ⟨a, o, t, u, n, e, k _ _ ho hc, hc, hd⟩
def ltF (k : Value → Int) (v u : Value) : Bool := decide (k v < k u)
theorem swo_F (k : Value → Int) : SrtO.Swo (ltF k) := by
  refine ⟨fun x y h => ?_, fun x y z h1 h2 => ?_⟩
  · have a := of_decide_eq_true h
    exact decide_eq_false (by omega)
  · have a := of_decide_eq_false h1
    have b := of_decide_eq_false h2
    exact decide_eq_false (by omega)
section
variable {prog : Program} {w : World} {A : Around} {s : Shared}
theorem pairF_cmp {vs : List Value} {k : Value → Int} (hp : ∀ v ∈ vs, IsPairF s.heap v (k v)) (hu : ∀ v ∈ vs, ∀ u ∈ vs, k v = k u → v = u) : SrtO.Cmp prog w A s (tuples' true) (fun p => p.1 ∈ vs) (SrtO.lt2 (ltF k)) := by
  intro p q hm hm'
  have h1 := hp _ hm
  have h2 := hp _ hm'
  have h3 := hu _ hm _ hm'
  show wpAny (model prog w) A (keyLt' (tuples' true) p.1 q.1) (fun r s' => s' = s ∧ r = decide (k p.1 < k q.1)) (fun _ _ => False) s
  generalize k p.1 = x at h1 h3 ⊢
  generalize k q.1 = x' at h2 h3 ⊢
  obtain ⟨a, o, t, u, n, e, ho, hc, hd⟩ := h1
  obtain ⟨a', o', t', u', n', e', ho', hc', hd'⟩ := h2
  rw [e, e'] at h3
  rw [e, e']
  refine PySem.W.kat_lt ho hd ho' hd' ?_
  show PySem.W.KatLex prog w A true (decide (2 < 2)) _ [(.int x t, .int x' t'), (u, u')] 0 s
  refine PySem.W.kat_cons (SeqAt.EqAt.int_int x t x' t' prog w _ _ ?_)
  refine PySem.W.kat_go (fun e1 => ?_) (fun e1 => ?_)
  · have ex : x = x' := by simpa using e1
    obtain rfl : a = a' := Value.ref.inj (h3 ex)
    rw [ho] at ho'
    cases ho'
    rw [hd] at hd'
    injection hd' with hd1 _
    have hu2 : u = u' := by
      have := congrArg Array.toList hd1
      simp only [List.cons.injEq] at this
      exact this.2.1
    subst hu2
    have e3 : decide (x < x') = false := by
      rw [ex]
      exact decide_eq_false (Int.lt_irrefl _)
    refine PySem.W.kat_yes (PySem.W.kat_cons (SeqAt.EqAt.same u prog w _ _ ?_))
    exact PySem.W.kat_yes (PySem.W.kat_nil ⟨rfl, e3.symm⟩)
  · exact PySem.W.kat_no (oneLt_int ⟨rfl, rfl⟩)
theorem firstsF_of {h : Heap} {k : Value → Int} : ∀ {vs : List Value}, (∀ v ∈ vs, IsPairF h v (k v)) → ∃ fs : List Value, PySem.W.KatTups h vs fs ∧ fs.length = vs.length ∧ ∀ f ∈ fs, ∃ x t, f = Value.int x t
  | [], _ => ⟨[], PySem.W.KatTups.nil, rfl, fun _ hm => by simp at hm⟩
  | v :: vs, hp => by
    obtain ⟨fs, h1, h2, h3⟩ := firstsF_of (vs := vs) fun v' hm => hp v' (List.mem_cons_of_mem _ hm)
    have h0 := hp v (List.mem_cons_self ..)
    generalize k v = x at h0
    obtain ⟨a, o, t, u, n, e, ho, hc, hd⟩ := h0
    subst e
    refine ⟨.int x t :: fs, PySem.W.KatTups.cons ho hc hd rfl h1, by rw [List.length_cons, List.length_cons, h2], fun f hm => ?_⟩
    rcases List.mem_cons.mp hm with rfl | hm
    · exact ⟨x, t, rfl⟩
    · exact h3 f hm
theorem pairsF_sortableO {a : Addr} {vs : List Value} {k : Value → Int} (h0 : 0 < vs.length) (hp : ∀ v ∈ vs, IsPairF s.heap v (k v)) (hu : ∀ v ∈ vs, ∀ u ∈ vs, k v = k u → v = u) (ha : ∀ o, s.heap.get? a = some o → o.cls ≠ .type "tuple") : SrtO.SortableO prog w A s a vs (ltF k) := by
  intro h' keep
  have hp' : ∀ v ∈ vs, IsPairF h' v (k v) := fun v hm => (hp v hm).keeps fun b o e c => keep b o (fun z => by subst z; exact ha o e c) e
  obtain ⟨fs, h1, h2, h3⟩ := firstsF_of hp'
  refine ⟨tuples' true, fun Q E hq => ?_, pairF_cmp hp' hu⟩
  refine PySem.W.kat_kind (T := .type "int") h1 (by omega) (fun f hm => ?_) (by rfl) ?_
  · obtain ⟨x, t, rfl⟩ := h3 f hm
    exact PySem.W.Looks.now
  · have e : (Value.type "int" != Value.type "tuple") = true := by first | decide +kernel | rfl | decide
    rw [e]
    exact hq
end
def entF (p : Int × V) : Key × V := (.inl p.1, p.2)
def entAt (ps : List (Int × V)) (k : Int) : Int × V := (ps.find? fun p => decide (p.1 = k)).getD (0, .non)
theorem entAt_of {ps : List (Int × V)} (nd : (ps.map (·.1)).Nodup) {p : Int × V} (h : p ∈ ps) : entAt ps p.1 = p := by
  unfold entAt
  induction ps with
  | nil => cases h
  | cons q ps ih =>
    obtain ⟨n1, n2⟩ := List.nodup_cons.mp nd
    rcases List.mem_cons.mp h with rfl | h
    · rw [List.find?_cons_of_pos (by simp)]; rfl
    · have : ¬ q.1 = p.1 := fun e => n1 (List.mem_map.mpr ⟨p, h, e.symm⟩)
      rw [List.find?_cons_of_neg (by simp [this])]
      exact ih n2 h
def rSortKF : List V → Hp → VK → Prop := fun vs H Q => ∃ (p a : Addr) (ps : List (Int × V)), vs = [.ref p] ∧ H p = some (itemsO p a) ∧ H a = some (.dK (ps.map entF)) ∧ (ps.map (·.1)).Nodup ∧
  ∀ (H' : Hp) (l : Addr) (ts : List Addr) (qs : List (Int × V)), Same H H' → H l = none → H' l = some (.lst (ts.map V.ref)) → Paired (fun (t : Addr) (q : Int × V) => H t = none ∧ H' t = some (.tup [.int q.1, q.2])) ts qs → qs.Perm ps → qs.Pairwise (fun x y => x.1 < y.1) → Q (.ref l) H'
section
variable {X : Cx}
theorem cr_sortedKF (hc : X.calm = true) : CallR X (.builtin "sorted") rSortKF := by
  intro pins s σ H xs us Q I r ⟨p, a, ps, ex, hp, ha, ndp, q⟩
  subst ex
  obtain rfl := Vals.ref1 r
  have view : s.heap.IsItemsView p a := (show ObjOk X.prog X.w H s.heap p (itemsO p a) from I.hok p _ hp).1
  obtain ⟨hz, hd, vs, kv, hdo⟩ := dk_of I.hok ha
  obtain ⟨ep, o, es, ho, hx, hdat, hks, hprs, hnd⟩ := hdo.dictAt
  have lkv : (ps.map entF).length = vs.length := Paired.length kv
  have les : es.size = ps.length := by
    have := prs_len hprs
    rw [Array.length_toList] at this
    rw [List.length_map] at lkv
    omega
  rw [List.length_map] at hz lkv
  refine DT.sortedI (es := es) (ep := ep) (I.ok.hd hc) view ⟨o, ho, hx, hdat⟩ (by omega) fun h' tk as hk hlt hl hG => ?_
  have nd : as.Nodup := List.Pairwise.imp (fun h => Nat.ne_of_lt h) hG.rise
  have lak : as.length = ps.length := by omega
  obtain ⟨L, hL⟩ : ∃ L, L = h'.objs.size := ⟨_, rfl⟩
  obtain ⟨h2, hh2⟩ : ∃ h2, h2 = h'.push { cls := .type "list", data := .seq (as.map Value.ref).toArray } := ⟨_, rfl⟩
  rw [← hL, ← hh2]
  have hob : h2.get? L = some (seqObj "list" (as.map Value.ref).toArray 0) := by rw [hh2, hL]; exact Heap.get?_push_size _ rfl
  have ka : ∀ b o, h'.get? b = some o → h2.get? b = some o ∧ b < L := fun b o e => ⟨by rw [hh2]; exact Heap.get?_push_of_some _ e, by rw [hL]; exact Heap.lt_size e⟩
  have sz2 : h2.objs.size = L + 1 := by rw [hh2, hL]; exact size_push' ..
  -- what was made, place by place
  have made : ∀ (j : Nat) (b : Addr), as[j]? = some b → ∃ (e : Int × V) (t : Tok) (u : Value), ps[j]? = some e ∧ h2.get? b = some { cls := .type "tuple", data := .seq #[.int e.1 t, u] } ∧ RelV e.2 u ∧ b < L ∧ s.heap.objs.size ≤ b := by
    intro j b hj
    obtain ⟨en, he, hg⟩ := hG.pairs j b hj
    obtain ⟨kq, e1, e2, e3⟩ := prs_get hprs (show es.toList[j]? = some en by rw [Array.getElem?_toList]; exact he)
    have hjl : j < ps.length := by
      have := (List.getElem?_eq_some_iff.mp hj).1
      omega
    have hpj : ps[j]? = some ps[j] := by simp [hjl]
    obtain ⟨z, hz1, hz2⟩ := LiI.paired_get kv (show (ps.map entF)[j]? = some (entF ps[j]) by rw [List.getElem?_map, hpj]; rfl)
    rw [e1] at hz1
    cases hz1
    obtain ⟨z1, z2⟩ := hz2
    have z2 : RelV ps[j].2 kq.2 := z2
    have z1 : (Sum.inl ps[j].1 : Key) = kq.1 := z1
    rw [← z1] at e2
    rcases keyIs_shape (show keyIs (Sum.inl ps[j].1) en.key = true from e2) with ⟨i, t, ek, ev⟩ | ⟨z, t, ek, ev⟩
    · cases ek
      rw [ev, e3] at hg
      obtain ⟨g1, g2⟩ := ka _ _ hg
      exact ⟨_, t, kq.2, hpj, g1, z2, g2, Nat.le_of_lt (hG.above b (List.mem_of_getElem? hj))⟩
    · cases ek
  have isP : ∀ v ∈ as.map Value.ref, IsPairF h2 v (keyFst h2 v) := fun v hv => by
    obtain ⟨b, hb, rfl⟩ := List.mem_map.mp hv
    obtain ⟨j, hj⟩ := List.mem_iff_getElem?.mp hb
    obtain ⟨e, t, u, _, h3, _, _⟩ := made j b hj
    rw [keyFst_at h3 rfl]
    exact ⟨b, _, t, u, 0, rfl, h3, rfl, rfl⟩
  have unl : ∀ v ∈ as.map Value.ref, ∀ u ∈ as.map Value.ref, keyFst h2 v = keyFst h2 u → v = u := fun v hv u hu e => by
    obtain ⟨b, hb, rfl⟩ := List.mem_map.mp hv
    obtain ⟨c, hc, rfl⟩ := List.mem_map.mp hu
    obtain ⟨j, hj⟩ := List.mem_iff_getElem?.mp hb
    obtain ⟨i, hi⟩ := List.mem_iff_getElem?.mp hc
    obtain ⟨x, t, _, f1, f2, _⟩ := made j b hj
    obtain ⟨y, t', _, g1, g2, _⟩ := made i c hi
    rw [keyFst_at f2 rfl, keyFst_at g2 rfl] at e
    have : x = y := by rw [← entAt_of ndp (List.mem_of_getElem? f1), ← entAt_of ndp (List.mem_of_getElem? g1), e]
    subst this
    have ij : j = i := by
      have hn : ps.Nodup := (List.pairwise_map.mp ndp).imp fun h z => h (by rw [z])
      obtain ⟨l1, e1⟩ := List.getElem?_eq_some_iff.mp f1
      obtain ⟨l2, e2⟩ := List.getElem?_eq_some_iff.mp g1
      have pw := List.pairwise_iff_getElem.mp hn
      rcases Nat.lt_trichotomy j i with z | z | z
      · exact absurd (e1.trans e2.symm) (pw j i l1 l2 z)
      · exact z
      · exact absurd (e2.trans e1.symm) (pw i j l2 l1 z)
    subst ij
    rw [hj] at hi
    cases hi
    rfl
  refine wpAny_call_entry (s := { s with heap := h2, toks := tk }) PyProof.Rows.slot_list_sort ⟨_, hob, rfl⟩ PyProof.Rows.entry_list_sort
    (SrtO.list_sort_ord (s := { s with heap := h2, toks := tk }) (swo_F (keyFst h2)) hob (by rw [List.length_map]; omega) (fun g2 => pairsF_sortableO (s := { s with heap := h2, toks := tk }) (by omega) isP unl fun o e => by
      rw [hob] at e
      cases e
      intro c
      exact absurd (Value.type.inj c) (by decide)) fun out g1 g2 => ⟨_, rfl, ?_⟩) (PyProof.Rows.args_list_sort _)
  obtain ⟨ts, rfl⟩ : ∃ ts : List Addr, out = ts.map Value.ref := by
    have hall : ∀ v ∈ out, ∃ b, v = Value.ref b := fun v hv => by
      obtain ⟨b, _, e⟩ := List.mem_map.mp (g2.perm.mem_iff.mp hv)
      exact ⟨b, e.symm⟩
    clear g1 g2
    induction out with
    | nil => exact ⟨[], rfl⟩
    | cons v out ih =>
      obtain ⟨b, rfl⟩ := hall v List.mem_cons_self
      obtain ⟨ts, rfl⟩ := ih fun x hx => hall x (List.mem_cons_of_mem _ hx)
      exact ⟨b :: ts, rfl⟩
  have hperm : ts.Perm as := by
    have z := g2.perm.map unRef
    rw [List.map_map, List.map_map, show (unRef ∘ Value.ref) = id from rfl, List.map_id, List.map_id] at z
    exact z
  obtain ⟨e', he'⟩ := PyProof.Rows.sortedHeap_at (vs := as.map Value.ref) (out := (ts.map Value.ref).toArray) hob
  obtain ⟨hS, hhS⟩ : ∃ hS, hS = sortedHeap h2 L (as.map Value.ref) (ts.map Value.ref).toArray := ⟨_, rfl⟩
  rw [← hhS] at he'
  have kS : ∀ b o, h2.get? b = some o → b < L → hS.get? b = some o := fun b o e l => by
    rw [hhS, PyProof.Rows.sortedHeap_old (Nat.ne_of_lt l) (by rw [sz2]; exact Nat.lt_succ_of_lt l)]
    exact e
  have k0 : ∀ b o, s.heap.get? b = some o → hS.get? b = some o := fun b o e => kS b o (ka _ _ (hk b o e)).1 (ka _ _ (hk b o e)).2
  have aS : ∀ b ∈ as, b < L ∧ s.heap.objs.size ≤ b := fun b hb => by
    obtain ⟨j, hj⟩ := List.mem_iff_getElem?.mp hb
    obtain ⟨_, _, _, _, _, _, a1, a2⟩ := made j b hj
    exact ⟨a1, a2⟩
  have hLn : L ∉ as := fun z => Nat.lt_irrefl _ (aS L z).1
  have sL : s.heap.objs.size ≤ L := by rw [hL]; exact Nat.le_of_lt hlt
  have fL : H L = none := I.hok.fresh sL
  have atP := LiI.putT_at as (ps.map entF) (upd H L (.lst (ts.map V.ref))) (by rw [List.length_map]; omega) nd
  obtain ⟨H', hH'⟩ : ∃ H', H' = LiI.putT (upd H L (.lst (ts.map V.ref))) as (ps.map entF) := ⟨_, rfl⟩
  rw [← hH'] at atP
  have off : ∀ b, b ∉ as → b ≠ L → H' b = H b := fun b h1 h2 => by rw [hH', LiI.putT_off as _ _ h1, upd_ne h2]
  have eL : H' L = some (.lst (ts.map V.ref)) := by rw [hH', LiI.putT_off as _ _ hLn, upd_same]
  have kp : Same H H' := fun b u e => by
    rw [off b (fun z => ?_) (fun z => ?_)]
    · exact e
    · rw [I.hok.fresh (aS b z).2] at e
      cases e
    · rw [z, fL] at e
      cases e
  have at1 : ∀ b ∈ as, ∃ (e : Int × V) (t : Tok) (u : Value), H' b = some (.tup [.int e.1, e.2]) ∧ hS.get? b = some { cls := .type "tuple", data := .seq #[.int e.1 t, u] } ∧ RelV e.2 u ∧ entAt ps (keyFst h2 (.ref b)) = e ∧ ∃ j, as[j]? = some b ∧ ps[j]? = some e := fun b hb => by
    obtain ⟨j, y, e1, e2, e3⟩ := LiI.paired_ix atP hb
    obtain ⟨e, t, u, f1, f2, fr, f3, _⟩ := made j b e1
    rw [List.getElem?_map, f1] at e2
    cases e2
    exact ⟨e, t, u, e3, kS _ _ f2 f3, fr, by rw [keyFst_at f2 rfl]; exact entAt_of ndp (List.mem_of_getElem? f1), j, e1, f1⟩
  have J : Inv X pins σ H' { s with heap := hS, toks := tk } := inv_lay I k0 kp fun b u e n => by
    by_cases hb : b ∈ as
    · obtain ⟨z, t, w', f1, f2, fr, _⟩ := at1 b hb
      rw [e] at f1
      cases f1
      exact ⟨(aS b hb).2, show 2 ≤ sizeLine by decide, [.int z.1 t, w'], .cons ⟨_, rfl⟩ (.cons fr .nil), ⟨_, f2, rfl, _, rfl⟩⟩
    · by_cases hbL : b = L
      · subst hbL
        rw [eL] at e
        cases e
        refine ⟨sL, ?_, ts.map Value.ref, e', LiI.vals_refs ts, he'⟩
        rw [List.length_map, hperm.length_eq]
        omega
      · rw [off b hb hbL, n] at e
        cases e
  rw [← hhS]
  refine ⟨.ref L, H', J, rfl, q H' L ts (ts.map fun t => entAt ps (keyFst h2 (.ref t))) kp fL eL ?_ ?_ ?_⟩
  · have : ∀ t ∈ ts, H t = none ∧ H' t = some (.tup [.int (entAt ps (keyFst h2 (.ref t))).1, (entAt ps (keyFst h2 (.ref t))).2]) := fun t ht => by
      have ha := hperm.mem_iff.mp ht
      obtain ⟨z, _, _, f1, _, _, f3, _⟩ := at1 t ha
      rw [f3]
      exact ⟨I.hok.fresh (aS t ha).2, f1⟩
    clear g1 g2 hperm hhS he' eL hH'
    induction ts with
    | nil => exact .nil
    | cons t ts ih => exact .cons (this t List.mem_cons_self) (ih fun x hx => this x (List.mem_cons_of_mem _ hx))
  · refine (hperm.map _).trans ?_
    have : as.map (fun t => entAt ps (keyFst h2 (.ref t))) = ps := List.ext_getElem? fun j => by
      rw [List.getElem?_map]
      cases h : as[j]? with
      | none => 
        rw [List.getElem?_eq_none_iff] at h
        rw [Option.map_none, List.getElem?_eq_none (by omega)]
      | some b =>
        obtain ⟨e, t, u, f1, f2, _⟩ := made j b h
        rw [Option.map_some, keyFst_at f2 rfl, f1, entAt_of ndp (List.mem_of_getElem? f1)]
    rw [this]
  · have hin : ∀ t ∈ ts, ∃ e ∈ ps, entAt ps (keyFst h2 (.ref t)) = e ∧ keyFst h2 (.ref t) = e.1 := fun t ht => by
      obtain ⟨j, hj⟩ := List.mem_iff_getElem?.mp (hperm.mem_iff.mp ht)
      obtain ⟨e, _, _, f1, f2, _⟩ := made j t hj
      have hm := List.mem_of_getElem? f1
      exact ⟨e, hm, by rw [keyFst_at f2 rfl]; exact entAt_of ndp hm, keyFst_at f2 rfl⟩
    have g3 := List.pairwise_map.mp g1
    have ndt : ts.Nodup := hperm.nodup_iff.mpr nd
    refine List.pairwise_map.mpr ((g3.and ndt).imp_of_mem fun {x y} hx hy h => ?_)
    obtain ⟨h, hne⟩ := h
    obtain ⟨e, me, h1, h2'⟩ := hin x hx
    obtain ⟨e', me', h3, h4⟩ := hin y hy
    rw [h1, h3]
    have h5 := of_decide_eq_false h
    rw [h2', h4] at h5
    have h6 : e.1 ≠ e'.1 := fun z => hne (Value.ref.inj (unl _ (List.mem_map.mpr ⟨x, hperm.mem_iff.mp hx, rfl⟩) _ (List.mem_map.mpr ⟨y, hperm.mem_iff.mp hy, rfl⟩) (by rw [h2', h4, z])))
    omega
end
end Nd

namespace Nd
open PySem PySem.Spec PyProof.Rows L2 LamX L2.DX
/-! ### means as a tuple known to have no dict of its own; dicts of fractions -/
def spMeansF : Sp := fun vs H Q _ => ∃ (r : Addr) (v : V) (hs : List (Int × Int)) (t : Nat), vs = [v, .int (t : Int)] ∧ Hs r H v hs ∧ OkHs hs ∧ t ≤ 200 ∧
  ∀ H' a ys zs, Same H H' → Spots (Nd.cnt hs t) ys → H a = none → TupP H' a zs → Paired (MeanN H H') zs (ys.map fun k => (k, Rat.divInt (Nd.cnt hs t k) (2 ^ t))) → Q (.ref a) H'
/-- no item passes the test -/
theorem lcIn_mNo {K : PySem.W.Frag} {a r : Addr} {zs : List V} {ms : List (Int × Rat)} {i j : Nat} {tt : TT} {te : TE} {vs : List Nat} {σ : L2.St} {H1 : Hp} {Q : VK} (hx : TupP H1 a zs) (hall : Paired (MeanR r H1) zs ms)
    (hw : ∀ x y, wipe (((wipe σ vs).set i (some x)).set j (some y)) vs = wipe σ vs)
    (step : ∀ (m : Int × Rat) (y : V) (H2 : Hp), m ∈ ms → Same H1 H2 → Fr r H2 y m.2 → ∀ (QE : VK) (Z : Hp → Prop), (∀ H4, Same H2 H4 → Z H4) →
      tt (((wipe σ vs).set i (some (.int m.1))).set j (some y)) H2 fun b H3 => if b = true then te (((wipe σ vs).set i (some (.int m.1))).set j (some y)) H3 QE else Z H3)
    (fin : ∀ p H', H1 p = none → Same H1 H' → H' p = some (.lst []) → Q (.ref p) H') :
    LcIn (Itt K a) (gTup K 2 (gCons (gName i) (gCons (gName j) gNil))) tt te vs σ H1 Q := fun D hD =>
  lc_it walk_tup (fun m H => Same H1 H ∧ H D = some (.lst [])) ⟨Same.new hD, upd_same⟩ (fun m H _ p => (hx.to (p.1 _)).sq)
    (fun m x H H' hm p y => by
      obtain ⟨rfl, hx⟩ := y
      obtain ⟨s1, eD⟩ := p
      obtain ⟨z, hz1, f⟩ := Nd.paired_get hall hx
      obtain ⟨b1, y, rfl, nb, eb, fy⟩ := f.same s1
      refine k_gtup (.inl (.inl eb)) rfl ?_
      refine k_gcons (k_gname (k_gcons (k_gname (k_gnil ?_))))
      refine ⟨hw _ _, step z y _ (List.mem_of_getElem? hz1) s1 fy _ _ fun H4 s4 => ⟨s1.trans s4, s4 _ _ eD⟩⟩)
    (fun H' p => fin D H' hD p.1 p.2)
/-- a new pair of each -/
theorem lcIn_mI {K : PySem.W.Frag} {a r : Addr} {zs : List V} {ms : List (Int × Rat)} {i j : Nat} {te : TE} {vs : List Nat} {σ : L2.St} {H1 : Hp} {Q : VK} (f : Int × Rat → Int × Int) (hx : TupP H1 a zs) (hall : Paired (MeanR r H1) zs ms) (hz : zs.length ≤ 50000)
    (hw : ∀ x y, wipe (((wipe σ vs).set i (some x)).set j (some y)) vs = wipe σ vs)
    (step : ∀ (m : Int × Rat) (y : V) (H2 : Hp), m ∈ ms → Same H1 H2 → Fr r H2 y m.2 → ∀ QE : VK, (∀ H4 p, Same H2 H4 → H2 p = none → H4 p = some (.tup [.int (f m).1, .int (f m).2]) → QE (.ref p) H4) → te (((wipe σ vs).set i (some (.int m.1))).set j (some y)) H2 QE)
    (fin : ∀ (p : Addr) (H' : Hp) (ts : List Addr), H1 p = none → Same H1 H' → H' p = some (.lst (ts.map V.ref)) → Paired (fun (t : Addr) (q : Int × Int) => H1 t = none ∧ H' t = some (.tup [.int q.1, .int q.2])) ts (ms.map f) → Q (.ref p) H') :
    LcIn (Itt K a) (gTup K 2 (gCons (gName i) (gCons (gName j) gNil))) tYes te vs σ H1 Q := fun D hD =>
  lc_it walk_tup (fun m H => Same H1 H ∧ ∃ ts : List Addr, H D = some (.lst (ts.map V.ref)) ∧ Paired (fun (t : Addr) (q : Int × Int) => H1 t = none ∧ H t = some (.tup [.int q.1, .int q.2])) ts ((ms.take m).map f)) ⟨Same.new hD, [], upd_same, .nil⟩ (fun m H _ p => (hx.to (p.1 _)).sq)
    (fun m x H H' hm p y => by
      obtain ⟨rfl, hx⟩ := y
      obtain ⟨s1, ts, eD, hp⟩ := p
      obtain ⟨z, hz1, g⟩ := Nd.paired_get hall hx
      obtain ⟨b1, y, rfl, nb, eb, fy⟩ := g.same s1
      refine k_gtup (.inl (.inl eb)) rfl ?_
      refine k_gcons (k_gname (k_gcons (k_gname (k_gnil ?_))))
      refine ⟨hw _ _, k_tYes ?_⟩
      rw [if_pos rfl]
      refine step z y _ (List.mem_of_getElem? hz1) s1 fy _ fun H4 p4 s4 np4 ep4 => ?_
      have eD4 := s4 _ _ eD
      have nt : ∀ {c : Addr} {us : List V}, H4 c = some (.tup us) → c ≠ D := fun e z => by rw [z, eD4] at e; cases e
      refine ⟨_, eD4, ?_, fun c o e => ?_, ts ++ [p4], ?_, ?_⟩
      · rw [List.length_map, pairs_len hp, List.length_map, List.length_take]
        exact Nat.lt_of_le_of_lt (Nat.min_le_left _ _) (Nat.lt_of_lt_of_le hm (Nat.le_trans hz (by decide)))
      · rw [upd_ne (ne_of_none e hD)]
        exact s4 _ _ (s1 _ _ e)
      · rw [upd_same, List.map_append]
        rfl
      · rw [List.take_succ, hz1, List.map_append]
        refine Paired.snoc (pairs_mono (fun t q h => ⟨h.1, ?_⟩) hp) ⟨s1.free np4, (upd_ne (nt ep4)).trans ep4⟩
        exact (upd_ne (nt (s4 _ _ h.2))).trans (s4 _ _ h.2))
    (fun H' p => by
      obtain ⟨s1, ts, eD, hp⟩ := p
      rw [pairs_len hall, List.take_length] at hp
      exact fin D H' ts hD s1 eD hp)
/-! dicts of fractions: entries by spot -/
structure DQ (r : Addr) (H : Hp) (ps : List (Int × V)) (S : Int → Prop) (f : Int → Rat) : Prop where
  nd : (ps.map (·.1)).Nodup
  mem : ∀ k, (∃ v, (k, v) ∈ ps) ↔ S k
  fr : ∀ p ∈ ps, Fr r H p.2 (f p.1)
theorem DQ.same {r : Addr} {H H' : Hp} {ps : List (Int × V)} {S : Int → Prop} {f : Int → Rat} (d : DQ r H ps S f) (s : Same H H') : DQ r H' ps S f := ⟨d.nd, d.mem, fun p hp => (d.fr p hp).same s⟩
theorem valV_entF {ps : List (Int × V)} {k : Int} : (∀ v, valV (ps.map entF) (.inl k) = some v → (k, v) ∈ ps) ∧ (valV (ps.map entF) (.inl k) = none → ∀ v, (k, v) ∉ ps) := by
  refine ⟨fun v h => ?_, fun h v hm => ?_⟩
  · have := valV_mem h
    obtain ⟨p, hp, e⟩ := List.mem_map.mp this
    unfold entF at e
    injection e with e1 e2
    cases e1
    subst e2
    exact hp
  · unfold valV at h
    rw [Option.map_eq_none_iff, List.find?_eq_none] at h
    exact h (entF (k, v)) (List.mem_map.mpr ⟨_, hm, rfl⟩) (by simp [entF])
theorem DQ.put {r : Addr} {H : Hp} {ps : List (Int × V)} {S S' : Int → Prop} {f g : Int → Rat} (d : DQ r H ps S f) {k : Int} {v : V} {q : Rat} (hv : Fr r H v q) (hS : ∀ j, S' j ↔ (S j ∨ j = k)) (hg : ∀ j, g j = if j = k then q else f j) :
    ∃ qs : List (Int × V), putK (ps.map entF) (.inl k) v = qs.map entF ∧ qs.length ≤ ps.length + 1 ∧ DQ r H qs S' g := by
  unfold putK
  by_cases hy : ((ps.map entF).any fun kv => decide (kv.1 = Sum.inl k)) = true
  · rw [if_pos hy]
    refine ⟨ps.map fun p => if p.1 = k then (p.1, v) else p, ?_, ?_, ?_, fun j => ?_, fun p hp => ?_⟩
    · rw [List.map_map, List.map_map]
      refine List.map_congr_left fun p _ => ?_
      show (if (entF p).1 = Sum.inl k then ((entF p).1, v) else entF p) = entF (if p.1 = k then (p.1, v) else p)
      by_cases e : p.1 = k
      · rw [if_pos e, if_pos (by rw [← e]; rfl)]
        rfl
      · rw [if_neg e, if_neg (show ¬ (entF p).1 = Sum.inl k from fun z => e (Sum.inl.inj z))]
    · rw [List.length_map]
      exact Nat.le_succ _
    · have : (ps.map fun p => if p.1 = k then (p.1, v) else p).map (·.1) = ps.map (·.1) := by
        rw [List.map_map]
        refine List.map_congr_left fun p _ => ?_
        show (if p.1 = k then (p.1, v) else p).1 = p.1
        split <;> rfl
      rw [this]
      exact d.nd
    · rw [hS j, ← d.mem j]
      obtain ⟨e0, he0, hk0⟩ := List.any_eq_true.mp hy
      obtain ⟨p0, hp0, rfl⟩ := List.mem_map.mp he0
      have hk0 : p0.1 = k := Sum.inl.inj (of_decide_eq_true hk0)
      constructor
      · rintro ⟨u, hu⟩
        obtain ⟨p, hp, e⟩ := List.mem_map.mp hu
        by_cases z : p.1 = k
        · rw [if_pos z] at e
          exact .inr (by rw [← (Prod.mk.inj e).1, z])
        · rw [if_neg z] at e
          exact .inl ⟨u, by rw [← e]; exact hp⟩
      · rintro (⟨u, hu⟩ | rfl)
        · by_cases z : j = k
          · exact ⟨v, List.mem_map.mpr ⟨(j, u), hu, by rw [if_pos z]⟩⟩
          · exact ⟨u, List.mem_map.mpr ⟨(j, u), hu, by rw [if_neg z]⟩⟩
        · exact ⟨v, List.mem_map.mpr ⟨p0, hp0, by rw [if_pos hk0, hk0]⟩⟩
    · obtain ⟨p', hp', rfl⟩ := List.mem_map.mp hp
      by_cases z : p'.1 = k
      · rw [if_pos z]
        show Fr r H v (g p'.1)
        rw [hg, if_pos z]
        exact hv
      · rw [if_neg z, hg, if_neg z]
        exact d.fr p' hp'
  · rw [if_neg hy]
    have hno : ∀ p ∈ ps, p.1 ≠ k := fun p hp e => hy (List.any_eq_true.mpr ⟨entF p, List.mem_map.mpr ⟨p, hp, rfl⟩, by simp [entF, e]⟩)
    refine ⟨ps ++ [(k, v)], by rw [List.map_append]; rfl, by simp, ?_, fun j => ?_, fun p hp => ?_⟩
    · rw [List.map_append, List.nodup_append]
      refine ⟨d.nd, by simp, fun a ha b hb e => ?_⟩
      obtain ⟨p, hp, rfl⟩ := List.mem_map.mp ha
      simp only [List.map_cons, List.map_nil, List.mem_singleton] at hb
      exact hno p hp (e.trans hb)
    · rw [hS j, ← d.mem j]
      constructor
      · rintro ⟨u, hu⟩
        rcases List.mem_append.mp hu with h | h
        · exact .inl ⟨u, h⟩
        · exact .inr (Prod.mk.inj (List.mem_singleton.mp h)).1
      · rintro (⟨u, hu⟩ | rfl)
        · exact ⟨u, List.mem_append_left _ hu⟩
        · exact ⟨v, List.mem_append_right _ (List.mem_singleton.mpr rfl)⟩
    · rcases List.mem_append.mp hp with h | h
      · rw [hg, if_neg (hno p h)]
        exact d.fr p h
      · rw [List.mem_singleton.mp h, hg, if_pos rfl]
        exact hv
theorem means_ents {r : Addr} {H : Hp} : ∀ {zs : List V} {ms : List (Int × Rat)}, Paired (MeanR r H) zs ms → ∃ (ps : List Addr) (es : List (Int × V)), zs = ps.map V.ref ∧ Paired (fun (p : Addr) (e : Int × V) => H p = some (.tup [.int e.1, e.2])) ps es ∧ es.map (·.1) = ms.map (·.1) ∧ Paired (fun (e : Int × V) (m : Int × Rat) => e.1 = m.1 ∧ Fr r H e.2 m.2) es ms
  | _, _, .nil => ⟨[], [], rfl, .nil, rfl, .nil⟩
  | _, _, .cons h t => by
    obtain ⟨ps, es, rfl, h1, h2, h3⟩ := means_ents t
    obtain ⟨a, y, rfl, na, ea, fy⟩ := h
    exact ⟨a :: ps, (_, y) :: es, rfl, .cons ea h1, by rw [List.map_cons, List.map_cons, h2], .cons ⟨rfl, fy⟩ h3⟩
theorem MeanR.gx {r D : Addr} {H H' : Hp} {v : V} {m : Int × Rat} {l : List (Key × V)} (h : MeanR r H v m) (g : Gx D H H') (e : H D = some (.dK l)) : MeanR r H' v m := by
  obtain ⟨a, y, h1, h2, h3, b, h4, h5, h6⟩ := h
  have ne : ∀ {c : Addr} {us : List V}, H c = some (.tup us) → c ≠ D := fun e' z => by rw [z, e] at e'; cases e'
  exact ⟨a, y, h1, h2, g _ _ (ne h3) h3, b, h4, h5, g _ _ (ne h6) h6⟩
theorem Rid.gx {D r : Addr} {n : Nat} {H H' : Hp} {l : List (Key × V)} (R : Rid r n H) (g : Gx D H H') (e : H D = some (.dK l)) : Rid r n H' := by
  obtain ⟨c, ns, a, z, h1, h2, h3, h4⟩ := R.ex
  exact ⟨c, ns, a, z, h1, g _ _ (fun z => by rw [z, e] at h2; cases h2) h2, g _ _ (fun z => by rw [z, e] at h3; cases h3) h3, h4⟩
theorem pairs_monoR {α β : Type} {F G : α → β → Prop} : ∀ {l : List α} {m : List β}, (∀ a b, b ∈ m → F a b → G a b) → Paired F l m → Paired G l m
  | _, _, _, .nil => .nil
  | _, _, h, .cons p t => .cons (h _ _ List.mem_cons_self p) (pairs_monoR (fun a b hb => h a b (List.mem_cons_of_mem _ hb)) t)
theorem cnt_extN {qs rs : List (Int × Int)} {a b : Nat} (h : ∀ k, Nd.cnt qs a k = Nd.cnt rs b k) : ∀ (n : Nat) (k : Int), Nd.cnt qs (a + n) k = Nd.cnt rs (b + n) k
  | 0, k => h k
  | n + 1, k => by
    show Nd.cnt qs (a + n + 1) k = Nd.cnt rs (b + n + 1) k
    rw [cnt_succ, cnt_succ, cnt_extN h n, cnt_extN h n]
theorem divInt_pow (c : Int) (t : Nat) : Rat.divInt (2 ^ t * c) (2 ^ t) = (c : Rat) := by
  have h : (2 : Int) ^ t ≠ 0 := Int.ne_of_gt (two_pos t)
  have e : (c : Rat) = Rat.divInt c 1 := by
    have h2 := Rat.num_divInt_den (c : Rat)
    rw [Rat.den_intCast, Rat.num_intCast] at h2
    exact h2.symm
  rw [e, Rat.divInt_eq_divInt_iff h (by decide), Int.mul_one, Int.mul_comm]
theorem divInt_more (c : Int) (t n : Nat) : Rat.divInt (2 ^ t * c) (2 ^ (t + n)) = Rat.divInt c (2 ^ n) := by
  have h : (2 : Int) ^ (t + n) ≠ 0 := Int.ne_of_gt (two_pos _)
  have h2 : (2 : Int) ^ n ≠ 0 := Int.ne_of_gt (two_pos _)
  rw [Rat.divInt_eq_divInt_iff h h2, Int.pow_add, Int.mul_comm (2 ^ t) c, Int.mul_assoc]
theorem cnt_le_len {B : Int} : ∀ {hs : List (Int × Int)}, (∀ p ∈ hs, 1 ≤ p.2 ∧ p.2 ≤ B) → ∀ (t : Nat) (k : Int), Nd.cnt hs t k ≤ hs.length * B * 2 ^ t
  | [], _, t, k => by rw [show Nd.cnt [] t k = 0 from rfl]; simp
  | p :: hs, h, t, k => by
    have ih := cnt_le_len (fun q hq => h q (List.mem_cons_of_mem _ hq)) t k
    obtain ⟨h1, h2⟩ := h p List.mem_cons_self
    have hw : (W t (k - p.1) : Int) ≤ 2 ^ t := by
      have := W_le t (k - p.1)
      have e4 : ((2 ^ t : Nat) : Int) = (2 : Int) ^ t := by simp
      omega
    have h3 : p.2 * (W t (k - p.1) : Int) ≤ B * 2 ^ t := Int.mul_le_mul h2 hw (by omega) (by omega)
    rw [cnt_cons, List.length_cons, Int.natCast_add, Int.add_mul, Int.add_mul, show ((1 : Nat) : Int) = 1 from rfl, Int.one_mul]
    omega
theorem atI_head {α : Type} (x : α) (xs : List α) : atI (x :: xs) 0 = some x := by
  unfold atI ixN
  rw [if_pos (Int.le_refl _), if_pos (by rw [List.length_cons]; omega)]
  rfl
/-- over a range, a test, a new pair of a whole number and a fraction -/
theorem lcIn_rgM {r : Addr} {N n j : Nat} {lo : Int} {tt : TT} {te : TE} {vs : List Nat} {σ : L2.St} {H1 : Hp} {Q : VK} (c : Nat → Bool) (f : Nat → Int × Rat) (R : Rid r N H1) (hn : n ≤ 50000)
    (hw : ∀ x, wipe ((wipe σ vs).set j (some x)) vs = wipe σ vs)
    (step : ∀ (m : Nat) (H2 : Hp), m < n → Same H1 H2 → ∀ (QE : VK) (Z : Hp → Prop), (c m = true → ∀ H4 v, Same H2 H4 → MeanR r H4 v (f m) → QE v H4) → (c m = false → ∀ H4, Same H2 H4 → Z H4) →
      tt ((wipe σ vs).set j (some (.int (lo + (m : Int))))) H2 fun b H3 => if b = true then te ((wipe σ vs).set j (some (.int (lo + (m : Int))))) H3 QE else Z H3)
    (fin : ∀ (p : Addr) (H' : Hp) (ys : List V), H1 p = none → Same H1 H' → H' p = some (.lst ys) → Paired (MeanR r H') ys (((List.range n).filter c).map f) → Q (.ref p) H') :
    LcIn (Itr lo n) (gName j) tt te vs σ H1 Q := fun D hD =>
  lc_it (walk_range (lo := lo) (n := n)) (fun m H => Same H1 H ∧ ∃ ys : List V, H D = some (.lst ys) ∧ ys.length ≤ m ∧ Paired (MeanR r H) ys (((List.range m).filter c).map f)) ⟨Same.new hD, [], upd_same, Nat.le_refl _, .nil⟩ (fun _ _ _ _ => trivial)
    (fun m x H H' hm p y => by
      obtain ⟨rfl, rfl⟩ := y
      obtain ⟨s1, ys, eD, hl, hp⟩ := p
      refine k_gname ?_
      refine ⟨hw _, ?_⟩
      refine step m _ hm s1 _ _ (fun hc H4 v s4 hv => ?_) fun hc H4 s4 => ?_
      · have eD4 := s4 _ _ eD
        have nt : ∀ {c : Addr} {us : List V}, H4 c = some (.tup us) → c ≠ D := fun e z => by rw [z, eD4] at e; cases e
        have put : ∀ {v' : V} {q : Int × Rat}, MeanR r H4 v' q → MeanR r (upd H4 D (.lst (ys ++ [v]))) v' q := fun {v' q} h => by
          obtain ⟨a2, y2, e1, n1, e2, c2, e3, n2, e4⟩ := h
          exact ⟨a2, y2, e1, n1, (upd_ne (nt e2)).trans e2, c2, e3, n2, (upd_ne (nt e4)).trans e4⟩
        refine ⟨_, eD4, ?_, fun c o e => ?_, ys ++ [v], upd_same, by rw [List.length_append, List.length_singleton]; omega, ?_⟩
        · exact Nat.lt_of_le_of_lt hl (Nat.lt_of_lt_of_le hm (Nat.le_trans hn (by decide)))
        · rw [upd_ne (ne_of_none e hD)]
          exact s4 _ _ (s1 _ _ e)
        · rw [List.range_succ, List.filter_append, List.filter_cons, if_pos hc, List.filter_nil, List.map_append]
          exact Paired.snoc (pairs_mono (fun _ _ h => put (h.same s4)) hp) (put hv)
      · refine ⟨s1.trans s4, ys, s4 _ _ eD, by omega, ?_⟩
        rw [List.range_succ, List.filter_append, List.filter_cons, if_neg (by rw [hc]; decide), List.filter_nil, List.append_nil]
        exact pairs_mono (fun _ _ h => h.same s4) hp)
    (fun H' p => by
      obtain ⟨s1, ys, eD, _, hp⟩ := p
      exact fin D H' ys hD s1 eD hp)
theorem TupP.same {a : Addr} {H H' : Hp} {xs : List V} (h : TupP H a xs) (s : Same H H') : TupP H' a xs := h.to (s _)
theorem TupP.gx {D a : Addr} {H H' : Hp} {xs : List V} {l : List (Key × V)} (h : TupP H a xs) (g : Gx D H H') (e : H D = some (.dK l)) : TupP H' a xs := by
  obtain ⟨ob, d, ea⟩ := h
  exact ⟨ob, d, g _ _ (fun z => by rw [z, e] at ea; cases ea) ea⟩
theorem Fr.gx {r D : Addr} {H H' : Hp} {v : V} {q : Rat} {l : List (Key × V)} (h : Fr r H v q) (g : Gx D H H') (e : H D = some (.dK l)) : Fr r H' v q := by
  obtain ⟨a, h1, h2, h3⟩ := h
  exact ⟨a, h1, h2, g _ _ (fun z => by rw [z, e] at h3; cases h3) h3⟩
end Nd

namespace Nd
open PySem PySem.Spec PyProof.Rows L2
/-! triples of ints, texts of lines -/
def trD (x : Int × Int × Int) : PyData := .tuple [.int x.1, .int x.2.1, .int x.2.2]
theorem trs_dp {K : PySem.W.Frag} {H0 H : Hp} : ∀ {ts : List Addr} {xs : List (Int × Int × Int)}, Paired (TrI H0 H) ts xs → DpAll K H (ts.map V.ref) (xs.map trD)
  | _, _, .nil => .nil
  | _, _, .cons h t => .cons (.tup (.inl (.inl h.2)) (.cons (.int _) (.cons (.int _) (.cons (.int _) .nil)))) (trs_dp t)
theorem txw_pW {p : Int × Int} (h1 : p.1.natAbs < 2 ^ 24) (h2 : p.2.natAbs ≤ 10 ^ 63) : TxW 310 (pD p) := by
  obtain ⟨a1, a2, a3⟩ := txw_int (n := 24) (Nat.lt_of_lt_of_le h1 (by decide +kernel)) h1 (by decide)
  obtain ⟨b1, b2, b3⟩ := txw_int (n := 220) (Nat.lt_of_le_of_lt h2 (by decide +kernel)) (Nat.lt_of_le_of_lt h2 (by decide +kernel)) (by decide)
  refine ⟨?_, ?_, ?_, ?_⟩
  · simp [pD, PyData.showable, PyData.showableAll] at a1 b1 ⊢
    exact ⟨a1, b1⟩
  · simp [pD, PyData.depth, PyData.depthAll]
  · simp [pD, PyData.leavesShort, PyData.leavesShortAll] at a2 b2 ⊢
    exact ⟨a2, b2⟩
  · simp [pD, PyData.weight, PyData.weightAll] at a3 b3 ⊢
    omega
theorem txw_tr {x : Int × Int × Int} (h1 : x.1.natAbs < 2 ^ 24) (h2 : x.2.1.natAbs ≤ 10 ^ 63) (h3 : x.2.2.natAbs ≤ 10 ^ 63) : TxW 560 (trD x) := by
  obtain ⟨a1, a2, a3⟩ := txw_int (n := 24) (Nat.lt_of_lt_of_le h1 (by decide +kernel)) h1 (by decide)
  obtain ⟨b1, b2, b3⟩ := txw_int (n := 220) (Nat.lt_of_le_of_lt h2 (by decide +kernel)) (Nat.lt_of_le_of_lt h2 (by decide +kernel)) (by decide)
  obtain ⟨c1, c2, c3⟩ := txw_int (n := 220) (Nat.lt_of_le_of_lt h3 (by decide +kernel)) (Nat.lt_of_le_of_lt h3 (by decide +kernel)) (by decide)
  refine ⟨?_, ?_, ?_, ?_⟩
  · simp [trD, PyData.showable, PyData.showableAll] at a1 b1 c1 ⊢
    exact ⟨a1, b1, c1⟩
  · simp [trD, PyData.depth, PyData.depthAll]
  · simp [trD, PyData.leavesShort, PyData.leavesShortAll] at a2 b2 c2 ⊢
    exact ⟨a2, b2, c2⟩
  · simp [trD, PyData.weight, PyData.weightAll] at a3 b3 c3 ⊢
    omega
theorem rep_ill {W1 W2 : Nat} {i : Int} {ds es : List PyData} (h0 : i.natAbs < 2 ^ 24) (h1 : ∀ d ∈ ds, TxW W1 d) (h2 : ∀ d ∈ es, TxW W2 d) (hw : (W1 + 10) * ds.length + (W2 + 10) * es.length ≤ 140000) : Rp (.list [.int i, .tuple ds, .tuple es]) := by
  obtain ⟨a1, a2, a3, a4⟩ := txw_intD h0
  obtain ⟨b1, b2, b3, b4⟩ := txw_all h1
  obtain ⟨c1, c2, c3, c4⟩ := txw_all h2
  refine rep_of ?_ ?_ ?_ ?_
  · simp [PyData.showable, PyData.showableAll, b1, c1] at a1 ⊢
    exact a1
  · simp [PyData.depth, PyData.depthAll]
    omega
  · simp [PyData.leavesShort, PyData.leavesShortAll, b3, c3] at a3 ⊢
    exact a3
  · simp [PyData.weight, PyData.weightAll] at a4 ⊢
    omega
theorem asc_sorted {hs rs : List (Int × Int)} (a : Asc hs) (p : rs.Perm hs) (h : rs.Pairwise lexLe) : rs = hs := by
  have hn : (rs.map (·.1)).Nodup := (p.map _).nodup_iff.mpr (asc_nodup a)
  have h2 : rs.Pairwise fun x y => x.1 < y.1 := (h.and (List.pairwise_map.mp hn)).imp fun ⟨h1, h2⟩ => by unfold lexLe at h1; omega
  exact List.Perm.eq_of_pairwise (le := fun a b : Int × Int => a.1 < b.1) (fun a b _ _ h1 h2 => by omega) h2 (a.gap.imp fun h => by omega) p
theorem k_slN {K : PySem.W.Frag} {a : Addr} {xs : List V} {n : Nat} {H : Hp} {Q : VK} (h : H a = some (.tup xs)) (q : ∀ p H', Same H H' → H' p = some (.tup (xs.take n)) → Q (.ref p) H') : rSlA K (.ref a) none (some (n : Int)) H Q := by
  have cut : cutV xs none (some (n : Int)) = xs.take n := by
    rw [cutV, show _root_.HT.sIx xs.length 0 none = 0 from rfl, show _root_.HT.sIx xs.length xs.length (some (n : Int)) = min n xs.length from _root_.HT.sIx_nat _ _ n]
    simp [List.take_eq_take_iff]
  refine ⟨a, xs, rfl, .inl (.inl h), fun c => ?_, fun _ p hp => ?_⟩
  · have c2 := c.2
    rw [show _root_.HT.sIx xs.length xs.length (some (n : Int)) = min n xs.length from _root_.HT.sIx_nat _ _ n] at c2
    refine q a H (Same.refl _) ?_
    rw [List.take_of_length_le (by omega)]
    exact h
  · refine q p _ (Same.new hp) ?_
    rw [upd_same, cut]
/-- a new triple of each pair of a tuple -/
theorem lcIn_pr3 {K : PySem.W.Frag} {a : Addr} {ts0 : List Addr} {hs : List (Int × Int)} {i j : Nat} {te : TE} {vs : List Nat} {σ : L2.St} {H1 : Hp} {Q : VK} (f : Int × Int → Int × Int × Int) (hx : SqT K H1 a (ts0.map V.ref)) (hall : Paired (fun t p => H1 t = some (.tup [.int p.1, .int p.2])) ts0 hs) (hk : ∀ H', Same H1 H' → SqT K H' a (ts0.map V.ref)) (hz : hs.length ≤ 3000000)
    (hw : ∀ x y, wipe (((wipe σ vs).set i (some x)).set j (some y)) vs = wipe σ vs)
    (step : ∀ (p : Int × Int) (H2 : Hp), p ∈ hs → Same H1 H2 → ∀ QE : VK, (∀ H4 b, Same H2 H4 → H2 b = none → H4 b = some (.tup [.int (f p).1, .int (f p).2.1, .int (f p).2.2]) → QE (.ref b) H4) → te (((wipe σ vs).set i (some (.int p.1))).set j (some (.int p.2))) H2 QE)
    (fin : ∀ (p : Addr) (H' : Hp) (ts : List Addr), H1 p = none → Same H1 H' → H' p = some (.lst (ts.map V.ref)) → Paired (TrI H1 H') ts (hs.map f) → Q (.ref p) H') :
    LcIn (Itt K a) (gTup K 2 (gCons (gName i) (gCons (gName j) gNil))) tYes te vs σ H1 Q := fun D hD =>
  lc_it (walk_tup (xs := ts0.map V.ref)) (fun m H => Same H1 H ∧ ∃ ts : List Addr, H D = some (.lst (ts.map V.ref)) ∧ Paired (TrI H1 H) ts ((hs.take m).map f)) ⟨Same.new hD, [], upd_same, .nil⟩ (fun m H _ p => hk _ p.1)
    (fun m x H H' hm p y => by
      obtain ⟨rfl, hx⟩ := y
      obtain ⟨s1, ts, eD, hp⟩ := p
      rw [List.getElem?_map] at hx
      obtain ⟨t0, ht0, rfl⟩ := Option.map_eq_some_iff.mp hx
      obtain ⟨z, hz1, et⟩ := Nd.paired_get hall ht0
      refine k_gtup (.inl (.inl (s1 _ _ et))) rfl ?_
      refine k_gcons (k_gname (k_gcons (k_gname (k_gnil ?_))))
      refine ⟨hw _ _, k_tYes ?_⟩
      rw [if_pos rfl]
      refine step z _ (List.mem_of_getElem? hz1) s1 _ fun H4 p4 s4 np4 ep4 => ?_
      have eD4 := s4 _ _ eD
      have nt : ∀ {c : Addr} {us : List V}, H4 c = some (.tup us) → c ≠ D := fun e z => by rw [z, eD4] at e; cases e
      have hl0 := pairs_len hall
      refine ⟨_, eD4, ?_, fun c o e => ?_, ts ++ [p4], ?_, ?_⟩
      · rw [List.length_map, pairs_len hp, List.length_map, List.length_take]
        exact Nat.lt_of_le_of_lt (Nat.min_le_right _ _) (Nat.lt_of_le_of_lt hz (by decide))
      · rw [upd_ne (ne_of_none e hD)]
        exact s4 _ _ (s1 _ _ e)
      · rw [upd_same, List.map_append]
        rfl
      · rw [List.take_succ, hz1, List.map_append]
        refine Paired.snoc (pairs_mono (fun t q h => ⟨h.1, ?_⟩) hp) ⟨s1.free np4, (upd_ne (nt ep4)).trans ep4⟩
        exact (upd_ne (nt (s4 _ _ h.2))).trans (s4 _ _ h.2))
    (fun H' p => by
      obtain ⟨s1, ts, eD, hp⟩ := p
      rw [List.length_map, pairs_len hall, List.take_length] at hp
      exact fin D H' ts hD s1 eD hp)
end Nd

namespace Nd
open PySem PySem.Spec PyProof.Rows L2
/-! how many spots, how many chips there may be behind n ticks -/
theorem its_lenG {hs : List (Int × Int)} {ls : List Int} (a : Asc hs) (n : Nat) : (its n (hs, ls)).1.length ≤ hs.length * (n + 1) := by
  have h1 := nodup_len (l := (its n (hs, ls)).1.map (·.1)) (m := hs.flatMap fun q => (List.range (n + 1)).map fun j : Nat => q.1 - (n : Int) + 2 * (j : Int)) (asc_nodup (its_asc a n)) fun k hk => by
    obtain ⟨p, hp, rfl⟩ := List.mem_map.mp hk
    obtain ⟨q, hq, h1, h2, h3⟩ := its_near a n hp
    refine List.mem_flatMap.mpr ⟨q, hq, List.mem_map.mpr ⟨((p.1 - q.1 + n) / 2).toNat, List.mem_range.mpr (by omega), by omega⟩⟩
  rw [List.length_map] at h1
  refine Nat.le_trans h1 ?_
  clear h1
  induction hs with
  | nil => simp
  | cons q hs ih =>
    rw [List.flatMap_cons, List.length_append, List.length_map, List.length_range, List.length_cons, Nat.add_mul, Nat.one_mul]
    have a' : Asc hs := ⟨(List.pairwise_cons.mp a.gap).2, fun p hp => a.pos p (List.mem_cons_of_mem _ hp), by
      obtain ⟨c, hc⟩ := a.col
      exact ⟨c, fun p hp => hc p (List.mem_cons_of_mem _ hp)⟩⟩
    have := ih a'
    omega
theorem le_sumI : ∀ {l : List Int}, (∀ x ∈ l, 0 ≤ x) → ∀ x ∈ l, x ≤ l.sum
  | y :: l, h, x, hx => by
    rw [List.sum_cons]
    have h0 : 0 ≤ l.sum := by
      clear hx
      induction l with
      | nil => simp
      | cons z l ih =>
        rw [List.sum_cons]
        have := ih fun w hw => by
          rcases List.mem_cons.mp hw with e | e
          · exact h w (e ▸ List.mem_cons_self)
          · exact h w (List.mem_cons_of_mem _ (List.mem_cons_of_mem _ e))
        have := h z (List.mem_cons_of_mem _ List.mem_cons_self)
        omega
    rcases List.mem_cons.mp hx with e | hx
    · subst e
      omega
    · have := le_sumI (fun z hz => h z (List.mem_cons_of_mem _ hz)) x hx
      have := h y List.mem_cons_self
      omega
theorem sum_le_len {B : Int} : ∀ {l : List Int}, (∀ x ∈ l, x ≤ B) → l.sum ≤ l.length * B
  | [], _ => by simp
  | y :: l, h => by
    rw [List.sum_cons, List.length_cons, Int.natCast_add, Int.add_mul]
    have := sum_le_len fun x hx => h x (List.mem_cons_of_mem _ hx)
    have := h y List.mem_cons_self
    have e : ((1 : Nat) : Int) * B = B := by simp
    omega
theorem its_le {hs : List (Int × Int)} {ls : List Int} {B : Int} (a : Asc hs) (h : ∀ p ∈ hs, p.2 ≤ B) (n : Nat) : ∀ p ∈ (its n (hs, ls)).1, p.2 ≤ hs.length * B := fun p hp => by
  have h1 := le_sumI (l := (its n (hs, ls)).1.map (·.2)) (fun x hx => by
    obtain ⟨q, hq, rfl⟩ := List.mem_map.mp hx
    have := (its_asc (ls := ls) a n).pos q hq
    omega) p.2 (List.mem_map.mpr ⟨p, hp, rfl⟩)
  rw [its_total] at h1
  have h2 := sum_le_len (l := hs.map (·.2)) (B := B) fun x hx => by
    obtain ⟨q, hq, rfl⟩ := List.mem_map.mp hx
    exact h q hq
  rw [List.length_map] at h2
  exact Int.le_trans h1 h2
theorem its_permN {A : List (Int × Int)} {L M : List Int} {B : Int} (h : L.Perm M) (hI : InB B (A, L)) : ∀ m : Nat, (its m (A, L)).1 = (its m (A, M)).1 ∧ (its m (A, L)).2.Perm (its m (A, M)).2
  | 0 => ⟨rfl, h⟩
  | m + 1 => by
    obtain ⟨h1, h2⟩ := its_permN h hI m
    have h3 := (hI.its m).nd
    have a := (hI.its m).asc
    obtain ⟨s1, s2⟩ := stp_perm (A := (its m (A, L)).1) h2 h3 a
    refine ⟨?_, ?_⟩
    · show (stp (its m (A, L))).1 = (stp (its m (A, M))).1
      rw [show its m (A, L) = ((its m (A, L)).1, (its m (A, L)).2) from rfl, s1, h1]
    · show (stp (its m (A, L))).2.Perm (stp (its m (A, M))).2
      rw [show its m (A, L) = ((its m (A, L)).1, (its m (A, L)).2) from rfl]
      refine s2.trans ?_
      rw [h1]
/-- a line and what was reckoned beside it, behind n ticks -/
structure StJ (CL r o : Addr) (hs' hs : List (Int × Int)) (ls ks : List Int) (n : Nat) (H : Hp) (pa pb : Addr) (qs : List (Int × Int)) (kk ls' : List Int) : Prop where
  ln : LnO CL H o (n : Int) (its n (hs', ls)).1 ls'
  lp : ls'.Perm (its n (hs', ls)).2
  ea : H pa = some (.dK (qs.map entI))
  eb : H pb = some (.dK (kk.map entB))
  gn : Gone hs ks n qs kk
  nd : kk.Nodup
  na : pa ≠ r
  nb : pb ≠ r
theorem StJ.same {CL r o : Addr} {hs' hs : List (Int × Int)} {ls ks : List Int} {n : Nat} {H H' : Hp} {pa pb : Addr} {qs : List (Int × Int)} {kk ls' : List Int} (h : StJ CL r o hs' hs ls ks n H pa pb qs kk ls') (s : Same H H') : StJ CL r o hs' hs ls ks n H' pa pb qs kk ls' :=
  ⟨h.ln.same s, h.lp, s _ _ h.ea, s _ _ h.eb, h.gn, h.nd, h.na, h.nb⟩
theorem StJ.gr {CL r o : Addr} {hs' hs : List (Int × Int)} {ls ks : List Int} {n N : Nat} {H H' : Hp} {pa pb : Addr} {qs : List (Int × Int)} {kk ls' : List Int} (h : StJ CL r o hs' hs ls ks n H pa pb qs kk ls') (R : Rid r N H) (g : Gr r H H') : StJ CL r o hs' hs ls ks n H' pa pb qs kk ls' :=
  ⟨h.ln.gr R g, h.lp, g.all _ _ h.na h.ea, g.all _ _ h.nb h.eb, h.gn, h.nd, h.na, h.nb⟩
end Nd

namespace Nd
open PySem PySem.Spec PyProof.Rows L2 LamX
/-! ### no gap beyond the reach -/
def Sm (lo : Int) : Nat → (Int → Int) → Int
  | 0, _ => 0
  | n + 1, F => Sm lo n F + F (lo + n)
theorem Sm_congr {lo : Int} {F G : Int → Int} : ∀ {n : Nat}, (∀ k, lo ≤ k → k < lo + n → F k = G k) → Sm lo n F = Sm lo n G
  | 0, _ => rfl
  | n + 1, h => by
    rw [Sm, Sm, Sm_congr (n := n) fun k h1 h2 => h k h1 (by omega), h _ (by omega) (by omega)]
theorem Sm_add {lo : Int} {F G : Int → Int} : ∀ n : Nat, Sm lo n (fun k => F k + G k) = Sm lo n F + Sm lo n G
  | 0 => rfl
  | n + 1 => by
    rw [Sm, Sm, Sm, Sm_add n]
    omega
theorem Sm_mul {lo c : Int} {F : Int → Int} : ∀ n : Nat, Sm lo n (fun k => c * F k) = c * Sm lo n F
  | 0 => by rw [Sm, Sm, Int.mul_zero]
  | n + 1 => by rw [Sm, Sm, Sm_mul n, Int.mul_add]
theorem Sm_shift {lo : Int} {G : Int → Int} : ∀ n : Nat, Sm lo n (fun k => G (k + 1)) = Sm lo n G + G (lo + n) - G lo
  | 0 => by rw [Sm, Sm, show lo + ((0 : Nat) : Int) = lo by omega]; omega
  | n + 1 => by
    rw [Sm, Sm, Sm_shift n, show lo + ((n + 1 : Nat) : Int) = lo + n + 1 by omega]
    omega
theorem Sm_abs {lo : Int} {F B : Int → Int} : ∀ {n : Nat}, (∀ k, lo ≤ k → k < lo + n → -B k ≤ F k ∧ F k ≤ B k) → -Sm lo n B ≤ Sm lo n F ∧ Sm lo n F ≤ Sm lo n B
  | 0, _ => by rw [Sm, Sm]; omega
  | n + 1, h => by
    have h1 := Sm_abs (n := n) fun k h1 h2 => h k h1 (by omega)
    have h2 := h (lo + n) (by omega) (by omega)
    rw [Sm, Sm]
    omega
theorem Sm_zero {lo : Int} {F : Int → Int} : ∀ {n : Nat}, (∀ k, lo ≤ k → k < lo + n → F k = 0) → Sm lo n F = 0
  | 0, _ => rfl
  | n + 1, h => by rw [Sm, Sm_zero (n := n) fun k h1 h2 => h k h1 (by omega), h _ (by omega) (by omega)]; rfl
theorem Sm_one {lo x : Int} {F : Int → Int} : ∀ {n : Nat}, lo ≤ x → x < lo + n → (∀ k, lo ≤ k → k < lo + n → k ≠ x → F k = 0) → Sm lo n F = F x
  | 0, h1, h2, _ => by omega
  | n + 1, h1, h2, h => by
    rw [Sm]
    by_cases e : x = lo + n
    · rw [Sm_zero fun k a b => h k a (by omega) (by omega), ← e, Int.zero_add]
    · rw [Sm_one (n := n) h1 (by omega) fun k a b c => h k a (by omega) c, h (lo + n) (by omega) (by omega) (fun z => e z.symm), Int.add_zero]
/-- what an odd heap does: 1 to the left, -1 to the right -/
def dS (s : FSt) (p : Int) : Int := if s.1 p % 2 = 1 then (if s.2 p = true then 1 else -1) else 0
theorem stF_two (s : FSt) (k : Int) : 2 * (stF s).1 k = s.1 (k + 1) + s.1 (k - 1) + dS s (k + 1) - dS s (k - 1) := by
  show 2 * (sL s.2 (k + 1, s.1 (k + 1)) + sR s.2 (k - 1, s.1 (k - 1))) = _
  rw [sL_eq, sR_eq]
  unfold dS
  cases s.2 (k + 1) <;> cases s.2 (k - 1) <;> simp <;> split <;> split <;> omega
def KW (u : Nat) (far : Int) : Int := (W (u - 1) (far + 1) : Int) - (W (u - 1) (far - 1) : Int)
/-- the walks' weights of all heaps, n ticks before the end -/
def TTr (x : Int) (N n : Nat) (f : Int → Int) : Int := Sm (x - N) (2 * N + 1) fun q => f q * (W n (x - q) : Int)
theorem W_out {n N : Nat} {d : Int} (h : n < N) (hd : d ≤ -N ∨ (N : Int) ≤ d) : (W n d : Int) = 0 := by
  rw [W_far n d (by omega)]
  rfl
theorem TT_up {x : Int} {N n : Nat} {g : Int → Int} (h : n < N) : Sm (x - N) (2 * N + 1) (fun k => g (k + 1) * (W n (x - k) : Int)) = Sm (x - N) (2 * N + 1) fun k => g k * (W n (x - k + 1) : Int) := by
  have := Sm_shift (lo := x - N) (G := fun k => g k * (W n (x - k + 1) : Int)) (2 * N + 1)
  rw [Sm_congr (G := fun k => g (k + 1) * (W n (x - (k + 1) + 1) : Int)) fun k _ _ => by rw [show x - (k + 1) + 1 = x - k by omega], this, W_out h (by omega), W_out h (by omega), Int.mul_zero, Int.mul_zero]
  omega
theorem TT_down {x : Int} {N n : Nat} {g : Int → Int} (h : n < N) : Sm (x - N) (2 * N + 1) (fun k => g (k - 1) * (W n (x - k) : Int)) = Sm (x - N) (2 * N + 1) fun k => g k * (W n (x - k - 1) : Int) := by
  have := Sm_shift (lo := x - N) (G := fun k => g (k - 1) * (W n (x - k) : Int)) (2 * N + 1)
  rw [Sm_congr (G := fun k => g k * (W n (x - k - 1) : Int)) fun k _ _ => by rw [show k + 1 - 1 = k by omega, show x - (k + 1) = x - k - 1 by omega], W_out h (by omega), W_out h (by omega), Int.mul_zero, Int.mul_zero] at this
  omega
theorem TT_step {x : Int} {N n : Nat} {f f' d : Int → Int} (h : n < N) {c : Int} (hf : ∀ k, c * f' k = f (k + 1) + f (k - 1) + d (k + 1) - d (k - 1)) :
    c * TTr x N n f' = TTr x N (n + 1) f + Sm (x - N) (2 * N + 1) fun p => d p * KW (n + 1) (x - p) := by
  unfold TTr
  rw [← Sm_mul]
  have e1 := TT_up (x := x) (g := fun k => f k + d k) h
  have e2 := TT_down (x := x) (g := fun k => f k - d k) h
  rw [Sm_congr (F := fun k => c * (f' k * (W n (x - k) : Int))) (G := fun k => (f (k + 1) + d (k + 1)) * (W n (x - k) : Int) + (f (k - 1) - d (k - 1)) * (W n (x - k) : Int)) fun k _ _ => by
    rw [← Int.mul_assoc, hf, ← Int.add_mul]
    congr 1
    omega]
  rw [Sm_add, e1, e2, ← Sm_add, ← Sm_add]
  refine Sm_congr fun k _ _ => ?_
  show (f k + d k) * _ + (f k - d k) * _ = f k * ((W n (x - k - 1) + W n (x - k + 1) : Nat) : Int) + d k * ((W n (x - k + 1) : Int) - (W n (x - k - 1) : Int))
  rw [Int.natCast_add]
  grind
/-- what spot p has sent out of the way so far, as it is told at x in the end -/
def accP (s0 : FSt) (t : Nat) (x : Int) : Nat → Int → Int
  | 0, _ => 0
  | s + 1, p => accP s0 t x s p + 2 ^ s * (dS (itF s s0) p * KW (t - s) (x - p))
theorem TT_itF {s0 : FSt} {t N : Nat} {x : Int} (hN : t < N) : ∀ s : Nat, s ≤ t → 2 ^ s * TTr x N (t - s) (itF s s0).1 = TTr x N t s0.1 + Sm (x - N) (2 * N + 1) (accP s0 t x s)
  | 0, _ => by
    rw [Sm_zero (F := accP s0 t x 0) fun k _ _ => rfl, Int.add_zero]
    exact Int.one_mul _
  | s + 1, hs => by
    have h1 := TT_step (x := x) (N := N) (n := t - (s + 1)) (f := (itF s s0).1) (f' := (itF (s + 1) s0).1) (d := dS (itF s s0)) (by omega) (c := 2) fun k => stF_two (itF s s0) k
    rw [show t - (s + 1) + 1 = t - s by omega] at h1
    have ih := TT_itF (s0 := s0) (x := x) hN s (by omega)
    rw [Int.pow_succ, Int.mul_assoc, h1, Int.mul_add, ih, Int.add_assoc, ← Sm_mul, ← Sm_add]
    rfl
theorem TT_cnt {hs : List (Int × Int)} {t N : Nat} {x : Int} (hN : t < N) : ∀ s : Nat, s ≤ t → TTr x N (t - s) (Nd.cnt hs s) = TTr x N t (Nd.cnt hs 0)
  | 0, _ => rfl
  | s + 1, hs' => by
    have h1 := TT_step (x := x) (N := N) (n := t - (s + 1)) (f := Nd.cnt hs s) (f' := Nd.cnt hs (s + 1)) (d := fun _ => 0) (by omega) (c := 1) fun k => by rw [cnt_succ]; omega
    rw [show t - (s + 1) + 1 = t - s by omega, TT_cnt hN s (by omega), Sm_zero (F := fun p => 0 * KW (t - s) (x - p)) fun k _ _ => Int.zero_mul _] at h1
    omega
theorem TT_zero {x : Int} {N : Nat} {f : Int → Int} : TTr x N 0 f = f x := by
  unfold TTr
  rw [Sm_one (x := x) (by omega) (by omega) fun k _ _ h => by rw [show W 0 (x - k) = 0 from if_neg (by omega)]; exact Int.mul_zero _, show x - x = 0 by omega, show W 0 0 = 1 from rfl]
  exact Int.mul_one _
/-- the gap at x, as the sum of what each spot did -/
theorem gap_sum {hs : List (Int × Int)} {L : Int → Bool} {t N : Nat} {x : Int} (hN : t < N) : 2 ^ t * (itF t (Nd.cnt hs 0, L)).1 x - Nd.cnt hs t x = Sm (x - N) (2 * N + 1) (accP (Nd.cnt hs 0, L) t x t) := by
  have h1 := TT_itF (s0 := (Nd.cnt hs 0, L)) (x := x) hN t (Nat.le_refl t)
  have h2 := TT_cnt (hs := hs) (x := x) hN t (Nat.le_refl t)
  rw [Nat.sub_self, TT_zero] at h1 h2
  have h3 : TTr x N t (Nd.cnt hs 0, L).1 = Nd.cnt hs t x := h2.symm
  rw [h1, h3]
  omega
/-! ### what one spot does is at most its greatest first share -/
def aA (t far u : Nat) : Int := 2 ^ (t - u) * (fst (far : Int) u : Int)
theorem aA_nonneg (t far u : Nat) : 0 ≤ aA t far u := Int.mul_nonneg (Int.le_of_lt (two_pos _)) (Int.natCast_nonneg _)
theorem aA_two {t far k : Nat} (h : far + 2 * k + 2 ≤ t) : aA t far (far + 2 * k) = 2 ^ (t - (far + 2 * k + 2)) * (4 * (fst (far : Int) (far + 2 * k) : Int)) := by
  unfold aA
  rw [show t - (far + 2 * k) = (t - (far + 2 * k + 2)) + 2 by omega, Int.pow_add, Int.mul_assoc]
  rfl
theorem aA_up {t far k : Nat} (h1 : 1 ≤ far) (h : far + 2 * k + 2 ≤ t) (hk : far * far ≤ 3 * far + 6 * k + 4) : aA t far (far + 2 * k + 2) ≤ aA t far (far + 2 * k) := by
  rw [aA_two h]
  refine Int.mul_le_mul_of_nonneg_left ?_ (Int.le_of_lt (two_pos _))
  have e := fst_two (far := far) (k := k) h1
  have hk' : (far : Int) * far ≤ 3 * far + 6 * k + 4 := by exact_mod_cast hk
  have c1 : 0 < ((k : Int) + 1) * ((far : Int) + k + 1) := Int.mul_pos (by omega) (by omega)
  have c2 : (((far : Int) + 2 * k) * ((far : Int) + 2 * k + 1)) ≤ 4 * (((k : Int) + 1) * ((far : Int) + k + 1)) := by grind
  have f0 : (0 : Int) ≤ (fst (far : Int) (far + 2 * k) : Int) := Int.natCast_nonneg _
  refine Int.le_of_mul_le_mul_right ?_ c1
  rw [e]
  have := Int.mul_le_mul_of_nonneg_right c2 f0
  grind
theorem aA_dn {t far k : Nat} (h1 : 1 ≤ far) (h : far + 2 * k + 2 ≤ t) (hk : 3 * far + 6 * k + 4 ≤ far * far) : aA t far (far + 2 * k) ≤ aA t far (far + 2 * k + 2) := by
  rw [aA_two h]
  refine Int.mul_le_mul_of_nonneg_left ?_ (Int.le_of_lt (two_pos _))
  have e := fst_two (far := far) (k := k) h1
  have hk' : 3 * (far : Int) + 6 * k + 4 ≤ (far : Int) * far := by exact_mod_cast hk
  have c1 : 0 < ((k : Int) + 1) * ((far : Int) + k + 1) := Int.mul_pos (by omega) (by omega)
  have c2 : 4 * (((k : Int) + 1) * ((far : Int) + k + 1)) ≤ (((far : Int) + 2 * k) * ((far : Int) + 2 * k + 1)) := by grind
  have f0 : (0 : Int) ≤ (fst (far : Int) (far + 2 * k) : Int) := Int.natCast_nonneg _
  refine Int.le_of_mul_le_mul_right ?_ c1
  rw [e]
  have := Int.mul_le_mul_of_nonneg_right c2 f0
  grind
theorem aA_low {t far u : Nat} (h : u < far) : aA t far u = 0 := by
  unfold aA
  rw [fst_far u far (by omega)]
  exact Int.mul_zero _
def nxT (far u : Nat) : Nat := if (u + far) % 2 = 0 then u else u - 1
def InvP (t far u : Nat) (Q : Int) : Prop := (fb far t ≤ u → -aA t far (nxT far u) ≤ Q ∧ Q ≤ 0) ∧ (u < fb far t → -aA t far (fb far t) ≤ Q ∧ Q ≤ aA t far (fb far t) - aA t far (nxT far u))
theorem InvP.step {t far u : Nat} {Q Q' : Int} (h : InvP t far (u + 1) Q) (hu : u + 1 ≤ t) (h1 : 1 ≤ far) (h2 : far ≤ t) (hq : Q' = Q ∨ ((u + 1 + far) % 2 = 0 ∧ Q' = -(Q + aA t far (u + 1)))) : InvP t far u Q' := by
  obtain ⟨X, hX⟩ : ∃ X, X = far * far := ⟨_, rfl⟩
  obtain ⟨ks, hks⟩ : ∃ ks, ks = min ((t - far) / 2) ((X + 1 - 3 * far) / 6) := ⟨_, rfl⟩
  have hfb : fb far t = far + 2 * ks := by rw [hks, hX]; rfl
  unfold InvP at h ⊢
  rw [hfb] at h ⊢
  have aN := aA_nonneg t far
  by_cases hp : (u + 1 + far) % 2 = 0
  · have n1 : nxT far (u + 1) = u + 1 := if_pos hp
    have n2 : nxT far u = u - 1 := if_neg (by omega)
    rw [n1] at h
    rw [n2]
    have hQ : Q' = Q ∨ Q' = -(Q + aA t far (u + 1)) := hq.imp id (fun h => h.2)
    constructor
    · intro hle
      obtain ⟨b1, b2⟩ := h.1 (by omega)
      obtain ⟨k, hk⟩ : ∃ k, u + 1 = far + 2 * k + 2 := ⟨(u - 1 - far) / 2, by omega⟩
      have := aA_up (t := t) (far := far) (k := k) h1 (by omega) (by rw [← hX]; omega)
      rw [← hk] at this
      rw [show u - 1 = far + 2 * k by omega]
      rcases hQ with rfl | rfl <;> omega
    · intro hlt
      have hB : -aA t far (far + 2 * ks) ≤ Q ∧ Q ≤ aA t far (far + 2 * ks) - aA t far (u + 1) := by
        by_cases e : u + 1 = far + 2 * ks
        · obtain ⟨b1, b2⟩ := h.1 (by omega)
          rw [e] at b1 ⊢
          omega
        · exact h.2 (by omega)
      have a2 : aA t far (u - 1) ≤ aA t far (u + 1) := by
        by_cases e : u - 1 < far
        · rw [aA_low e]
          exact aN _
        · obtain ⟨k, hk⟩ : ∃ k, u + 1 = far + 2 * k + 2 := ⟨(u - 1 - far) / 2, by omega⟩
          have := aA_dn (t := t) (far := far) (k := k) h1 (by omega) (by rw [← hX]; omega)
          rw [← hk] at this
          rw [show u - 1 = far + 2 * k by omega]
          exact this
      rcases hQ with rfl | rfl <;> omega
  · have n1 : nxT far (u + 1) = u := if_neg hp
    have n2 : nxT far u = u := if_pos (by omega)
    rw [n1] at h
    rw [n2]
    have hQ : Q' = Q := hq.elim id (fun h => absurd h.1 hp)
    subst hQ
    exact ⟨fun hle => h.1 (by omega), fun hlt => h.2 (by omega)⟩
theorem InvP.start {t far : Nat} : InvP t far t 0 := by
  have aN := aA_nonneg t far
  have h1 := aN (nxT far t)
  refine ⟨fun _ => ⟨by omega, by decide⟩, fun h => ?_⟩
  by_cases e : far ≤ t
  · exfalso
    unfold fb at h
    omega
  · rw [show aA t far (nxT far t) = 0 from aA_low (by unfold nxT; split <;> omega)]
    have := aN (fb far t)
    omega
theorem InvP.fin {t far : Nat} {Q : Int} (h : InvP t far 0 Q) (h1 : 1 ≤ far) : -aA t far (fb far t) ≤ Q ∧ Q ≤ aA t far (fb far t) := by
  obtain ⟨b1, b2⟩ := h.2 (by unfold fb; omega)
  have := aA_nonneg t far (nxT far 0)
  omega
theorem KW_fst {u far : Nat} (h : 1 ≤ u) : KW u (far : Int) = -(fst (far : Int) u : Int) ∧ KW u (-(far : Int)) = (fst (far : Int) u : Int) := by
  obtain ⟨n, rfl⟩ : ∃ n, u = n + 1 := ⟨u - 1, by omega⟩
  have e := fst_eq n (far : Int) (by omega)
  unfold KW
  rw [Nat.add_sub_cancel, show -(far : Int) + 1 = -((far : Int) - 1) by omega, show -(far : Int) - 1 = -((far : Int) + 1) by omega, W_neg, W_neg]
  omega
def sgS (s : FSt) (p : Int) : Int := if s.2 p = true then 1 else -1
theorem accP_inv {s0 : FSt} {t far : Nat} {x p ep : Int} (h1 : 1 ≤ far) (h2 : far ≤ t) (hk : ∀ u, 1 ≤ u → KW u (x - p) = ep * (fst (far : Int) u : Int)) (hep : ep * ep = 1)
    (hpar : ∀ s, s < t → (itF s s0).1 p % 2 = 1 → (t - s + far) % 2 = 0) : ∀ s : Nat, s ≤ t → InvP t far (t - s) (accP s0 t x s p * ep * sgS (itF s s0) p)
  | 0, _ => by
    rw [show accP s0 t x 0 p = 0 from rfl, Int.zero_mul, Int.zero_mul]
    exact InvP.start
  | s + 1, hs => by
    have ih := accP_inv h1 h2 hk hep hpar s (by omega)
    rw [show t - s = t - (s + 1) + 1 by omega] at ih
    refine ih.step (by omega) h1 h2 ?_
    have ea : accP s0 t x (s + 1) p = accP s0 t x s p + 2 ^ s * (dS (itF s s0) p * (ep * (fst (far : Int) (t - s) : Int))) := by rw [← hk (t - s) (by omega)]; rfl
    have ew : aA t far (t - (s + 1) + 1) = 2 ^ s * (fst (far : Int) (t - s) : Int) := by
      unfold aA
      rw [show t - (t - (s + 1) + 1) = s by omega, show t - (s + 1) + 1 = t - s by omega]
    have eh : (itF (s + 1) s0).2 p = if (itF s s0).1 p % 2 = 1 then !(itF s s0).2 p else (itF s s0).2 p := rfl
    by_cases ho : (itF s s0).1 p % 2 = 1
    · refine .inr ⟨by rw [show t - (s + 1) + 1 = t - s by omega]; exact hpar s (by omega) ho, ?_⟩
      rw [ea, ew]
      unfold sgS dS
      rw [eh, if_pos ho, if_pos ho]
      cases (itF s s0).2 p
      · simp only [Bool.not_false, if_true, Bool.false_eq_true, if_false]
        grind
      · simp only [Bool.not_true, if_true, Bool.false_eq_true, if_false]
        grind
    · left
      rw [ea]
      unfold sgS dS
      rw [eh, if_neg ho, if_neg ho]
      rw [Int.zero_mul, Int.mul_zero, Int.add_zero]
/-- how far spot p can have sent the heap at x out of its way -/
def bdP (t : Nat) (d : Nat) : Int := if 1 ≤ d ∧ d ≤ t then aA t d (fb d t) else 0
theorem accP_le {s0 : FSt} {t : Nat} {x p : Int} (hpar : ∀ s, s < t → (itF s s0).1 p % 2 = 1 → (x - p + (t - s : Nat)) % 2 = 0) : -bdP t (x - p).natAbs ≤ accP s0 t x t p ∧ accP s0 t x t p ≤ bdP t (x - p).natAbs := by
  obtain ⟨far, hfar⟩ : ∃ far, far = (x - p).natAbs := ⟨_, rfl⟩
  rw [← hfar]
  obtain ⟨ep, he, hk⟩ : ∃ ep : Int, (ep = 1 ∨ ep = -1) ∧ ∀ u, 1 ≤ u → KW u (x - p) = ep * (fst (far : Int) u : Int) := by
    by_cases h : 0 ≤ x - p
    · refine ⟨-1, .inr rfl, fun u hu => ?_⟩
      rw [show x - p = (far : Int) by omega, (KW_fst hu).1]
      omega
    · refine ⟨1, .inl rfl, fun u hu => ?_⟩
      rw [show x - p = -(far : Int) by omega, (KW_fst hu).2]
      omega
  unfold bdP
  split
  · rename_i h
    have hep : ep * ep = 1 := by rcases he with rfl | rfl <;> rfl
    have iv := accP_inv (s0 := s0) (x := x) h.1 h.2 hk hep (fun s hs ho => by have := hpar s hs ho; omega) t (Nat.le_refl t)
    rw [Nat.sub_self] at iv
    have := iv.fin h.1
    revert this
    unfold sgS
    rcases he with rfl | rfl <;> split <;> intro h <;> omega
  · rename_i h
    have key : ∀ s, s ≤ t → accP s0 t x s p = 0 := fun s => by
      induction s with
      | zero => exact fun _ => rfl
      | succ s ih =>
        intro hs
        have f0 : fst (far : Int) (t - s) = 0 ∨ far = 0 := by
          by_cases z : far = 0
          · exact .inr z
          · exact .inl (fst_far _ _ (by omega))
        have k0 : KW (t - s) (x - p) = 0 := by
          rcases f0 with z | z
          · rw [hk _ (by omega), z]
            exact Int.mul_zero _
          · have e0 : x - p = 0 := by omega
            rw [e0]
            unfold KW
            rw [show (0 : Int) - 1 = -(0 + 1) by decide, W_neg]
            omega
        show accP s0 t x s p + 2 ^ s * (dS (itF s s0) p * KW (t - s) (x - p)) = 0
        rw [ih (by omega), k0, Int.mul_zero, Int.mul_zero]
        rfl
    rw [key t (Nat.le_refl t)]
    decide
/-! ### all spots together -/
def upS (b : Nat → Int) : Nat → Int
  | 0 => 0
  | n + 1 => upS b n + b (n + 1)
theorem Sm_front {lo : Int} {F : Int → Int} : ∀ n : Nat, Sm lo (n + 1) F = F lo + Sm (lo + 1) n F
  | 0 => by rw [Sm, Sm, Sm, show lo + ((0 : Nat) : Int) = lo by omega]; omega
  | n + 1 => by
    rw [Sm, Sm_front n, Sm, show lo + 1 + (n : Int) = lo + ((n + 1 : Nat) : Int) by omega]
    omega
theorem Sm_both {x : Int} {b : Nat → Int} : ∀ N : Nat, Sm (x - N) (2 * N + 1) (fun p => b (x - p).natAbs) = b 0 + 2 * upS b N
  | 0 => by
    show Sm (x - ((0 : Nat) : Int)) 0 _ + b (x - (x - ((0 : Nat) : Int) + ((0 : Nat) : Int))).natAbs = b 0 + 2 * 0
    rw [show (x - (x - ((0 : Nat) : Int) + ((0 : Nat) : Int))).natAbs = 0 by omega, Sm]
    omega
  | N + 1 => by
    have ih := Sm_both (x := x) (b := b) N
    rw [show 2 * (N + 1) + 1 = (2 * N + 1 + 1) + 1 by omega, Sm_front, Sm, show x - ((N + 1 : Nat) : Int) + 1 = x - N by omega, ih]
    show b (x - (x - ((N + 1 : Nat) : Int))).natAbs + (b 0 + 2 * upS b N + b (x - (x - (N : Int) + ((2 * N + 1 : Nat) : Int))).natAbs) = b 0 + 2 * (upS b N + b (N + 1))
    rw [show (x - (x - ((N + 1 : Nat) : Int))).natAbs = N + 1 by omega, show (x - (x - (N : Int) + ((2 * N + 1 : Nat) : Int))).natAbs = N + 1 by omega]
    omega
theorem itF_par {s0 : FSt} {c : Int} (h : ∀ k, s0.1 k ≠ 0 → k % 2 = c) : ∀ (s : Nat) (k : Int), (itF s s0).1 k ≠ 0 → (k + s) % 2 = c
  | 0, k, hk => by
    rw [show k + ((0 : Nat) : Int) = k by omega]
    exact h k hk
  | s + 1, k, hk => by
    have e := stF_two (itF s s0) k
    by_cases h1 : (itF s s0).1 (k + 1) = 0
    · by_cases h2 : (itF s s0).1 (k - 1) = 0
      · exfalso
        apply hk
        show (stF (itF s s0)).1 k = 0
        unfold dS at e
        rw [h1, h2, if_neg (by decide), if_neg (by decide)] at e
        omega
      · have := itF_par h s _ h2
        omega
    · have := itF_par h s _ h1
      omega
theorem gap_int {hs : List (Int × Int)} {L : Int → Bool} {t : Nat} {x c : Int} (hc : ∀ p ∈ hs, p.1 % 2 = c) (hx : (x + t) % 2 = c) :
    -(2 * upS (bdP t) t) ≤ 2 ^ t * (itF t (Nd.cnt hs 0, L)).1 x - Nd.cnt hs t x ∧ 2 ^ t * (itF t (Nd.cnt hs 0, L)).1 x - Nd.cnt hs t x ≤ 2 * upS (bdP t) t := by
  have h0 : ∀ k, Nd.cnt hs 0 k ≠ 0 → k % 2 = c := fun k hk => by
    have hm : k ∈ hs.map (·.1) := Classical.byContradiction fun z => hk (cnt_zero_off z)
    obtain ⟨p, hp, rfl⟩ := List.mem_map.mp hm
    exact hc p hp
  have h1 := Sm_abs (lo := x - ((t + 1 : Nat) : Int)) (n := 2 * (t + 1) + 1) (F := accP (Nd.cnt hs 0, L) t x t) (B := fun p => bdP t (x - p).natAbs) fun p _ _ => accP_le fun s hs' ho => by
    have := itF_par (s0 := (Nd.cnt hs 0, L)) h0 s p (fun z => by rw [z] at ho; omega)
    omega
  rw [← gap_sum (Nat.lt_succ_self t), Sm_both] at h1
  have e0 : bdP t 0 = 0 := if_neg (by omega)
  have e1 : upS (bdP t) (t + 1) = upS (bdP t) t := by
    show upS (bdP t) t + bdP t (t + 1) = _
    rw [show bdP t (t + 1) = 0 from if_neg (by omega), Int.add_zero]
  rw [e0, e1] at h1
  omega
/-! ### in fractions -/
theorem divInt_leW {u v : Int} {t : Nat} (h : u ≤ v) : Rat.divInt u (2 ^ t) ≤ Rat.divInt v (2 ^ t) := by
  rw [Rat.le_iff_sub_nonneg, Rat.sub_eq_add_neg, Rat.neg_divInt, ← divInt_addU]
  exact Rat.divInt_nonneg (by omega) (Int.le_of_lt (two_pos t))
theorem gapF_div {hs : List (Int × Int)} {L : Int → Bool} {t : Nat} {k : Int} : gapF hs L t k = Rat.divInt (2 ^ t * (itF t (Nd.cnt hs 0, L)).1 k - Nd.cnt hs t k) (2 ^ t) := by
  unfold gapF
  rw [show 2 ^ t * (itF t (Nd.cnt hs 0, L)).1 k - Nd.cnt hs t k = -Nd.cnt hs t k + 2 ^ t * (itF t (Nd.cnt hs 0, L)).1 k by omega, divInt_addW, ← Rat.neg_divInt, Rat.add_comm, Rat.sub_eq_add_neg]
/-- the first so many of the greatest first shares -/
def rchS (t : Nat) : Nat → Rat
  | 0 => 0
  | n + 1 => rchS t n + fsR ((n + 1 : Nat) : Int) (fb (n + 1) t)
theorem rchS_div {t : Nat} : ∀ n : Nat, n ≤ t → rchS t n = Rat.divInt (upS (bdP t) n) (2 ^ t)
  | 0, _ => (Rat.zero_divInt _).symm
  | n + 1, h => by
    have hf : fb (n + 1) t ≤ t := by unfold fb; omega
    show rchS t n + fsR _ _ = Rat.divInt (upS (bdP t) n + bdP t (n + 1)) _
    rw [rchS_div n (by omega), divInt_addU]
    congr 1
    unfold bdP
    rw [if_pos ⟨by omega, h⟩]
    unfold aA fsR
    have e : (2 : Int) ^ t = 2 ^ (t - fb (n + 1) t) * 2 ^ fb (n + 1) t := by rw [← Int.pow_add, show t - fb (n + 1) t + fb (n + 1) t = t by omega]
    rw [show Rat.divInt (2 ^ (t - fb (n + 1) t) * (fst ((n + 1 : Nat) : Int) (fb (n + 1) t) : Int)) (2 ^ t) = Rat.divInt (2 ^ (t - fb (n + 1) t) * (fst ((n + 1 : Nat) : Int) (fb (n + 1) t) : Int)) (2 ^ (t - fb (n + 1) t) * 2 ^ fb (n + 1) t) from by rw [← e], Rat.divInt_mul_left (Int.ne_of_gt (two_pos _))]
theorem two_divInt {u : Int} {t : Nat} : 2 * Rat.divInt u (2 ^ t) = Rat.divInt (2 * u) (2 ^ t) := by
  rw [show 2 * u = u + u by omega, divInt_addU]
  grind
/-- no heap is further from its mean than the reach -/
theorem gap_le {hs : List (Int × Int)} {L : Int → Bool} {t : Nat} {k c : Int} (hc : ∀ p ∈ hs, p.1 % 2 = c) (hx : (k + t) % 2 = c) : -(2 * rchS t t) ≤ gapF hs L t k ∧ gapF hs L t k ≤ 2 * rchS t t := by
  obtain ⟨h1, h2⟩ := gap_int (L := L) hc hx
  rw [rchS_div t (Nat.le_refl t), two_divInt, Rat.neg_divInt, gapF_div]
  exact ⟨divInt_leW h1, divInt_leW h2⟩
theorem bdP_le {t d : Nat} : bdP t d ≤ 2 ^ t := by
  unfold bdP
  split
  · rename_i h
    have hf : fb d t ≤ t := by unfold fb; omega
    have h1 : (fst (d : Int) (fb d t) : Int) ≤ 2 ^ fb d t := by
      have := fst_le (fb d t) (d : Int)
      have e4 : ((2 ^ fb d t : Nat) : Int) = (2 : Int) ^ fb d t := by simp
      omega
    unfold aA
    calc (2 : Int) ^ (t - fb d t) * (fst (d : Int) (fb d t) : Int) ≤ 2 ^ (t - fb d t) * 2 ^ fb d t := Int.mul_le_mul_of_nonneg_left h1 (Int.le_of_lt (two_pos _))
      _ = 2 ^ t := by rw [← Int.pow_add, show t - fb d t + fb d t = t by omega]
  · exact Int.le_of_lt (two_pos t)
theorem upS_le {t : Nat} : ∀ n : Nat, upS (bdP t) n ≤ n * 2 ^ t
  | 0 => by rw [upS]; omega
  | n + 1 => by
    have h1 := upS_le (t := t) n
    have h2 := bdP_le (t := t) (d := n + 1)
    rw [upS, Int.natCast_add, Int.add_mul]
    omega
theorem gap_sz {hs : List (Int × Int)} {L : Int → Bool} {t : Nat} {k c : Int} (hc : ∀ p ∈ hs, p.1 % 2 = c) (hx : (k + t) % 2 = c) (ht : t ≤ 60) : Sz 3000 (gapF hs L t k) := by
  obtain ⟨h1, h2⟩ := gap_int (L := L) hc hx
  rw [gapF_div]
  have h3 := upS_le (t := t) t
  have h4 : (2 : Int) ^ t ≤ 2 ^ 60 := by
    have : 2 ^ t ≤ 2 ^ 60 := Nat.pow_le_pow_right (by decide) ht
    have e4 : ((2 ^ t : Nat) : Int) = (2 : Int) ^ t := by simp
    omega
  have h5 : (t : Int) * 2 ^ t ≤ 60 * 2 ^ 60 := Int.mul_le_mul (by omega) h4 (Int.le_of_lt (two_pos t)) (by decide)
  have h6 : (200 : Nat) * 2 ^ 60 < 2 ^ 3000 := by
    have : (200 : Nat) * 2 ^ 60 < 2 ^ 100 := by decide
    exact Nat.lt_trans this (Nat.pow_lt_pow_right (by decide) (by decide))
  have hp := two_pos t
  refine sz_divInt (by omega) (Nat.lt_of_le_of_lt ?_ h6) (Nat.lt_of_le_of_lt ?_ h6) <;> omega
theorem cnt_par {hs : List (Int × Int)} {c : Int} (hc : ∀ p ∈ hs, p.1 % 2 = c) : ∀ (t : Nat) (k : Int), Nd.cnt hs t k ≠ 0 → (k + t) % 2 = c
  | 0, k, hk => by
    have hm : k ∈ hs.map (·.1) := Classical.byContradiction fun z => hk (cnt_zero_off z)
    obtain ⟨p, hp, rfl⟩ := List.mem_map.mp hm
    have := hc p hp
    omega
  | t + 1, k, hk => by
    rw [cnt_succ] at hk
    by_cases h1 : Nd.cnt hs t (k + 1) = 0
    · have := cnt_par hc t (k - 1) (by omega)
      omega
    · have := cnt_par hc t (k + 1) h1
      omega
end Nd

namespace Nd
open PySem PySem.Spec PyProof.Rows L2
/-! ### dicts of heaps, by how many -/
theorem valV_cnt {qs : List (Int × Int)} (hn : (qs.map (·.1)).Nodup) (k : Int) : (valV (qs.map entI) (.inl k)).getD (.int 0) = .int (Nd.cnt qs 0 k) := by
  by_cases hin : k ∈ qs.map (·.1)
  · rw [valV_at hn hin]
    rfl
  · rw [cnt_zero_off hin]
    cases e : valV (qs.map entI) (.inl k) with
    | none => rfl
    | some v =>
      obtain ⟨p, hp, e2⟩ := List.mem_map.mp (valV_mem e)
      obtain ⟨h3, _⟩ := Prod.mk.inj e2
      exact absurd (List.mem_map.mpr ⟨p, hp, Sum.inl.inj h3⟩) hin
theorem putI {ps : List (Int × Int)} (hn : (ps.map (·.1)).Nodup) (k v : Int) :
    ∃ qs : List (Int × Int), putK (ps.map entI) (.inl k) (.int v) = qs.map entI ∧ (qs.map (·.1)).Nodup ∧ (∀ p ∈ qs, p = (k, v) ∨ (p ∈ ps ∧ p.1 ≠ k)) ∧ (∀ j, Nd.cnt qs 0 j = if j = k then v else Nd.cnt ps 0 j) := by
  obtain ⟨qs, h1, h2, h3, h4, _⟩ := ents_put (ps := ps) (k := k) (v := v) (fun _ => True) (fun _ _ => trivial) trivial hn
  have hv : ∀ j, (valV (qs.map entI) (.inl j)) = if j = k then some (.int v) else valV (ps.map entI) (.inl j) := fun j => by
    rw [← h1, valV_put]
    by_cases e : j = k
    · rw [if_pos e, if_pos (by rw [e])]
    · rw [if_neg e, if_neg (fun z => e (Sum.inl.inj z))]
  refine ⟨qs, h1, h2, fun p hp => ?_, fun j => ?_⟩
  · have hm := valV_at h2 (List.mem_map.mpr ⟨p, hp, rfl⟩)
    rw [hv] at hm
    rw [cnt_zero_at h2 hp] at hm
    by_cases e : p.1 = k
    · rw [if_pos e] at hm
      exact .inl (Prod.ext e (V.int.inj (Option.some.inj hm)).symm)
    · rw [if_neg e] at hm
      obtain ⟨p0, hp0, e2⟩ := List.mem_map.mp (valV_mem hm)
      obtain ⟨e3, e4⟩ := Prod.mk.inj e2
      have : p0 = p := Prod.ext (Sum.inl.inj e3) (V.int.inj e4)
      exact .inr ⟨this ▸ hp0, e⟩
  · have h := valV_cnt h2 j
    rw [hv] at h
    by_cases e : j = k
    · rw [if_pos e] at h ⊢
      exact (V.int.inj h).symm
    · rw [if_neg e] at h ⊢
      rw [valV_cnt hn] at h
      exact (V.int.inj h).symm
/-! ### starts that grant wishes, tick by tick, spot by spot -/
structure GrI (L : List Int) (ws : List (Int × Int)) (col : Int) (lo hi : Nat → Int) (τ : Nat) (cur : Int) (qs : List (Int × Int)) (kk : List Int) (ss : List (Int × Int)) : Prop where
  fa : ∀ k, Nd.cnt qs 0 k = (itF τ (f0 ss L)).1 k
  fh : ∀ k, decide (k ∈ kk) = (itF τ (f0 ss L)).2 k
  old : ∀ n : Nat, n < τ → ∀ s, lo n ≤ s → s ≤ hi n → (s + n) % 2 = col → ((itF n (f0 ss L)).1 s % 2 = 1 ↔ (s, (n : Int)) ∈ ws)
  now : ∀ s, lo τ ≤ s → s ≤ hi τ → s < cur → (s + τ) % 2 = col → (Nd.cnt qs 0 s % 2 = 1 ↔ (s, (τ : Int)) ∈ ws)
  qn : (qs.map (·.1)).Nodup
  qp : ∀ p ∈ qs, 1 ≤ p.2 ∧ (p.1 + τ) % 2 = col ∧ -1000300 - (τ : Int) ≤ p.1 ∧ p.1 ≤ 1000300 + τ
  kn : kk.Nodup
  kb : ∀ k ∈ kk, -1000300 - (τ : Int) ≤ k ∧ k ≤ 1000300 + τ
  sn : (ss.map (·.1)).Nodup
  sp : ∀ p ∈ ss, 1 ≤ p.2 ∧ p.2 < 2 ^ (τ + 1) ∧ (cur ≤ p.1 - τ → p.2 < 2 ^ τ) ∧ p.1 % 2 = col ∧ ∃ n : Nat, n ≤ τ ∧ lo n ≤ p.1 - n ∧ p.1 - n ≤ hi n ∧ (n = τ → p.1 - n < cur)
theorem GrI.start {L : List Int} {ws : List (Int × Int)} {col : Int} {lo hi : Nat → Int} (hn : L.Nodup) (hb : ∀ k ∈ L, -1000000 ≤ k ∧ k ≤ 1000000) : GrI L ws col lo hi 0 (lo 0) [] L [] :=
  ⟨fun _ => rfl, fun _ => rfl, fun n h => absurd h (by omega), fun s h1 h2 h3 => by omega, List.nodup_nil, (fun _ h => nomatch h), hn, fun k hk => by have := hb k hk; omega, List.nodup_nil, (fun _ h => nomatch h)⟩
/-- the next spot to look at -/
theorem GrI.skip {L : List Int} {ws : List (Int × Int)} {col : Int} {lo hi : Nat → Int} {τ : Nat} {cur cur' : Int} {qs : List (Int × Int)} {kk : List Int} {ss : List (Int × Int)} (g : GrI L ws col lo hi τ cur qs kk ss) (hc : cur ≤ cur')
    (h : ∀ s, cur ≤ s → s < cur' → lo τ ≤ s → s ≤ hi τ → (s + τ) % 2 = col → (Nd.cnt qs 0 s % 2 = 1 ↔ (s, (τ : Int)) ∈ ws)) : GrI L ws col lo hi τ cur' qs kk ss :=
  ⟨g.fa, g.fh, g.old, fun s h1 h2 h3 h4 => (if e : s < cur then g.now s h1 h2 e h4 else h s (by omega) h3 h1 h2 h4), g.qn, g.qp, g.kn, g.kb, g.sn, fun p hp => by
    obtain ⟨a, b, c, d, n, e1, e2, e3, e4⟩ := g.sp p hp
    exact ⟨a, b, fun z => c (by omega), d, n, e1, e2, e3, fun z => by have := e4 z; omega⟩⟩
theorem itF_put {ss ss' : List (Int × Int)} {L : List Int} {τ : Nat} {x : Int} (e : ∀ j, Nd.cnt ss' 0 j = if j = x then Nd.cnt ss 0 x + 2 ^ τ else Nd.cnt ss 0 j) {n : Nat} (hn : n ≤ τ) :
    itF n (f0 ss' L) = (fun k => (itF n (f0 ss L)).1 k + 2 ^ (τ - n) * (W n (k - x) : Int), (itF n (f0 ss L)).2) := by
  have h := itF_more (t := τ) (f0 ss L) (fun n k => Nd.cnt [(x, 1)] n k) (fun n k => cnt_succ n k _) n hn
  have e1 : f0 ss' L = (fun k => (f0 ss L).1 k + 2 ^ τ * Nd.cnt [(x, 1)] 0 k, (f0 ss L).2) := by
    refine Prod.ext (funext fun j => ?_) rfl
    show Nd.cnt ss' 0 j = Nd.cnt ss 0 j + 2 ^ τ * Nd.cnt [(x, 1)] 0 j
    rw [e, cnt_cons, cnt_nil, W]
    by_cases z : j = x
    · subst z
      rw [if_pos rfl, if_pos (by omega)]
      simp
    · rw [if_neg z, if_neg (by omega)]
      simp
  rw [e1, h]
  refine Prod.ext (funext fun k => ?_) rfl
  show _ + 2 ^ (τ - n) * Nd.cnt [(x, 1)] n k = _
  rw [cnt_cons, cnt_nil, Int.one_mul, Int.add_zero]
/-- a spot that is not as wished: 2 ** tick chips more, tick steps farther right -/
theorem GrI.add {L : List Int} {ws : List (Int × Int)} {col : Int} {lo hi : Nat → Int} {τ : Nat} {x : Int} {qs qs' : List (Int × Int)} {kk : List Int} {ss ss' : List (Int × Int)} (g : GrI L ws col lo hi τ x qs kk ss)
    (hx : lo τ ≤ x ∧ x ≤ hi τ ∧ (x + τ) % 2 = col) (hb : -1000100 ≤ x ∧ x ≤ 1000100) (ht : τ ≤ 60) (hw : ¬ (Nd.cnt qs 0 x % 2 = 1 ↔ (x, (τ : Int)) ∈ ws))
    (s1 : (ss'.map (·.1)).Nodup) (s2 : ∀ p ∈ ss', p = (x + τ, Nd.cnt ss 0 (x + τ) + 2 ^ τ) ∨ (p ∈ ss ∧ p.1 ≠ x + τ)) (s3 : ∀ j, Nd.cnt ss' 0 j = if j = x + τ then Nd.cnt ss 0 (x + τ) + 2 ^ τ else Nd.cnt ss 0 j)
    (q1 : (qs'.map (·.1)).Nodup) (q2 : ∀ p ∈ qs', 1 ≤ p.2 ∧ ((∃ q ∈ qs, q.1 = p.1) ∨ ∃ r : Nat, r ≤ τ ∧ p.1 = x + 2 * (r : Int))) (q3 : ∀ j, Nd.cnt qs' 0 j = Nd.cnt qs 0 j + (W τ (j - (x + τ)) : Int)) : GrI L ws col lo hi τ (x + 2) qs' kk ss' := by
  have hf := fun n (hn : n ≤ τ) => itF_put (L := L) s3 hn
  have p2 := two_pos τ
  have kx : Nd.cnt ss 0 (x + τ) < 2 ^ τ ∧ 0 ≤ Nd.cnt ss 0 (x + τ) := by
    by_cases hin : x + τ ∈ ss.map (·.1)
    · obtain ⟨p, hp, ep⟩ := List.mem_map.mp hin
      obtain ⟨a, b, c, d⟩ := g.sp p hp
      rw [← ep, cnt_zero_at g.sn hp]
      exact ⟨c (by omega), by omega⟩
    · rw [cnt_zero_off hin]
      exact ⟨p2, Int.le_refl _⟩
  refine ⟨fun k => ?_, fun k => ?_, fun n hn s h1 h2 h3 => ?_, fun s h1 h2 h3 h4 => ?_, q1, fun p hp => ?_, g.kn, g.kb, s1, fun p hp => ?_⟩
  · rw [hf τ (Nat.le_refl _), q3, g.fa]
    show _ = (itF τ (f0 ss L)).1 k + 2 ^ (τ - τ) * (W τ (k - (x + τ)) : Int)
    rw [Nat.sub_self, Int.pow_zero, Int.one_mul]
  · rw [hf τ (Nat.le_refl _), g.fh]
  · rw [hf n (by omega), ← g.old n hn s h1 h2 h3]
    have e : (2 : Int) ^ (τ - n) = 2 * 2 ^ (τ - n - 1) := by
      rw [show τ - n = τ - n - 1 + 1 by omega, Int.pow_succ, Int.mul_comm]
      rfl
    show ((itF n (f0 ss L)).1 s + 2 ^ (τ - n) * _) % 2 = 1 ↔ _
    rw [e, Int.mul_assoc]
    omega
  · rw [q3]
    by_cases e : s = x
    · subst e
      rw [show s - (s + (τ : Int)) = 2 * ((0 : Nat) : Int) - τ by omega, W_ch, ch_zero]
      have : Nd.cnt qs 0 s % 2 = 0 ∨ Nd.cnt qs 0 s % 2 = 1 := by omega
      by_cases hm : (s, (τ : Int)) ∈ ws
      · simp only [hm, iff_true] at hw ⊢
        omega
      · simp only [hm, iff_false, Classical.not_not] at hw ⊢
        omega
    · rw [W_far τ (s - (x + τ)) (.inr (by omega)), ← g.now s h1 h2 (by omega) h4]
      simp
  · rcases q2 p hp with ⟨h1, ⟨q, hq, e⟩ | ⟨r, hr, h2⟩⟩
    · have := g.qp q hq
      refine ⟨h1, ?_⟩
      rw [← e]
      exact this.2
    · refine ⟨h1, ?_, ?_, ?_⟩ <;> omega
  · rcases s2 p hp with rfl | ⟨h, ne⟩
    · refine ⟨by show 1 ≤ _ + _; omega, ?_, fun z => ?_, ?_, τ, Nat.le_refl _, ?_, ?_, fun _ => ?_⟩
      · show _ + 2 ^ τ < 2 ^ (τ + 1)
        rw [Int.pow_succ]
        omega
      · have z : x + 2 ≤ x + (τ : Int) - τ := z
        omega
      · show (x + (τ : Int)) % 2 = col
        exact hx.2.2
      · show lo τ ≤ x + (τ : Int) - τ
        omega
      · show x + (τ : Int) - τ ≤ hi τ
        omega
      · show x + (τ : Int) - τ < x + 2
        omega
    · obtain ⟨a, b, c, d, n, e1, e2, e3, e4⟩ := g.sp p h
      exact ⟨a, b, fun z => c (by omega), d, n, e1, e2, e3, fun z => by have := e4 z; omega⟩
/-- on to the next tick -/
theorem GrI.tick {L : List Int} {ws : List (Int × Int)} {col : Int} {lo hi : Nat → Int} {τ : Nat} {cur : Int} {qs hs : List (Int × Int)} {kk : List Int} {ss : List (Int × Int)} (g : GrI L ws col lo hi τ cur qs kk ss) (h : hi τ < cur)
    (p : hs.Perm qs) (a : Asc hs) : GrI L ws col lo hi (τ + 1) (lo (τ + 1)) (stp (hs, kk)).1 (stp (hs, kk)).2 ss := by
  have hb : InB (1000300 + τ) (hs, kk) := ⟨a, g.kn, fun q hq => by have := g.qp q (p.mem_iff.mp hq); omega, fun k hk => by have := g.kb k hk; omega⟩
  have hb' := hb.stp
  have e1 : Nd.cnt hs 0 = (itF τ (f0 ss L)).1 := funext fun k => (cnt_perm p 0 k).trans (g.fa k)
  have e2 : (fun x => decide (x ∈ kk)) = (itF τ (f0 ss L)).2 := funext fun k => g.fh k
  obtain ⟨f1, f2⟩ := stp_fun (L := kk) a
  have e3 : (Nd.cnt hs 0, fun x => decide (x ∈ kk)) = itF τ (f0 ss L) := by rw [e1, e2]
  rw [e3] at f1 f2
  refine ⟨fun k => congrFun f1 k, fun k => congrFun f2 k, fun n hn s h1 h2 h3 => ?_, fun s h1 h2 h3 => by omega, asc_nodup hb'.asc, fun q hq => ?_, hb'.nd, fun k hk => ?_, g.sn, fun q hq => ?_⟩
  · by_cases e : n = τ
    · subst e
      rw [← g.fa s]
      exact g.now s h1 h2 (by omega) h3
    · exact g.old n (by omega) s h1 h2 h3
  · have c := hb'.hb q hq
    refine ⟨hb'.asc.pos q hq, ?_, by omega, by omega⟩
    have hne : (stF (itF τ (f0 ss L))).1 q.1 ≠ 0 := by
      rw [← f1, cnt_zero_at (asc_nodup hb'.asc) hq]
      have := hb'.asc.pos q hq
      omega
    have hp0 : ∀ k, (f0 ss L).1 k ≠ 0 → k % 2 = col := fun k hk => by
      have hin : k ∈ ss.map (·.1) := Classical.byContradiction fun z => hk (cnt_zero_off z)
      obtain ⟨p, hp, rfl⟩ := List.mem_map.mp hin
      exact (g.sp p hp).2.2.2.1
    exact itF_par hp0 (τ + 1) q.1 hne
  · have := hb'.kb k hk
    omega
  · obtain ⟨a, b, c, d, n, e1, e2, e3, _⟩ := g.sp q hq
    exact ⟨a, by rw [Int.pow_succ]; omega, fun _ => b, d, n, by omega, e2, e3, fun z => by omega⟩
/-- what is put where, spot by spot and tick by tick -/
def gStep (L : List Int) (ws : List (Int × Int)) (τ : Nat) (x : Int) (S : Int → Int) : Int → Int := fun j => if (itF τ (S, fun k => decide (k ∈ L))).1 x % 2 = 1 ↔ (x, (τ : Int)) ∈ ws then S j else if j = x + τ then S (x + τ) + 2 ^ τ else S j
def gX0 (col : Int) (lo : Nat → Int) (τ : Nat) : Int := lo τ + (lo τ + (τ : Int) + col) % 2
def gRow (L : List Int) (ws : List (Int × Int)) (col : Int) (lo : Nat → Int) (τ : Nat) (S : Int → Int) : Nat → Int → Int
  | 0 => S
  | m + 1 => gStep L ws τ (gX0 col lo τ + 2 * (m : Int)) (gRow L ws col lo τ S m)
def gAll (L : List Int) (ws : List (Int × Int)) (col : Int) (lo hi : Nat → Int) : Nat → Int → Int
  | 0 => fun _ => 0
  | τ + 1 => gRow L ws col lo τ (gAll L ws col lo hi τ) ((hi τ + 1 - gX0 col lo τ + 1) / 2).toNat
theorem gStep_yes {L : List Int} {ws : List (Int × Int)} {τ : Nat} {x : Int} {S : Int → Int} (h : (itF τ (S, fun k => decide (k ∈ L))).1 x % 2 = 1 ↔ (x, (τ : Int)) ∈ ws) : gStep L ws τ x S = S := funext fun j => if_pos h
theorem gStep_no {L : List Int} {ws : List (Int × Int)} {τ : Nat} {x : Int} {S : Int → Int} (h : ¬ ((itF τ (S, fun k => decide (k ∈ L))).1 x % 2 = 1 ↔ (x, (τ : Int)) ∈ ws)) (j : Int) : gStep L ws τ x S j = if j = x + τ then S (x + τ) + 2 ^ τ else S j := if_neg h
/-- heaps that grant what is wished of the windows, tick by tick -/
structure Grants (L : List Int) (ws : List (Int × Int)) (col : Int) (lo hi : Nat → Int) (T : Nat) (ss : List (Int × Int)) : Prop where
  odd : ∀ n : Nat, n < T → ∀ s, lo n ≤ s → s ≤ hi n → (s + n) % 2 = col → ((itF n (f0 ss L)).1 s % 2 = 1 ↔ (s, (n : Int)) ∈ ws)
  asc : ss.Pairwise fun p q => p.1 < q.1
  fn : Nd.cnt ss 0 = gAll L ws col lo hi T
  sp : ∀ p ∈ ss, 1 ≤ p.2 ∧ p.2 < 2 ^ (T + 1) ∧ p.1 % 2 = col ∧ ∃ n : Nat, n < T ∧ lo n ≤ p.1 - n ∧ p.1 - n ≤ hi n
/-- windows: for each tick a pair of spots -/
def WinS (H : Hp) (a : Addr) (lo hi : Nat → Int) (t : Nat) : Prop := ∃ ts : List Addr, H a = some (.lst (ts.map V.ref)) ∧ ts.length = t ∧ ∀ (n : Nat) (b : Addr), ts[n]? = some b → H b = some (.tup [.int (lo n), .int (hi n)])
def plW (p : Int × Int) : List Key := [.inl p.1, .inl p.2]
def entW (p : Int × Int) : List Key × V := (plW p, .bl true)
def spGrant : Sp := fun vs H Q _ => ∃ (r : Addr) (x : V) (d wv : Addr) (ks : List Int) (ws : List (Int × Int)) (col : Int) (lo hi : Nat → Int) (t : Nat), vs = [x, .ref d, .int col, .ref wv] ∧ LfS r H x ks ∧ H d = some (.dT (ws.map entW)) ∧ 0 ≤ col ∧ col < 2 ∧ t ≤ 60 ∧ WinS H wv lo hi t ∧ (∀ n, n < t → -1000100 ≤ lo n ∧ lo n ≤ 1000100 ∧ -1000200 ≤ hi n ∧ hi n ≤ 1000100) ∧
  ∀ H' a ts ss, Same H H' → H a = none → TupP H' a (ts.map V.ref) → Paired (PrI H H') ts ss → Grants ks ws col lo hi t ss → Q (.ref a) H'
theorem rgC_two {i j : Int} (h1 : -(2 ^ 40) ≤ i) (h2 : i ≤ 2 ^ 40) (h3 : -(2 ^ 40) ≤ j) (h4 : j ≤ 2 ^ 40) : RgC i j 2 ((j - i + 1) / 2).toNat := by
  have e : Builtin.Range.rangeSize i j 2 = (((j - i + 1) / 2).toNat : Int) := by
    unfold Builtin.Range.rangeSize
    rw [if_pos (by decide)]
    split <;> omega
  refine ⟨by decide, by decide, ?_, e⟩
  unfold Builtin.Range.small
  rw [e]
  simp only [Builtin.Range.rangeFitsLong]
  have : (2 : Int) ^ 40 = 1099511627776 := by decide
  simp
  omega
theorem k_iRng3 {ta : TA} {σ : L2.St} {H : Hp} {R : It → Hp → Prop} (h : ta σ H fun vs H1 => ∃ (i j c : Int) (n : Nat), vs = [.int i, .int j, .int c] ∧ RgC i j c n ∧ R (Itc i c n) H1) : iRng3 ta σ H R := h
/-! the chips that 2 ** tick chips make at their tick, from the left -/
structure RtI (qs qm : List (Int × Int)) (i : Nat) (x : Int) (m : Nat) : Prop where
  nd : (qm.map (·.1)).Nodup
  pos : ∀ p ∈ qm, 1 ≤ p.2 ∧ ((∃ q ∈ qs, q.1 = p.1) ∨ ∃ r : Nat, r ≤ i ∧ p.1 = x + 2 * (r : Int))
  sum : ∀ j, Nd.cnt qm 0 j = Nd.cnt qs 0 j + (if x ≤ j ∧ j < x + 2 * (m : Int) ∧ (j - x) % 2 = 0 then (ch i ((j - x) / 2).toNat : Int) else 0)
theorem RtI.start {qs : List (Int × Int)} (h : (qs.map (·.1)).Nodup) (hp : ∀ p ∈ qs, 1 ≤ p.2) (i : Nat) (x : Int) : RtI qs qs i x 0 :=
  ⟨h, fun p hq => ⟨hp p hq, .inl ⟨p, hq, rfl⟩⟩, fun j => by rw [if_neg (by omega), Int.add_zero]⟩
theorem RtI.put {qs qm : List (Int × Int)} {i : Nat} {x : Int} {m : Nat} (g : RtI qs qm i x m) (hm : m ≤ i) (hp : ∀ p ∈ qs, 1 ≤ p.2) :
    ∃ qn : List (Int × Int), putK (qm.map entI) (.inl (x + 2 * (m : Int))) (.int (Nd.cnt qm 0 (x + 2 * (m : Int)) + (ch i m : Int))) = qn.map entI ∧ RtI qs qn i x (m + 1) := by
  obtain ⟨qn, h1, h2, h3, h4⟩ := putI g.nd (x + 2 * (m : Int)) (Nd.cnt qm 0 (x + 2 * (m : Int)) + (ch i m : Int))
  have hc : 0 < ch i m := ch_pos hm
  refine ⟨qn, h1, h2, fun p hq => ?_, fun j => ?_⟩
  · rcases h3 p hq with rfl | ⟨h, _⟩
    · have := cnt_nonneg (t := 0) (s := x + 2 * (m : Int)) fun p hp => (g.pos p hp).1
      exact ⟨by show 1 ≤ Nd.cnt qm 0 (x + 2 * (m : Int)) + (ch i m : Int); omega, .inr ⟨m, hm, rfl⟩⟩
    · exact g.pos p h
  · rw [h4]
    by_cases e : j = x + 2 * (m : Int)
    · subst e
      rw [if_pos rfl, if_pos ⟨by omega, by omega, by omega⟩, g.sum, if_neg (by omega), Int.add_zero, show ((x + 2 * (m : Int) - x) / 2).toNat = m by omega]
    · rw [if_neg e, g.sum]
      by_cases h : x ≤ j ∧ j < x + 2 * (m : Int) ∧ (j - x) % 2 = 0
      · rw [if_pos h, if_pos ⟨h.1, by omega, h.2.2⟩]
      · rw [if_neg h, if_neg (by omega)]
theorem RtI.done {qs qm : List (Int × Int)} {i : Nat} {x : Int} (g : RtI qs qm i x (i + 1)) (j : Int) : Nd.cnt qm 0 j = Nd.cnt qs 0 j + (W i (j - (x + i)) : Int) := by
  rw [g.sum]
  congr 1
  by_cases h : x ≤ j ∧ j < x + 2 * ((i + 1 : Nat) : Int) ∧ (j - x) % 2 = 0
  · rw [if_pos h]
    have e : j - (x + i) = 2 * (((j - x) / 2).toNat : Int) - i := by omega
    rw [e, W_ch]
  · rw [if_neg h]
    by_cases h2 : (j - x) % 2 = 0
    · rw [W_far i _ (by omega)]
      rfl
    · rw [W_odd i _ (by omega)]
      rfl
theorem RtI.len {qs qm : List (Int × Int)} {i : Nat} {x : Int} {m : Nat} (g : RtI qs qm i x m) (hq : ∀ p ∈ qs, -1000400 ≤ p.1 ∧ p.1 ≤ 1000400) (hi : i ≤ 60) (hx : -1000200 ≤ x ∧ x ≤ 1000200) : qm.length ≤ 2100000 := by
  have := nodup_range (lo := -1000400) (n := 2100000) g.nd fun y hy => by
    obtain ⟨p, hp, rfl⟩ := List.mem_map.mp hy
    rcases (g.pos p hp).2 with ⟨q, h, e⟩ | ⟨r, h, e⟩
    · have := hq q h
      omega
    · omega
  rwa [List.length_map] at this
theorem GrI.asc {L : List Int} {ws : List (Int × Int)} {col : Int} {lo hi : Nat → Int} {τ : Nat} {cur : Int} {qs hs : List (Int × Int)} {kk : List Int} {ss : List (Int × Int)} (g : GrI L ws col lo hi τ cur qs kk ss) (p : hs.Perm qs) (h : hs.Pairwise lexLe) : Asc hs := by
  refine ⟨?_, fun q hq => (g.qp q (p.mem_iff.mp hq)).1, (col - τ) % 2, fun q hq => ?_⟩
  · have nd : (hs.map (·.1)).Nodup := (p.map _).nodup_iff.mpr g.qn
    rw [List.Nodup, List.pairwise_map] at nd
    refine (nd.imp₂ (S := fun a b => (a ∈ hs ∧ b ∈ hs) ∧ lexLe a b) (fun a b h1 h2 => ?_) ?_)
    · obtain ⟨⟨ha, hb⟩, hl⟩ := h2
      have c1 := (g.qp a (p.mem_iff.mp ha)).2.1
      have c2 := (g.qp b (p.mem_iff.mp hb)).2.1
      unfold lexLe at hl
      have : a.1 ≠ b.1 := h1
      omega
    · exact (List.pairwise_iff_forall_sublist.mpr fun hs2 => ⟨⟨hs2.subset (by simp), hs2.subset (by simp)⟩, List.pairwise_iff_forall_sublist.mp h hs2⟩)
  · have := (g.qp q (p.mem_iff.mp hq)).2.1
    omega
theorem GrI.grants {L : List Int} {ws : List (Int × Int)} {col : Int} {lo hi : Nat → Int} {T : Nat} {qs : List (Int × Int)} {kk ys : List Int} {ss : List (Int × Int)} (g : GrI L ws col lo hi T (lo T) qs kk ss) (hfn : Nd.cnt ss 0 = gAll L ws col lo hi T) (perm : ys.Perm (ss.map (·.1))) (srt : ys.Pairwise (· ≤ ·)) :
    Grants L ws col lo hi T (ys.map fun k => (k, Nd.cnt ss 0 k)) := by
  have nd : ys.Nodup := perm.nodup_iff.mpr g.sn
  have hp : (ys.map fun k => (k, Nd.cnt ss 0 k)).Perm ss := by
    refine (perm.map _).trans ?_
    rw [List.map_map]
    refine List.Perm.of_eq ?_
    refine (List.map_congr_left fun p hp => ?_).trans (List.map_id ss)
    show (p.1, Nd.cnt ss 0 p.1) = p
    rw [cnt_zero_at g.sn hp]
  have e : f0 (ys.map fun k => (k, Nd.cnt ss 0 k)) L = f0 ss L := Prod.ext (funext fun k => cnt_perm hp 0 k) rfl
  refine ⟨?_, ?_, ?_, fun p hq => ?_⟩
  · rw [e]
    exact g.old
  · refine List.pairwise_map.mpr ?_
    rw [List.Nodup] at nd
    exact nd.imp₂ (S := (· ≤ ·)) (fun a b h1 h2 => by show a < b; omega) srt
  · rw [← hfn]
    exact funext fun k => cnt_perm hp 0 k
  · obtain ⟨a, b, c, d, n, e1, e2, e3, e4⟩ := g.sp p (hp.mem_iff.mp hq)
    have hn : n ≠ T := fun z => by
      have := e4 z
      subst z
      omega
    exact ⟨a, b, d, n, by omega, e2, e3⟩
theorem grants_uniq : ∀ {l m : List (Int × Int)}, l.Pairwise (fun p q => p.1 < q.1) → m.Pairwise (fun p q => p.1 < q.1) → (∀ p ∈ l, 1 ≤ p.2) → (∀ p ∈ m, 1 ≤ p.2) → Nd.cnt l 0 = Nd.cnt m 0 → l = m := fun {l m} h1 h2 p1 p2 e => by
  have n1 : (l.map (·.1)).Nodup := List.pairwise_map.mpr (h1.imp fun h => by omega)
  have n2 : (m.map (·.1)).Nodup := List.pairwise_map.mpr (h2.imp fun h => by omega)
  have hm : ∀ p, p ∈ l ↔ p ∈ m := fun ⟨k, v⟩ => by rw [cnt_mem n1 p1, cnt_mem n2 p2, e]
  have d1 : l.Nodup := (List.pairwise_map.mp n1).imp fun h z => h (by rw [z])
  have d2 : m.Nodup := (List.pairwise_map.mp n2).imp fun h z => h (by rw [z])
  exact List.Perm.eq_of_pairwise (le := fun p q : Int × Int => p.1 ≤ q.1 ∧ (p.1 = q.1 → p = q)) (fun a b _ _ h3 h4 => h3.2 (by omega)) (h1.imp fun h => ⟨by omega, fun z => by omega⟩) (h2.imp fun h => ⟨by omega, fun z => by omega⟩) ((List.perm_ext_iff_of_nodup d1 d2).mpr hm)
end Nd

namespace Nd
open PySem PySem.Spec PyProof.Rows L2 LamX L2.DX
/-! ### sets of tuples of ints by a comprehension (below 64) -/
def SetAddsU (P : Program) (w : World) (Ad : AdT) : Prop := ∀ (Y : Cx) (pins : List (Addr × Obj)) (σ : L2.St) (H : Hp) (s : Shared) (y : V) (z : Value) (D : Addr) (K : Hp → Prop) (E : Value → Shared → Prop) (Qs : Shared → Prop), Y.prog = P → Y.w = w → Y.A.units + 64 < cLine →
  Inv Y pins σ H s → RelV y z → Ad y D H K → (∀ s' H', Inv Y pins σ H' s' → K H' → Qs s') → wpAny (model P w) Y.A (call (.builtin "set.add") [.ref D, z]) (fun _ s' => Qs s') E s
def OT (P : Program) (w : World) : Addr → HO := fun D => SetTO P w D []
def AdP (P : Program) (w : World) : AdT := fun y D H Nx => ∃ (b : Addr) (k : List Int) (L : List (Addr × List Int)), y = .ref b ∧ H b = some (.tup (k.map V.int)) ∧ H D = some (SetTO P w D L) ∧ (∀ p ∈ L, H p.1 = some (.tup (p.2.map V.int))) ∧ L.length + 1 < 64 ∧
  ∀ L', (k ∈ L.map (·.2) → L' = L) → (k ∉ L.map (·.2) → L'.Perm ((b, k) :: L)) → Nx (upd H D (SetTO P w D L'))
theorem setT_starts {P : Program} {w : World} : SetStarts P w (OT P w) := fun H h => setTO_new (setTR_fresh (Heap.get?_push_size _ rfl)).t0
theorem setTO_get {X : Cx} {pins : List (Addr × Obj)} {σ : L2.St} {H : Hp} {s : Shared} {a : Addr} {L : List (Addr × List Int)} (I : Inv X pins σ H s) (ha : H a = some (SetTO X.prog X.w a L)) : SetT0 X.prog X.w s.heap a L := (I.hok a _ ha).1
theorem setT_adds {P : Program} {w : World} : SetAddsU P w (AdP P w) := fun Y pins σ H s y z D Nx E Qs e1 e2 hu I r ⟨b, k, L, ey, eb, eD, hL, few, nx⟩ q => by
  subst e1
  subst e2
  subst ey
  obtain rfl : z = Value.ref b := r
  obtain ⟨es, ep, t, R⟩ := (setTO_get I eD).full fun p hp => Inv.isT I (.inl (.inl (hL p hp)))
  have hx : IsT Y.prog Y.w s.heap k b := Inv.isT I (.inl (.inl eb))
  obtain ⟨o, ho, hex, hd⟩ := R.ob
  refine wpAny_call_entry F.slot_set_add ⟨o, ho, hex.1⟩ F.entry_set_add ?_ (F.args_set_add_2 _ _)
  unfold Builtin.«set.add» Builtin.Frozenset.oneOther
  simp only [List.isEmpty_nil, bind_assoc]
  unfold Builtin.Frozenset.addrOf setAdd
  refine wpAny_bind (wpAny_pure ?_)
  try dsimp only
  refine wpAny_bind (wpAny_pure ?_)
  try dsimp only
  refine wpAny_bind ?_
  refine wpAny_holding ?_
  refine wpAny_bind (wpAny_pyHash_tuple (show Y.A.units + 1 < cLine by omega) hx ?_)
  refine add_at (s := { s with toks := s.toks + (k.length + 1) }) R hx (show Y.A.units + 1 < cLine by omega) few fun bb h' L' es' ep' t' hsb R' c1 c2 => ?_
  show wpAny _ _ (ret Value.none) _ _ _
  obtain ⟨o', ho', _, _⟩ := R'.ob
  refine wpAny_pure ?_
  refine ⟨_, rfl, ?_⟩
  exact q _ _ (I.write (e := D) (t' := s.toks + (k.length + 1)) (by rw [eD]; trivial) (.inl rfl) (fun b u hb hu => (hsb.2 b hb).trans hu) ⟨_, ho'⟩ (setTO_new R'.t0)) (nx L' c1 c2)
section
variable {X : Cx}
theorem pe_scT {O : Addr → HO} {Ad : AdT} {elt tg iter : Expr} {ifs : List Expr} {scope : Scope} {own : List (PySem.Str × Nat)} {pos : Pos} {wi : TI} {g : TG} {tt : TT} {te : TE} (hO : SetStarts X.prog X.w O) (hA : SetAddsU X.prog X.w Ad) (hu : X.A.units + 64 < cLine)
    (hc : X.calm = true) (hN : X.N.Nodup) (hi : PI X tg iter wi) (ok : BlkOk X.N X.env.scope scope own)
    (hg : ∀ (s : Shared) (H : Hp) (C : Addr) (cl : List (PySem.Str × Addr)) (fp : List Addr), PG (X.blk s H scope (compEnvC scope cl C X.env) fp) tg g) (ht : ∀ (s : Shared) (H : Hp) (C : Addr) (cl : List (PySem.Str × Addr)) (fp : List Addr), PTs (X.blk s H scope (compEnvC scope cl C X.env) fp) ifs tt)
    (he : ∀ (s : Shared) (H : Hp) (C : Addr) (cl : List (PySem.Str × Addr)) (fp : List Addr), PE (X.blk s H scope (compEnvC scope cl C X.env) fp) elt te) (hs : ∀ x, foldedSetIterable iter X.env x = pure x := by intro _; rfl) :
    PE X (.SetComp elt [⟨tg, iter, ifs, 0⟩] scope pos) (tScG O Ad wi g tt te (own.map (·.2))) := by
  refine ⟨fun pins s σ H Q I h => ?_⟩
  rw [PpSet.eval_SetComp]
  have hfree : ∀ y ∈ scope.names, y.2 = .free → ∃ c, X.env.cells.lookup y.1 = some c := fun y hy e => (ok.free y hy e).elim (fun k => I.ok.has _ (.inl k)) fun k => I.ok.has _ (.inr k)
  refine wpAny_comprehension_free (use := none) rfl hs (closure_ok hfree) ok.kind (fun y hy e => by rw [ok.uniq y hy, e])
    (thn (hi.run pins s σ H _ I h) fun xv s1 hx => thn hx fun itv s2 ⟨it, fp, tn, J, H2, e, I2, T, st2, f2, q⟩ => ?_)
  subst e
  refine PpSet.newSet_ok (newEnv_comp ?_)
  obtain ⟨D, hD⟩ : ∃ D, s2.heap.objs.size = D := ⟨_, rfl⟩
  rw [hD]
  obtain ⟨W, ⟨m0, w0⟩, turn⟩ := q D (I2.hok.fresh (Nat.le_of_eq hD))
  obtain ⟨s3, hs3⟩ : ∃ s3 : Shared, { s2 with heap := s2.heap.push (newSetObj X.w) } = s3 := ⟨_, rfl⟩
  obtain ⟨H3, hH3⟩ : ∃ H3 : Hp, upd H2 D (O D) = H3 := ⟨_, rfl⟩
  rw [hH3] at w0
  have h3 : s3.heap = s2.heap.push (newSetObj X.w) := by rw [← hs3]
  have I3 : Inv X pins σ H3 s3 := by
    rw [← hs3, ← hH3]
    refine I2.laid (t' := s2.toks) (fun b o e => Heap.get?_push_of_some _ e) (Nat.le_of_eq hD) ?_
    rw [← hD]
    exact hO _ _
  have f3 : ∀ b ∈ fp, FpOk X pins H3 b ∧ b < s3.heap.objs.size := fun b hb => by
    obtain ⟨o, e, _⟩ := T.obj _ _ st2 b hb
    have hlt := Heap.lt_size e
    refine ⟨⟨?_, (f2 b hb).2⟩, by rw [h3, Heap.size_push]; exact Nat.lt_succ_of_lt hlt⟩
    rw [← hH3, upd_ne (by rw [← hD]; exact Nat.ne_of_lt hlt)]
    exact (f2 b hb).1
  have st3 : tn 0 s3.heap := T.keep _ _ _ st2 fun b _ o e => by rw [h3]; exact Heap.get?_push_of_some _ e
  have I4 := block_start I3 ok hN f3
  have pg := hg s3 H3 s3.heap.objs.size (cellsFrom (s3.heap.objs.size + 1) scope.names (cloFrom X.env.cells scope.names [])) fp
  have pt := ht s3 H3 s3.heap.objs.size (cellsFrom (s3.heap.objs.size + 1) scope.names (cloFrom X.env.cells scope.names [])) fp
  have pe := he s3 H3 s3.heap.objs.size (cellsFrom (s3.heap.objs.size + 1) scope.names (cloFrom X.env.cells scope.names [])) fp
  have nfp : ∀ b ∈ fp, H3 b = none := fun b hb => (f3 b hb).1.1
  change codeAny _ _ (.compStart (.SetComp elt [⟨tg, iter, ifs, 0⟩] scope pos) 0 (.ref it) (.ref D) (compEnvC scope (cellsFrom ({ s2 with heap := s2.heap.push (newSetObj X.w) } : Shared).heap.objs.size.succ scope.names (cloFrom X.env.cells scope.names [])) ({ s2 with heap := s2.heap.push (newSetObj X.w) } : Shared).heap.objs.size X.env)) (compPost (model X.prog X.w) X.A X.xe none (EP X pins σ Q) (.ref D) ({ s2 with heap := s2.heap.push (newSetObj X.w) } : Shared).heap.objs.size) { ({ s2 with heap := s2.heap.push (newSetObj X.w) } : Shared) with heap := pushCells (({ s2 with heap := s2.heap.push (newSetObj X.w) } : Shared).heap.push { cls := .type "dict", data := .dict #[] }) scope.names }
  rw [hs3]
  generalize hce : compEnvC scope (cellsFrom (s3.heap.objs.size + 1) scope.names (cloFrom X.env.cells scope.names [])) s3.heap.objs.size X.env = ce at I4 pg pt pe ⊢
  have cL : ce.locals = s3.heap.objs.size := by subst hce; rfl
  generalize hs4 : ({ s3 with heap := pushCells (s3.heap.push { cls := .type "dict", data := .dict #[] }) scope.names } : Shared) = s4 at I4 ⊢
  have st4 : tn 0 s4.heap := T.keep _ _ _ st3 fun b _ o e => by rw [← hs4]; exact pushCells_keeps _ _ _ _ (Heap.get?_push_of_some _ e)
  have stat : ∀ {σ' : L2.St} {H' : Hp} {s' : Shared}, Inv (X.blk s3 H3 scope ce fp) [] σ' H' s' → (∀ b ∈ fp, H' b = none) → ∀ b ∈ fp, FpOk (X.blk s3 H3 scope ce fp) [] H' b := fun {σ' H' s'} I' hn b hb =>
    ⟨hn b hb, (I'.ok.exf b hb).1, I'.ok.exfs b hb, .inl hb, fun x c e => (I'.ok.exf b hb).2 x c e, fun p hp => absurd (show p ∈ ([] : List (Addr × Obj)) ++ [] from hp) (by simp)⟩
  have loop : codeAny (model X.prog X.w) X.A (.compLoop (.SetComp elt [⟨tg, iter, ifs, 0⟩] scope pos) 0 (.ref it) (.ref D) ce) (compPost (model X.prog X.w) X.A X.xe none (EP X pins σ Q) (.ref D) s3.heap.objs.size) s4 := by
    refine PpSet.compLoopS_any (fun n s' => ∃ i H', Inv (X.blk s3 H3 scope ce fp) [] (wipe σ (own.map (·.2))) H' s' ∧ tn i s'.heap ∧ (∀ b ∈ fp, H' b = none) ∧ W i n H') ?_ m0 ⟨0, H3, I4, st4, nfp, w0⟩
    rintro n s5 ⟨i, H5, I5, st5, n5, w5⟩
    rcases turn i n H5 w5 with ⟨stop, qq⟩ | ⟨go, Nx, hNx, step⟩
    · refine thnF (T.done (X.blk s3 H3 scope ce fp) rfl rfl rfl hc i [] s5 _ H5 (fun _ _ => False) I5 (stat I5 n5) st5 stop) fun r s6 ⟨hr, I6⟩ => ?_
      subst hr
      have I7 : Inv X pins σ H5 s6 := I3.call' (ch := fp) I6.os I6.base I6.hok I6.bare fun b hb => ⟨(f3 b hb).1.2.2.2.1, (f3 b hb).1.2.1, (f3 b hb).1.2.2.2.2.1, (f3 b hb).1.2.2.2.2.2⟩
      have nC : H5 s3.heap.objs.size = none := by
        have z : H5 ce.locals = none := I6.free
        rwa [cL] at z
      obtain ⟨m, hn, _⟩ := I6.loc
      have hn : s6.heap.Ns ce.locals m := hn
      rw [cL] at hn
      refine ⟨m, hn, fun h'' sb => ?_⟩
      obtain ⟨_, f1, f2', f3', f4, f5⟩ := I3.fpOk (Nat.le_refl _) nC
      exact ⟨.ref D, H5, I7.turned (t' := s6.toks) (fun b o hb e => (sb.2 b hb).trans e) nC f1 f3' f4 f5, rfl, qq⟩
    · refine thnF (T.item (X.blk s3 H3 scope ce fp) rfl rfl rfl hc i [] s5 _ H5 (fun _ _ => False) I5 (stat I5 n5) st5 go) fun r s6 ⟨u, hr, h6⟩ => ?_
      subst hr
      refine thnF h6 fun _ s7 ⟨x, H7, I7, r7, y7, st7, n7⟩ => ?_
      have I7' := I7.pinned (stat I7 n7) (T.obj _ _ st7)
      refine thnF (pg.run _ s7 _ H7 x u _ I7' r7 (step x H7 y7)) fun _ s8 ⟨σ8, H8, I8, hw8, q8⟩ => ?_
      refine thnF (pt.run _ s8 σ8 H8 _ I8 q8) fun b s9 ⟨H9, I9, q9⟩ => ?_
      have fin : ∀ (s' : Shared) (H' : Hp), Inv (X.blk s3 H3 scope ce fp) ([] ++ pinsAt fp s7.heap) σ8 H' s' → Nx H' → ∃ m, m < n ∧ ∃ i H', Inv (X.blk s3 H3 scope ce fp) [] (wipe σ (own.map (·.2))) H' s' ∧ tn i s'.heap ∧ (∀ b ∈ fp, H' b = none) ∧ W i m H' := fun s' H' I' nx => by
        obtain ⟨m', hm, w'⟩ := hNx H' nx
        have pin' : ∀ b ∈ fp, ∀ o, s7.heap.get? b = some o → s'.heap.get? b = some o ∧ H' b = none := fun b hb o e =>
          let z := I'.pin (b, o) (List.mem_append_right _ (List.mem_append_right _ (mem_pinsAt hb e)))
          ⟨z.1, z.2.1⟩
        have hl : (wipe σ (own.map (·.2))).length = σ8.length := by rw [← hw8, wipe_length]
        refine ⟨m', hm, i + 1, H', (I'.unpinned (pins := [])).weak hl (fun j v e => ?_), T.keep _ _ _ st7 fun b hb o e => (pin' b hb o e).1, fun b hb => ?_, w'⟩
        · rw [← hw8] at e
          exact (wipe_some e).1
        · obtain ⟨o, e, _⟩ := T.obj _ _ st7 b hb
          exact (pin' b hb o e).2
      cases b with
      | false => exact fin _ _ I9 (by simpa using q9)
      | true =>
        simp only [if_true] at q9 ⊢
        refine thnF (pe.run _ s9 σ8 H9 _ I9 q9) fun z s10 ⟨yv, H10, I10, r10, ad⟩ => ?_
        exact hA (X.blk s3 H3 scope ce fp) _ _ _ _ _ _ _ _ _ _ rfl rfl (show X.A.units + 64 < cLine from hu) I10 r10 ad fin
  exact PpSet.codeAny_compStart_set loop (T.self X.A 0 _ _ _ st4 loop)
end
def rLenST (P : Program) (w : World) : List V → Hp → VK → Prop := fun xs H Q => ∃ (a : Addr) (L : List (Addr × List Int)), xs = [.ref a] ∧ H a = some (SetTO P w a L) ∧ (∀ p ∈ L, H p.1 = some (.tup (p.2.map V.int))) ∧ Q (.int (L.length : Int)) H
theorem call_lenST {X : Cx} : CallR X (.builtin "len") (rLenST X.prog X.w) := by
  intro pins s σ H xs us Q I r h
  obtain ⟨a, L, rfl, ha, hL, q⟩ := h
  obtain ⟨u, rfl, rx⟩ := vals1 r
  cases rx
  obtain ⟨es, ep, t, R⟩ := (setTO_get I ha).full fun p hp => Inv.isT I (.inl (.inl (hL p hp)))
  obtain ⟨o, ho, hex, hd⟩ := R.ob
  have hsz := R.size
  have h63 : (es.size : Int) < 2 ^ 63 := by
    have := R.few
    omega
  refine call_len_set ho hex hd R.fits h63 ⟨.int (L.length : Int), H, I.tok _, ⟨_, by rw [hsz]⟩, q⟩
/-- how many there are, each once -/
def dcT : List (List Int) → Nat
  | [] => 0
  | k :: r => if k ∈ r then dcT r else dcT r + 1
theorem dcT_le : ∀ l : List (List Int), dcT l ≤ l.length
  | [] => Nat.le_refl _
  | k :: r => by
    have := dcT_le r
    rw [dcT, List.length_cons]
    split <;> omega
theorem dcT_nodup : ∀ l : List (List Int), dcT l = l.length ↔ l.Nodup
  | [] => by simp [dcT]
  | k :: r => by
    have h1 := dcT_le r
    have ih := dcT_nodup r
    rw [dcT, List.length_cons, List.nodup_cons]
    by_cases h : k ∈ r
    · rw [if_pos h]
      exact ⟨fun e => by omega, fun e => absurd h e.1⟩
    · rw [if_neg h]
      exact ⟨fun e => ⟨h, ih.mp (by omega)⟩, fun e => by rw [ih.mpr e.2]⟩
theorem scIn_T {P : Program} {w : World} {J : It} {n : Nat} {G : Hp → Prop} {Y : Nat → Hp → V → Hp → Prop} (W : Walk J n G Y) {g : TG} {tt : TT} {te : TE} {vs : List Nat} {σ : L2.St} {H1 : Hp} {Q : VK} (f : List (List Int)) (hf : f.length = n) (hn : n ≤ 62)
    (hG : ∀ H', Same H1 H' → G H')
    (step : ∀ (i : Nat) (x : V) (H H' : Hp) (k : List Int), f[i]? = some k → Same H1 H → Y i H x H' → ∀ (QE : VK) (Z : Hp → Prop), (∀ H4 b, Same H H4 → H4 b = some (.tup (k.map V.int)) → QE (.ref b) H4) → g x (wipe σ vs) H' fun σ2 H2 => wipe σ2 vs = wipe σ vs ∧ tt σ2 H2 fun b H3 => if b = true then te σ2 H3 QE else Z H3)
    (fin : ∀ (p : Addr) (H' : Hp) (L : List (Addr × List Int)), H1 p = none → Same H1 H' → H' p = some (SetTO P w p L) → (∀ q ∈ L, H' q.1 = some (.tup (q.2.map V.int))) → L.length = dcT f.reverse → Q (.ref p) H') : ScIn (OT P w) (AdP P w) J g tt te vs σ H1 Q := by
  intro D hD
  refine ⟨fun i m H => m = n - i ∧ i ≤ n ∧ Same H1 H ∧ ∃ L, H D = some (SetTO P w D L) ∧ (∀ q ∈ L, H q.1 = some (.tup (q.2.map V.int))) ∧ (∀ k, k ∈ L.map (·.2) ↔ k ∈ f.take i) ∧ L.length = dcT (f.take i).reverse, ⟨n, by simp, Nat.zero_le _, Same.new hD, [], ?_, (fun q hq => nomatch hq), by simp, by simp [dcT]⟩, ?_⟩
  · rw [upd_same]
    rfl
  rintro i m H ⟨rfl, hi, s1, L, eD, hL, hk, hl⟩
  by_cases hlt : i < n
  · obtain ⟨k, hki⟩ : ∃ k, f[i]? = some k := ⟨f[i]'(by omega), by simp [hf, hlt]⟩
    have ht : f.take (i + 1) = f.take i ++ [k] := by rw [List.take_succ, hki]; rfl
    refine .inr ⟨W.goes i H hlt (hG H s1), fun H' => Same H1 H' ∧ ∃ L, H' D = some (SetTO P w D L) ∧ (∀ q ∈ L, H' q.1 = some (.tup (q.2.map V.int))) ∧ (∀ k, k ∈ L.map (·.2) ↔ k ∈ f.take (i + 1)) ∧ L.length = dcT (f.take (i + 1)).reverse, fun H' p => ⟨n - (i + 1), by omega, rfl, hlt, p⟩, fun x H' y => ?_⟩
    refine step i x H H' k hki s1 (W.yields i H x H' hlt (hG H s1) y) _ _ fun H4 b s4 eb => ?_
    have hle := dcT_le (f.take i).reverse
    rw [List.length_reverse, List.length_take] at hle
    have eD4 := s4 _ _ eD
    have nt : ∀ {c : Addr} {us : List V}, H4 c = some (.tup us) → c ≠ D := fun e z => by
      rw [z, eD4] at e
      cases e
    refine ⟨b, k, L, rfl, eb, eD4, fun q hq => s4 _ _ (hL q hq), by omega, fun L' c1 c2 => ⟨fun c o e => ?_, L', upd_same, fun q hq => ?_, fun j => ?_, ?_⟩⟩
    · rw [upd_ne (ne_of_none e hD)]
      exact s4 _ _ (s1 _ _ e)
    · by_cases hm : k ∈ L.map (·.2)
      · rw [c1 hm] at hq
        exact (upd_ne (nt (s4 _ _ (hL q hq)))).trans (s4 _ _ (hL q hq))
      · rcases List.mem_cons.mp ((c2 hm).mem_iff.mp hq) with e | h
        · subst e
          exact (upd_ne (nt eb)).trans eb
        · exact (upd_ne (nt (s4 _ _ (hL q h)))).trans (s4 _ _ (hL q h))
    · rw [ht, List.mem_append, List.mem_singleton, ← hk]
      by_cases hm : k ∈ L.map (·.2)
      · rw [c1 hm]
        exact ⟨.inl, fun h => h.elim id fun e => e ▸ hm⟩
      · rw [((c2 hm).map (·.2)).mem_iff, List.map_cons, List.mem_cons]
        exact or_comm
    · rw [ht, List.reverse_append]
      show _ = dcT (k :: (f.take i).reverse)
      rw [dcT]
      by_cases hm : k ∈ L.map (·.2)
      · rw [c1 hm, if_pos (List.mem_reverse.mpr ((hk k).mp hm)), hl]
      · rw [(c2 hm).length_eq, List.length_cons, if_neg (fun z => hm ((hk k).mpr (List.mem_reverse.mp z))), hl]
  · have e : i = n := by omega
    subst e
    refine .inl ⟨W.stops H (hG H s1), ?_⟩
    rw [← hf, List.take_length] at hl
    exact fin D H L hD s1 eD hL hl
end Nd

namespace Nd
open PySem PySem.Spec PyProof.Rows L2 LamX
/-! ### {(..): .. for ..}: a new dict whose keys are tuples -/
def DtIn (J : It) (g : TG) (tt : L2.TT) (tk tv : TE) (vs : List Nat) (σ : L2.St) (H1 : Hp) (Q : VK) : Prop :=
  ∀ D, H1 D = none → ∃ W : Nat → Nat → Hp → Prop, (∃ m, W 0 m (upd H1 D (.dT []))) ∧ ∀ i m H, W i m H →
    (J.stop i H ∧ Q (.ref D) H) ∨ (J.go i H ∧ ∃ Nx : Hp → Prop, (∀ H', Nx H' → ∃ m', m' < m ∧ W (i + 1) m' H') ∧ ∀ x H', J.yld i H x H' → g x (wipe σ vs) H' fun σ2 H2 => wipe σ2 vs = wipe σ vs ∧ tt σ2 H2 fun b H3 =>
      if b = true then tk σ2 H3 fun y H4 => tv σ2 H4 fun z H5 => ∃ kvs k a, y = .ref a ∧ H5 a = some (.tup (k.map kV)) ∧ H5 D = some (.dT kvs) ∧ kvs.length < sizeLine ∧ Nx (upd H5 D (.dT (putK kvs k z))) else Nx H3)
def tDcT (wi : TI) (g : TG) (tt : L2.TT) (tk tv : TE) (vs : List Nat) : TE := fun σ H Q => wi σ H fun J H1 => DtIn J g tt tk tv vs σ H1 Q
section
variable {X : Cx}
theorem dt_put {Y : Cx} {pins : List (Addr × Obj)} {σ : L2.St} {H : Hp} {s : Shared} {E : Value → Shared → Prop} {D b : Addr} {kvs : List (List Key × V)} {k : List Key} {v : V} {r : Value} {Qs : Shared → Prop} (hu : Y.A.units + 64 < cLine) (I : Inv Y pins σ H s) (hD : H D = some (.dT kvs)) (hz : kvs.length < sizeLine) (eb : H b = some (.tup (k.map kV))) (rv : RelV v r)
    (q : ∀ s', Inv Y pins σ (upd H D (.dT (putK kvs k v))) s' → Qs s') : wpAny (model Y.prog Y.w) Y.A (dictSet D (.ref b) r) (fun _ s' => Qs s') E s := by
  obtain ⟨z, hd, xs, rel, dd⟩ := dt_of I.hok hD
  have hlen : xs.length = kvs.length := (Paired.length rel).symm
  have hlp := length_putK kvs k v
  refine wpAny_dictSet_heap (knd := tupleKind (mixKind Y.prog Y.w)) (hsz := by omega) (by show Y.A.units < cLine; omega) (key_of I.hok eb) dd fun h' dd' hs => q _ ?_
  obtain ⟨o', es, ep, ho', h2, h3, h4, _, h5⟩ := dd'
  refine d_write I (by rw [hD]; trivial) hs ⟨o', ho'⟩ ⟨by omega, hd, _, (rel.put k eb rv).keeps fun c ys ec => ?_, o', es, ep, ho', h2, h3, h4, h5⟩
  exact (upd_ne (ne_of ec hD (fun z => nomatch z))).trans ec
theorem dt_core {pins : List (Addr × Obj)} {s : Shared} {σ : L2.St} {H : Hp} {Q : VK} {ek ev tg iter : Expr} {ifs : List Expr} {scope : Scope} {own : List (PySem.Str × Nat)} {pos pos' : Pos} {wi : TI} {g : TG} {tt : L2.TT} {tk tv : TE} {us : Option (Value → Sem Unit)} {Qz : Value → Shared → Prop} (hu : X.A.units + 64 < cLine)
    (hc : X.calm = true) (hN : X.N.Nodup) (I : Inv X pins σ H s) (hi : PI X tg iter wi) (ok : BlkOk X.N X.env.scope scope own)
    (hg : ∀ (s : Shared) (H : Hp) (C : Addr) (cl : List (PySem.Str × Addr)) (fp : List Addr), PG (X.blk s H scope (compEnvC scope cl C X.env) fp) tg g)
    (ht : ∀ (s : Shared) (H : Hp) (C : Addr) (cl : List (PySem.Str × Addr)) (fp : List Addr), PTs (X.blk s H scope (compEnvC scope cl C X.env) fp) ifs tt)
    (hk : ∀ (s : Shared) (H : Hp) (C : Addr) (cl : List (PySem.Str × Addr)) (fp : List Addr), PE (X.blk s H scope (compEnvC scope cl C X.env) fp) ek tk)
    (he : ∀ (s : Shared) (H : Hp) (C : Addr) (cl : List (PySem.Str × Addr)) (fp : List Addr), PE (X.blk s H scope (compEnvC scope cl C X.env) fp) ev tv) (hs : ∀ x, foldedSetIterable iter X.env x = pure x)
    (h : tDcT wi g tt tk tv (own.map (·.2)) σ H Q)
    (hz : ∀ D C s' m H', Inv X pins σ H' s' → Q (.ref D) H' → s'.heap.Ns C m → FpOk X pins H' C → compPost (model X.prog X.w) X.A X.xe us Qz (.ref D) C (.ok .next) s') :
    wpAny (model X.prog X.w) X.A (comprehension (.DictComp ek ev [⟨tg, iter, ifs, 0⟩] scope pos) scope X.env pos' newDict false (eval iter X.env) us) Qz X.xe s := by
  have hfree : ∀ y ∈ scope.names, y.2 = .free → ∃ c, X.env.cells.lookup y.1 = some c := fun y hy e => (ok.free y hy e).elim (fun k => I.ok.has _ (.inl k)) fun k => I.ok.has _ (.inr k)
  refine wpAny_comprehension_free (use := us) rfl hs (closure_ok hfree) ok.kind (fun y hy e => by rw [ok.uniq y hy, e])
    (thn (hi.run pins s σ H _ I h) fun xv s1 hx => thn hx fun itv s2 ⟨it, fp, tn, J, H2, e, I2, T, st2, f2, q⟩ => ?_)
  subst e
  refine wpAny_newObj_type (newEnv_comp ?_)
  obtain ⟨D, hD⟩ : ∃ D, s2.heap.objs.size = D := ⟨_, rfl⟩
  rw [hD]
  obtain ⟨W, ⟨m0, w0⟩, turn⟩ := q D (I2.hok.fresh (Nat.le_of_eq hD))
  obtain ⟨s3, hs3⟩ : ∃ s3 : Shared, { s2 with heap := s2.heap.push { cls := .type "dict", data := .dict #[] } } = s3 := ⟨_, rfl⟩
  obtain ⟨H3, hH3⟩ : ∃ H3 : Hp, upd H2 D (.dT []) = H3 := ⟨_, rfl⟩
  rw [hH3] at w0
  have h3 : s3.heap = s2.heap.push { cls := .type "dict", data := .dict #[] } := by rw [← hs3]
  have I3 : Inv X pins σ H3 s3 := by
    rw [← hs3, ← hH3]
    refine I2.laid (t' := s2.toks) (fun b o e => Heap.get?_push_of_some _ e) (Nat.le_of_eq hD) ?_
    rw [← hD]
    exact dt_empty s2.heap I2.big
  have f3 : ∀ b ∈ fp, FpOk X pins H3 b ∧ b < s3.heap.objs.size := fun b hb => by
    obtain ⟨o, e, _⟩ := T.obj _ _ st2 b hb
    have hlt := Heap.lt_size e
    refine ⟨⟨?_, (f2 b hb).2⟩, by rw [h3, Heap.size_push]; exact Nat.lt_succ_of_lt hlt⟩
    rw [← hH3, upd_ne (by rw [← hD]; exact Nat.ne_of_lt hlt)]
    exact (f2 b hb).1
  have st3 : tn 0 s3.heap := T.keep _ _ _ st2 fun b _ o e => by rw [h3]; exact Heap.get?_push_of_some _ e
  have I4 := block_start I3 ok hN f3
  have pg := hg s3 H3 s3.heap.objs.size (cellsFrom (s3.heap.objs.size + 1) scope.names (cloFrom X.env.cells scope.names [])) fp
  have pt := ht s3 H3 s3.heap.objs.size (cellsFrom (s3.heap.objs.size + 1) scope.names (cloFrom X.env.cells scope.names [])) fp
  have pk := hk s3 H3 s3.heap.objs.size (cellsFrom (s3.heap.objs.size + 1) scope.names (cloFrom X.env.cells scope.names [])) fp
  have pe := he s3 H3 s3.heap.objs.size (cellsFrom (s3.heap.objs.size + 1) scope.names (cloFrom X.env.cells scope.names [])) fp
  have nfp : ∀ b ∈ fp, H3 b = none := fun b hb => (f3 b hb).1.1
  change codeAny _ _ (.compStart (.DictComp ek ev [⟨tg, iter, ifs, 0⟩] scope pos) 0 (.ref it) (.ref D) (compEnvC scope (cellsFrom ({ s2 with heap := s2.heap.push { cls := .type "dict", data := .dict #[] } } : Shared).heap.objs.size.succ scope.names (cloFrom X.env.cells scope.names [])) ({ s2 with heap := s2.heap.push { cls := .type "dict", data := .dict #[] } } : Shared).heap.objs.size X.env)) (compPost (model X.prog X.w) X.A X.xe us Qz (.ref D) ({ s2 with heap := s2.heap.push { cls := .type "dict", data := .dict #[] } } : Shared).heap.objs.size) { ({ s2 with heap := s2.heap.push { cls := .type "dict", data := .dict #[] } } : Shared) with heap := pushCells (({ s2 with heap := s2.heap.push { cls := .type "dict", data := .dict #[] } } : Shared).heap.push { cls := .type "dict", data := .dict #[] }) scope.names }
  rw [hs3]
  generalize hce : compEnvC scope (cellsFrom (s3.heap.objs.size + 1) scope.names (cloFrom X.env.cells scope.names [])) s3.heap.objs.size X.env = ce at I4 pg pt pk pe ⊢
  have cL : ce.locals = s3.heap.objs.size := by subst hce; rfl
  generalize hs4 : ({ s3 with heap := pushCells (s3.heap.push { cls := .type "dict", data := .dict #[] }) scope.names } : Shared) = s4 at I4 ⊢
  have st4 : tn 0 s4.heap := T.keep _ _ _ st3 fun b _ o e => by rw [← hs4]; exact pushCells_keeps _ _ _ _ (Heap.get?_push_of_some _ e)
  have stat : ∀ {σ' : L2.St} {H' : Hp} {s' : Shared}, Inv (X.blk s3 H3 scope ce fp) [] σ' H' s' → (∀ b ∈ fp, H' b = none) → ∀ b ∈ fp, FpOk (X.blk s3 H3 scope ce fp) [] H' b := fun {σ' H' s'} I' hn b hb =>
    ⟨hn b hb, (I'.ok.exf b hb).1, I'.ok.exfs b hb, .inl hb, fun x c e => (I'.ok.exf b hb).2 x c e, fun p hp => absurd (show p ∈ ([] : List (Addr × Obj)) ++ [] from hp) (by simp)⟩
  have loop : codeAny (model X.prog X.w) X.A (.compLoop (.DictComp ek ev [⟨tg, iter, ifs, 0⟩] scope pos) 0 (.ref it) (.ref D) ce) (compPost (model X.prog X.w) X.A X.xe us Qz (.ref D) s3.heap.objs.size) s4 := by
    refine compLoop_anyD (fun n s' => ∃ i H', Inv (X.blk s3 H3 scope ce fp) [] (wipe σ (own.map (·.2))) H' s' ∧ tn i s'.heap ∧ (∀ b ∈ fp, H' b = none) ∧ W i n H') ?_ m0 ⟨0, H3, I4, st4, nfp, w0⟩
    rintro n s5 ⟨i, H5, I5, st5, n5, w5⟩
    rcases turn i n H5 w5 with ⟨stop, qq⟩ | ⟨go, Nx, hNx, step⟩
    · refine thnF (T.done (X.blk s3 H3 scope ce fp) rfl rfl rfl hc i [] s5 _ H5 (fun _ _ => False) I5 (stat I5 n5) st5 stop) fun r s6 ⟨hr, I6⟩ => ?_
      subst hr
      have I7 : Inv X pins σ H5 s6 := I3.call' (ch := fp) I6.os I6.base I6.hok I6.bare fun b hb => ⟨(f3 b hb).1.2.2.2.1, (f3 b hb).1.2.1, (f3 b hb).1.2.2.2.2.1, (f3 b hb).1.2.2.2.2.2⟩
      have nC : H5 s3.heap.objs.size = none := by
        have z : H5 ce.locals = none := I6.free
        rwa [cL] at z
      obtain ⟨m, hn, _⟩ := I6.loc
      have hn : s6.heap.Ns ce.locals m := hn
      rw [cL] at hn
      exact hz D s3.heap.objs.size s6 m H5 I7 qq hn (I3.fpOk (Nat.le_refl _) nC)
    · refine thnF (T.item (X.blk s3 H3 scope ce fp) rfl rfl rfl hc i [] s5 _ H5 (fun _ _ => False) I5 (stat I5 n5) st5 go) fun r s6 ⟨u, hr, h6⟩ => ?_
      subst hr
      refine thnF h6 fun _ s7 ⟨x, H7, I7, r7, y7, st7, n7⟩ => ?_
      have I7' := I7.pinned (stat I7 n7) (T.obj _ _ st7)
      refine thnF (pg.run _ s7 _ H7 x u _ I7' r7 (step x H7 y7)) fun _ s8 ⟨σ8, H8, I8, hw8, q8⟩ => ?_
      refine thnF (pt.run _ s8 σ8 H8 _ I8 q8) fun b s9 ⟨H9, I9, q9⟩ => ?_
      have fin : ∀ (s' : Shared) (H' : Hp), Inv (X.blk s3 H3 scope ce fp) ([] ++ pinsAt fp s7.heap) σ8 H' s' → Nx H' → ∃ m, m < n ∧ ∃ i H', Inv (X.blk s3 H3 scope ce fp) [] (wipe σ (own.map (·.2))) H' s' ∧ tn i s'.heap ∧ (∀ b ∈ fp, H' b = none) ∧ W i m H' := fun s' H' I' nx => by
        obtain ⟨m', hm, w'⟩ := hNx H' nx
        have pin' : ∀ b ∈ fp, ∀ o, s7.heap.get? b = some o → s'.heap.get? b = some o ∧ H' b = none := fun b hb o e =>
          let z := I'.pin (b, o) (List.mem_append_right _ (List.mem_append_right _ (mem_pinsAt hb e)))
          ⟨z.1, z.2.1⟩
        have hl : (wipe σ (own.map (·.2))).length = σ8.length := by rw [← hw8, wipe_length]
        refine ⟨m', hm, i + 1, H', (I'.unpinned (pins := [])).weak hl (fun j v e => ?_), T.keep _ _ _ st7 fun b hb o e => (pin' b hb o e).1, fun b hb => ?_, w'⟩
        · rw [← hw8] at e
          exact (wipe_some e).1
        · obtain ⟨o, e, _⟩ := T.obj _ _ st7 b hb
          exact (pin' b hb o e).2
      cases b with
      | false => exact fin _ _ I9 (by simpa using q9)
      | true =>
        simp only [if_true] at q9 ⊢
        refine thnF (pk.run _ s9 σ8 H9 _ I9 q9) fun z s10 ⟨yv, H10, I10, r10, q10⟩ => ?_
        refine thnF (pe.run _ s10 σ8 H10 _ I10 q10) fun z2 s11 ⟨zv, H11, I11, r11, kvs, k, a, ey, ea, eD, hl, nx⟩ => ?_
        subst ey
        cases (show z = Value.ref a from r10)
        exact dt_put (Y := X.blk s3 H3 scope ce fp) (show X.A.units + 64 < cLine from hu) I11 eD hl ea r11 fun s12 I12 => fin s12 _ I12 nx
  exact codeAny_compStart_dict loop (T.self X.A 0 _ _ _ st4 loop)
/-- name = {(..): .. for ..}, the name a local -/
theorem ps_setDcT {i : Nat} {y : PySem.Str} {py : Pos} {ek ev tg iter : Expr} {ifs : List Expr} {scope : Scope} {own : List (PySem.Str × Nat)} {pos spos : Pos} {wi : TI} {g : TG} {tt : L2.TT} {tk tv : TE} (hu : X.A.units + 64 < cLine) (hc : X.calm = true) (hN : X.N.Nodup) (hy : X.N[i]? = some y) (hyl : X.env.scope.names.lookup y = some .local)
    (hsw : swapsWith (.DictComp ek ev [⟨tg, iter, ifs, 0⟩] scope pos) (some (.Name y py)) spos.line X.env = pure true) (hi : PI X tg iter wi) (ok : BlkOk X.N X.env.scope scope own)
    (hg : ∀ (s : Shared) (H : Hp) (C : Addr) (cl : List (PySem.Str × Addr)) (fp : List Addr), PG (X.blk s H scope (compEnvC scope cl C X.env) fp) tg g)
    (ht : ∀ (s : Shared) (H : Hp) (C : Addr) (cl : List (PySem.Str × Addr)) (fp : List Addr), PTs (X.blk s H scope (compEnvC scope cl C X.env) fp) ifs tt)
    (hk : ∀ (s : Shared) (H : Hp) (C : Addr) (cl : List (PySem.Str × Addr)) (fp : List Addr), PE (X.blk s H scope (compEnvC scope cl C X.env) fp) ek tk)
    (he : ∀ (s : Shared) (H : Hp) (C : Addr) (cl : List (PySem.Str × Addr)) (fp : List Addr), PE (X.blk s H scope (compEnvC scope cl C X.env) fp) ev tv) (hs : ∀ x, foldedSetIterable iter X.env x = pure x := by intro _; rfl) :
    PS X (.Assign [.Name y py] (.DictComp ek ev [⟨tg, iter, ifs, 0⟩] scope pos) spos) (tAsg (tDcT wi g tt tk tv (own.map (·.2))) (gName i)) := by
  refine ⟨fun pins s σ H D I h => ?_⟩
  rw [exec_Assign_Name_used _ _ _ _ hsw]
  refine wpAny_bind (wpAny_standAt (wpAny_bind ?_))
  show wpAny _ X.A (do let _ ← comprehension (.DictComp ek ev [⟨tg, iter, ifs, 0⟩] scope pos) scope X.env (firstIterPos [⟨tg, iter, ifs, 0⟩] pos) newDict false (eval iter X.env) (some (assign (.Name y py) X.env))) _ _ s
  have h : tDcT wi g tt tk tv (own.map (·.2)) σ H (fun x H1 => gName i x σ H1 D.nx) := h
  refine wpAny_bind (thn (dt_core (Qz := fun _ s' => SP X pins D .next s') hu hc hN I hi ok hg ht hk he hs h fun L C s' m H' I' q hn f => ?_) fun _ s' hq => wpAny_pure (wpAny_pure hq))
  show wpAny _ _ (assign (.Name y py) X.env (.ref L)) _ _ _
  refine wpAny_assign_Name (store_ok2 (v := V.ref L) I' hN hy (.inl hyl) rfl (fun s2 I2 ⟨a, sb, ha⟩ => ?_) (.inr hyl))
  obtain ⟨f0, f1, f2, f3, f4, f5⟩ := f
  have haC : C ≠ a := by
    rcases ha with z | z
    · rw [z]; exact f1
    · exact fun e => f4 y a z e.symm
  refine ⟨m, hn.sameBut sb haC, fun h3 sb3 => ?_⟩
  exact ⟨_, H', I2.turned (t' := s2.toks) (fun b o hb e => (sb3.2 b hb).trans e) f0 f1 f3 f4 f5, q⟩
end
/-! ### what such comprehensions make -/
theorem dc_it {J : It} {n : Nat} {G : Hp → Prop} {Y : Nat → Hp → V → Hp → Prop} (w : Walk J n G Y) {g : TG} {tt : L2.TT} {tk tv : TE} {vs : List Nat} {σ : L2.St} {H1 : Hp} {D : Addr} {Qd : Hp → Prop} (Pv : Nat → Hp → Prop) (h0 : Pv 0 (upd H1 D (.dK []))) (hl : ∀ i H, i ≤ n → Pv i H → G H)
    (hs : ∀ i x H H', i < n → Pv i H → Y i H x H' → g x (wipe σ vs) H' fun σ2 H2 => wipe σ2 vs = wipe σ vs ∧ tt σ2 H2 fun b H3 =>
      if b = true then tk σ2 H3 fun y H4 => tv σ2 H4 fun z H5 => ∃ kvs k, y = kV k ∧ H5 D = some (.dK kvs) ∧ kvs.length < sizeLine ∧ Pv (i + 1) (upd H5 D (.dK (putK kvs k z))) else Pv (i + 1) H3) (hd : ∀ H, Pv n H → Qd H) :
    ∃ W : Nat → Nat → Hp → Prop, (∃ m, W 0 m (upd H1 D (.dK []))) ∧ ∀ i m H, W i m H →
      (J.stop i H ∧ Qd H) ∨ (J.go i H ∧ ∃ Nx : Hp → Prop, (∀ H', Nx H' → ∃ m', m' < m ∧ W (i + 1) m' H') ∧ ∀ x H', J.yld i H x H' → g x (wipe σ vs) H' fun σ2 H2 => wipe σ2 vs = wipe σ vs ∧ tt σ2 H2 fun b H3 =>
        if b = true then tk σ2 H3 fun y H4 => tv σ2 H4 fun z H5 => ∃ kvs k, y = kV k ∧ H5 D = some (.dK kvs) ∧ kvs.length < sizeLine ∧ Nx (upd H5 D (.dK (putK kvs k z))) else Nx H3) := by
  refine ⟨fun i m H => i + m = n ∧ Pv i H, ⟨n, Nat.zero_add _, h0⟩, fun i m H ⟨e, p⟩ => ?_⟩
  by_cases hi : i < n
  · exact .inr ⟨w.goes i H hi (hl i H (by omega) p), Pv (i + 1), fun H' p' => ⟨m - 1, by omega, by omega, p'⟩, fun x H' y => hs i x H H' hi p (w.yields i H x H' hi (hl i H (by omega) p) y)⟩
  · have : i = n := by omega
    subst this
    exact .inl ⟨w.stops H (hl i H (Nat.le_refl _) p), hd H p⟩
theorem dt_it {J : It} {n : Nat} {G : Hp → Prop} {Y : Nat → Hp → V → Hp → Prop} (w : Walk J n G Y) {g : TG} {tt : L2.TT} {tk tv : TE} {vs : List Nat} {σ : L2.St} {H1 : Hp} {D : Addr} {Qd : Hp → Prop} (Pv : Nat → Hp → Prop) (h0 : Pv 0 (upd H1 D (.dT []))) (hl : ∀ i H, i ≤ n → Pv i H → G H)
    (hs : ∀ i x H H', i < n → Pv i H → Y i H x H' → g x (wipe σ vs) H' fun σ2 H2 => wipe σ2 vs = wipe σ vs ∧ tt σ2 H2 fun b H3 =>
      if b = true then tk σ2 H3 fun y H4 => tv σ2 H4 fun z H5 => ∃ kvs k a, y = .ref a ∧ H5 a = some (.tup (k.map kV)) ∧ H5 D = some (.dT kvs) ∧ kvs.length < sizeLine ∧ Pv (i + 1) (upd H5 D (.dT (putK kvs k z))) else Pv (i + 1) H3) (hd : ∀ H, Pv n H → Qd H) :
    ∃ W : Nat → Nat → Hp → Prop, (∃ m, W 0 m (upd H1 D (.dT []))) ∧ ∀ i m H, W i m H →
      (J.stop i H ∧ Qd H) ∨ (J.go i H ∧ ∃ Nx : Hp → Prop, (∀ H', Nx H' → ∃ m', m' < m ∧ W (i + 1) m' H') ∧ ∀ x H', J.yld i H x H' → g x (wipe σ vs) H' fun σ2 H2 => wipe σ2 vs = wipe σ vs ∧ tt σ2 H2 fun b H3 =>
        if b = true then tk σ2 H3 fun y H4 => tv σ2 H4 fun z H5 => ∃ kvs k a, y = .ref a ∧ H5 a = some (.tup (k.map kV)) ∧ H5 D = some (.dT kvs) ∧ kvs.length < sizeLine ∧ Nx (upd H5 D (.dT (putK kvs k z))) else Nx H3) := by
  refine ⟨fun i m H => i + m = n ∧ Pv i H, ⟨n, Nat.zero_add _, h0⟩, fun i m H ⟨e, p⟩ => ?_⟩
  by_cases hi : i < n
  · exact .inr ⟨w.goes i H hi (hl i H (by omega) p), Pv (i + 1), fun H' p' => ⟨m - 1, by omega, by omega, p'⟩, fun x H' y => hs i x H H' hi p (w.yields i H x H' hi (hl i H (by omega) p) y)⟩
  · have : i = n := by omega
    subst this
    exact .inl ⟨w.stops H (hl i H (Nat.le_refl _) p), hd H p⟩
theorem k_dcT {wi : TI} {g : TG} {tt : L2.TT} {tk tv : TE} {vs : List Nat} {σ : L2.St} {H : Hp} {Q : VK} (h : wi σ H fun J H1 => DtIn J g tt tk tv vs σ H1 Q) : tDcT wi g tt tk tv vs σ H Q := h
theorem nodup_take {α : Type} {l : List α} (nd : l.Nodup) {i : Nat} {k : α} (h : l[i]? = some k) : k ∉ l.take i := fun hm => by
  obtain ⟨j, hj, e⟩ := List.mem_take_iff_getElem.mp hm
  obtain ⟨hi, e2⟩ := List.getElem?_eq_some_iff.mp h
  have := List.pairwise_iff_getElem.mp nd j i (by omega) hi (by omega)
  exact this (e.trans e2.symm)
/-- {spot: True for spot in lefts} -/
theorem dcIn_lefts {J : It} {G : Hp → Prop} {ks : List Int} (w : Walk J ks.length G (YAt (ks.map V.int))) {j : Nat} {vs : List Nat} {σ : L2.St} {H1 : Hp} {Q : VK} (hG : ∀ H', Same H1 H' → G H') (nd : ks.Nodup) (hz : ks.length ≤ 10000000)
    (hw : ∀ x, wipe ((wipe σ vs).set j (some x)) vs = wipe σ vs) (hj : ∀ x, ((wipe σ vs).set j (some x))[j]? = some (some x))
    (fin : ∀ d H', H1 d = none → Same H1 H' → H' d = some (.dK (ks.map entB)) → Q (.ref d) H') : DcIn J (gName j) tYes (tVar j) (tC (.bl true)) vs σ H1 Q := fun D hD =>
  dc_it w (fun i H => Same H1 H ∧ H D = some (.dK ((ks.take i).map entB))) ⟨Same.new hD, upd_same⟩ (fun i H _ p => hG _ p.1)
    (fun i x H H' hi p y => by
      obtain ⟨s1, eD⟩ := p
      obtain ⟨rfl, hm⟩ := y
      rw [List.getElem?_map] at hm
      obtain ⟨k, hk, rfl⟩ := Option.map_eq_some_iff.mp hm
      refine k_gname ⟨hw _, k_tYes ?_⟩
      rw [if_pos rfl]
      refine k_var (hj _) (k_c ⟨_, .inl k, rfl, eD, ?_, fun c u e => ?_, ?_⟩)
      · rw [List.length_map, List.length_take, sizeLine_eq]
        omega
      · exact (upd_ne (ne_of_none e hD)).trans (s1 _ _ e)
      · rw [upd_same, putK_entB (nodup_take nd hk), List.take_succ, hk]
        rfl)
    (fun H p => by
      obtain ⟨s1, eD⟩ := p
      rw [List.take_length] at eD
      exact fin D H hD s1 eD)
theorem putK_entI {ps : List (Int × Int)} {k v : Int} (h : k ∉ ps.map (·.1)) : putK (ps.map entI) (.inl k) (.int v) = (ps ++ [(k, v)]).map entI := by
  have hn : valV (ps.map entI) (.inl k) = none := by
    cases e : valV (ps.map entI) (.inl k) with
    | none => rfl
    | some v =>
      obtain ⟨p, hp, e2⟩ := List.mem_map.mp (valV_mem e)
      exact absurd (List.mem_map.mpr ⟨p, hp, Sum.inl.inj (Prod.mk.inj e2).1⟩) h
  rw [putK_new _ hn, List.map_append]
  rfl
/-- {spot: many for spot, many in heaps} -/
theorem dcIn_prs {K : PySem.W.Frag} {a : Addr} {ts : List Addr} {hs : List (Int × Int)} {i j : Nat} {vs : List Nat} {σ : L2.St} {H0 H1 : Hp} {Q : VK} (ea : H1 a = some (.lst (ts.map V.ref))) (hp : Paired (PrI H0 H1) ts hs) (nd : (hs.map (·.1)).Nodup) (hz : hs.length ≤ 10000000)
    (hw : ∀ x y, wipe (((wipe σ vs).set i (some x)).set j (some y)) vs = wipe σ vs) (hi : ∀ x y, (((wipe σ vs).set i (some x)).set j (some y))[i]? = some (some x)) (hj : ∀ x y, (((wipe σ vs).set i (some x)).set j (some y))[j]? = some (some y))
    (fin : ∀ d H', H1 d = none → Same H1 H' → H' d = some (.dK (hs.map entI)) → Q (.ref d) H') : DcIn (Itl K a) (gTup K 2 (gCons (gName i) (gCons (gName j) gNil))) tYes (tVar i) (tVar j) vs σ H1 Q := fun D hD =>
  dc_it (walk_list (xs := ts.map V.ref)) (fun m H => Same H1 H ∧ H D = some (.dK ((hs.take m).map entI))) ⟨Same.new hD, upd_same⟩ (fun m H _ p => .inl (.inl (p.1 _ _ ea)))
    (fun m x H H' hm p y => by
      obtain ⟨s1, eD⟩ := p
      obtain ⟨rfl, hx⟩ := y
      rw [List.getElem?_map] at hx
      obtain ⟨t, ht, rfl⟩ := Option.map_eq_some_iff.mp hx
      obtain ⟨q, hq, _, et⟩ := Nd.paired_get hp ht
      refine k_gtup (.inl (.inl (s1 _ _ et))) rfl ?_
      refine k_gcons (k_gname (k_gcons (k_gname (k_gnil ?_))))
      refine ⟨hw _ _, k_tYes ?_⟩
      rw [if_pos rfl]
      have hno : q.1 ∉ (hs.take m).map (·.1) := by
        rw [List.map_take]
        exact nodup_take nd (by rw [List.getElem?_map, hq]; rfl)
      refine k_var (hi _ _) (k_var (hj _ _) ⟨_, .inl q.1, rfl, eD, ?_, fun c u e => ?_, ?_⟩)
      · rw [List.length_map, List.length_take, sizeLine_eq]
        omega
      · exact (upd_ne (ne_of_none e hD)).trans (s1 _ _ e)
      · rw [upd_same, putK_entI hno, List.take_succ, hq]
        rfl)
    (fun H p => by
      obtain ⟨s1, eD⟩ := p
      rw [List.length_map, pairs_len hp, List.take_length] at eD
      exact fin D H hD s1 eD)
/-! wishes: a dict whose keys are the pairs -/
theorem plW_inj {p q : Int × Int} (h : plW p = plW q) : p = q := by
  unfold plW at h
  injection h with h1 h2
  injection h2 with h2 h3
  exact Prod.ext (Sum.inl.inj h1) (Sum.inl.inj h2)
theorem valV_entW (ws : List (Int × Int)) (p : Int × Int) : (valV (ws.map entW) (plW p)).isSome = decide (p ∈ ws) := by
  induction ws with
  | nil => simp [valV]
  | cons x ws ih =>
    rw [List.map_cons]
    by_cases h : x = p
    · rw [valV_pos (show (entW x).1 = plW p by rw [h]; rfl)]
      simp [h]
    · rw [valV_neg (fun z => h (plW_inj z)), ih]
      simp [Ne.symm h]
theorem putK_entW {ws : List (Int × Int)} {p : Int × Int} (h : p ∉ ws) : putK (ws.map entW) (plW p) (.bl true) = (ws ++ [p]).map entW := by
  have hn : valV (ws.map entW) (plW p) = none := by
    have := valV_entW ws p
    rw [decide_eq_false h] at this
    cases e : valV (ws.map entW) (plW p) with
    | none => rfl
    | some v => rw [e] at this; cases this
  rw [putK_new _ hn, List.map_append]
  rfl
theorem dtIn_prs {K : PySem.W.Frag} {J : It} {G : Hp → Prop} {r : Addr} {xs : List V} {ws : List (Int × Int)} {i j : Nat} {vs : List Nat} {σ : L2.St} {H1 : Hp} {Q : VK} (w : Walk J xs.length G (YAt xs)) (hG : ∀ H', Same H1 H' → G H') (hall : Paired (PrA r H1) xs ws) (nd : ws.Nodup) (hz : ws.length ≤ 10000000)
    (hw : ∀ x y, wipe (((wipe σ vs).set i (some x)).set j (some y)) vs = wipe σ vs) (hi : ∀ x y, (((wipe σ vs).set i (some x)).set j (some y))[i]? = some (some x)) (hj : ∀ x y, (((wipe σ vs).set i (some x)).set j (some y))[j]? = some (some y))
    (fin : ∀ d H', H1 d = none → Same H1 H' → H' d = some (.dT (ws.map entW)) → Q (.ref d) H') : DtIn J (gAny K 2 (gCons (gName i) (gCons (gName j) gNil))) tYes (tTup (tCons (tVar i) (tCons (tVar j) tNil))) (tC (.bl true)) vs σ H1 Q := fun D hD =>
  dt_it w (fun m H => Same H1 H ∧ H D = some (.dT ((ws.take m).map entW))) ⟨Same.new hD, upd_same⟩ (fun m H _ p => hG _ p.1)
    (fun m x H H' hm p y => by
      obtain ⟨s1, eD⟩ := p
      obtain ⟨rfl, hx⟩ := y
      obtain ⟨q, hq, f⟩ := Nd.paired_get hall hx
      refine (f.same s1).any ?_
      refine k_gcons (k_gname (k_gcons (k_gname (k_gnil ?_))))
      refine ⟨hw _ _, k_tYes ?_⟩
      rw [if_pos rfl]
      refine k_tup (k_cons (k_var (hi _ _) (k_cons (k_var (hj _ _) (k_nil ⟨small64 (by simp), fun b hb => ?_⟩)))))
      generalize hU : upd H' b _ = H2
      obtain ⟨s2, e2⟩ := upd_facts hU hb
      refine k_c ⟨_, plW q, b, rfl, e2, s2 _ _ eD, ?_, fun c u e => ?_, ?_⟩
      · rw [List.length_map, List.length_take, sizeLine_eq]
        omega
      · exact (upd_ne (ne_of_none e hD)).trans (s2 _ _ (s1 _ _ e))
      · rw [upd_same, putK_entW (nodup_take nd hq), List.take_succ, hq]
        rfl)
    (fun H p => by
      obtain ⟨s1, eD⟩ := p
      rw [pairs_len hall, List.take_length] at eD
      exact fin D H hD s1 eD)
/-- over ints: a new pair each -/
theorem lcIn_ksTw {K : PySem.W.Frag} {a : Addr} {ks : List Int} {j : Nat} {te : TE} {vs : List Nat} {σ : L2.St} {H1 : Hp} {Q : VK} (f : Int → Int) (hx : H1 a = some (.lst (ks.map V.int))) (hz : ks.length ≤ 5000000)
    (hw : ∀ x, wipe ((wipe σ vs).set j (some x)) vs = wipe σ vs)
    (step : ∀ (k : Int) (H2 : Hp), k ∈ ks → Same H1 H2 → ∀ QE : VK, (∀ H4 b, Same H2 H4 → H2 b = none → H4 b = some (.tup [.int k, .int (f k)]) → QE (.ref b) H4) → te ((wipe σ vs).set j (some (.int k))) H2 QE)
    (fin : ∀ (p : Addr) (H' : Hp) (ts : List Addr), H1 p = none → Same H1 H' → H' p = some (.lst (ts.map V.ref)) → Paired (PrI H1 H') ts (ks.map fun k => (k, f k)) → Q (.ref p) H') :
    LcIn (Itl K a) (gName j) tYes te vs σ H1 Q := fun D hD =>
  lc_it walk_list (fun m H => Same H1 H ∧ ∃ ts : List Addr, H D = some (.lst (ts.map V.ref)) ∧ Paired (PrI H1 H) ts ((ks.take m).map fun k => (k, f k))) ⟨Same.new hD, [], upd_same, .nil⟩ (fun m H _ p => .inl (.inl (p.1 _ _ hx)))
    (fun m x H H' hm p y => by
      obtain ⟨rfl, hx⟩ := y
      obtain ⟨s1, ts, eD, hp⟩ := p
      rw [List.getElem?_map] at hx
      obtain ⟨k, hk, rfl⟩ := Option.map_eq_some_iff.mp hx
      refine k_gname ?_
      refine ⟨hw _, k_tYes ?_⟩
      rw [if_pos rfl]
      refine step k _ (List.mem_of_getElem? hk) s1 _ fun H4 b s4 nb eb => ?_
      have eD4 := s4 _ _ eD
      refine ⟨_, eD4, ?_, fun c o e => ?_, ts ++ [b], ?_, ?_⟩
      · rw [List.length_map, pairs_len hp, List.length_map, List.length_take]
        rw [List.length_map] at hm
        exact Nat.lt_of_le_of_lt (Nat.min_le_left _ _) (Nat.lt_of_lt_of_le hm (Nat.le_trans hz (by decide)))
      · rw [upd_ne (ne_of_none e hD)]
        exact s4 _ _ (s1 _ _ e)
      · rw [upd_same, List.map_append]
        rfl
      · have ne : ∀ {c : Addr} {zs : List V}, H4 c = some (.tup zs) → c ≠ D := fun e z => by
          rw [z, eD4] at e
          cases e
        rw [List.take_succ, hk, List.map_append]
        exact Paired.snoc (pairs_mono (fun _ _ h => ⟨h.1, (upd_ne (ne (s4 _ _ h.2))).trans (s4 _ _ h.2)⟩) hp) ⟨s1.free nb, (upd_ne (ne eb)).trans eb⟩)
    (fun H' p => by
      obtain ⟨s1, ts, eD, hp⟩ := p
      rw [List.length_map, List.take_length] at hp
      exact fin D H' ts hD s1 eD hp)
/-! ### wishes: pairs of ints, none twice -/
def plD (d : PyData) : List Int := [(pairD d).1, (pairD d).2]
def int2D (d : PyData) : Bool := areIntsD d 2
def unlikeD (d : PyData) : Bool := match itemsD d with
  | some xs => xs.all (fun x => areIntsD x 2) && decide ((xs.map plD).Nodup)
  | none => false
def spUnlike : Sp := fun vs H Q _ => ∃ (r : Addr) (v : V) (d : PyData), vs = [v] ∧ Dr r H v d ∧ lenOk2 d ∧ (∀ xs, itemsD d = some xs → xs.length ≤ 62) ∧ ∀ H', Same H H' → Q (.bl (unlikeD d)) H'
theorem plD_map : ∀ {ds : List PyData} {ws : List (Int × Int)}, Paired hpD ds ws → ds.map plD = ws.map fun p => [p.1, p.2]
  | _, _, .nil => rfl
  | _, _, .cons h t => by
    rw [List.map_cons, List.map_cons, plD_map t]
    unfold plD
    rw [pairD_of h]
theorem Hs.drW {r : Addr} {H : Hp} {v : V} {ws : List (Int × Int)} (h : Hs r H v ws) (nd : ws.Nodup) (hl : ws.length ≤ 62) : ∃ d, Dr r H v d ∧ lenOk2 d ∧ (∀ xs, itemsD d = some xs → xs.length ≤ 62) ∧ unlikeD d = true := by
  obtain ⟨a, xs, rfl, n, e, hp⟩ := h.ex
  obtain ⟨ds, h1, h2⟩ := prAs_dr hp
  have hlen := pairs_len h2
  have key : ∀ d, itemsD d = some ds → lenOk2 d ∧ (∀ xs, itemsD d = some xs → xs.length ≤ 62) ∧ unlikeD d = true := fun d e => by
    have hall : ∀ x ∈ ds, ∃ p ∈ ws, hpD x p := fun x hx => by
      obtain ⟨i, hi⟩ := List.mem_iff_getElem?.mp hx
      obtain ⟨p, hp, hq⟩ := Nd.paired_get h2 hi
      exact ⟨p, List.mem_of_getElem? hp, hq⟩
    have hmap : ds.map plD = ws.map fun p => [p.1, p.2] := plD_map h2
    refine ⟨⟨fun xs e2 => ?_, fun xs e2 x hx => ?_⟩, fun xs e2 => ?_, ?_⟩
    · rw [e] at e2
      cases e2
      omega
    · rw [e] at e2
      cases e2
      obtain ⟨p, _, hp⟩ := hall x hx
      intro ys ey
      rw [show itemsD x = some [.int p.1, .int p.2] from hp] at ey
      cases ey
      exact Nat.le_of_ble_eq_true rfl
    · rw [e] at e2
      cases e2
      omega
    · unfold unlikeD
      rw [e]
      simp only [Bool.and_eq_true, decide_eq_true_eq]
      refine ⟨List.all_eq_true.mpr fun x hx => ?_, ?_⟩
      · obtain ⟨p, _, hp⟩ := hall x hx
        unfold areIntsD
        rw [show itemsD x = some [.int p.1, .int p.2] from hp]
        rfl
      · rw [hmap, List.Nodup, List.pairwise_map]
        exact nd.imp fun h z => h (Prod.ext (List.cons.inj z).1 (List.cons.inj (List.cons.inj z).2).1)
  rcases e with e | e
  · obtain ⟨k1, k2, k3⟩ := key (.list ds) rfl
    exact ⟨.list ds, .lst n e h1, k1, k2, k3⟩
  · obtain ⟨k1, k2, k3⟩ := key (.tuple ds) rfl
    exact ⟨.tuple ds, .tup n e h1, k1, k2, k3⟩
def WishOk (ws : List (Int × Int)) (col lo hi : Int) (t : Nat) : Prop := 0 ≤ col ∧ col < 2 ∧ -999900 ≤ lo ∧ lo ≤ 999900 ∧ lo ≤ hi ∧ hi ≤ lo + 80 ∧ t ≤ 10 ∧ ws.Nodup ∧ ws.length ≤ 62 ∧ ∀ p ∈ ws, (lo ≤ p.1 ∧ p.1 ≤ hi) ∧ (0 ≤ p.2 ∧ p.2 < t) ∧ (p.1 + p.2) % 2 = col
def spNeedWish : Sp := fun vs H Q _ => ∃ (r : Addr) (x v : V) (ks : List Int) (ws : List (Int × Int)) (col lo hi : Int) (t : Nat), vs = [x, v, .int col, .int lo, .int hi, .int (t : Int)] ∧ LfS r H x ks ∧ Hs r H v ws ∧ WishOk ws col lo hi t ∧ ∀ H', Same H H' → Q .non H'
def spStartFor : Sp := fun vs H Q _ => ∃ (r : Addr) (x v : V) (ks : List Int) (ws : List (Int × Int)) (col lo hi : Int) (t : Nat), vs = [x, v, .int col, .int lo, .int hi, .int (t : Int)] ∧ LfS r H x ks ∧ Hs r H v ws ∧ WishOk ws col lo hi t ∧
  ∀ H' a ts ss, Same H H' → H a = none → TupP H' a (ts.map V.ref) → Paired (PrI H H') ts ss → Grants ks ws col (fun _ => lo) (fun _ => hi) t ss → Q (.ref a) H'
def spAreHeapsL : Sp := fun vs H Q _ => ∃ (a : Addr) (ts : List Addr) (ss : List (Int × Int)) (col : Int), vs = [.ref a, .int col] ∧ TupP H a (ts.map V.ref) ∧ Paired (fun (t : Addr) (p : Int × Int) => H t = some (.tup [.int p.1, .int p.2])) ts ss ∧ ss.Pairwise (fun p q => p.1 < q.1) ∧ ss.length ≤ 60 ∧
  (∀ p ∈ ss, okHeap p = true ∧ p.1 % 2 = col) ∧ ∀ H', Same H H' → Q (.bl true) H'
end Nd

namespace SrtO
open PySem PySem.Spec PyProof.Rows L2 Srt
section
variable {prog : Program} {w : World} {A : Around} {E : Value → Shared → Prop} {s : Shared}
/-- sorted(t), t a tuple of pairs of ints -/
theorem sorted_ofTup {it : Addr} {o : Obj} {vs : List Value} {n : Nat} {k : Value → Int × Int} {Q : Value → Shared → Prop} (ho : s.heap.get? it = some o) (hc : o.cls = .type "tuple") (hd : o.data = .seq vs.toArray n) (hz : vs.length ≤ sizeLine) (hp : ∀ v ∈ vs, Srt.IsPair s.heap v (k v).1 (k v).2)
    (h : ∀ (h1 h' : Heap) (out : List Value), Srtd (fun v u => lexB (k v) (k u)) out → Stb (fun v u => lexB (k v) (k u)) out vs → (∀ b o, s.heap.get? b = some o → h1.get? b = some o) → (∀ b o, h1.get? b = some o → h'.get? b = some o) → (∃ n, h'.get? h1.objs.size = some (seqObj "list" out.toArray n)) → Q (.ref h1.objs.size) { s with heap := h' }) :
    wpAny (model prog w) A (call (.builtin "sorted") [.ref it]) Q E s := by
  refine Calls.call_function_entry kind_sorted plain_sorted entry_sorted (args_sorted1 _) ?_
  unfold Builtin.«sorted»
  refine wpAny_bind (m := checkCount "sorted" 1 1 _) (wpAny_pure ?_)
  refine wpAny_bind (wpAny_collect_seq it (.inr rfl) ho hc hd (fun h1 kp => ?_) (by rw [List.size_toArray]; exact hz))
  refine wpAny_bind (wpAny_newList ?_ hz)
  have hoL : (h1.push (seqObj "list" vs.toArray 0)).get? h1.objs.size = some (seqObj "list" vs.toArray 0) := Heap.get?_push_size _ rfl
  have keep : ∀ b o, s.heap.get? b = some o → b ≠ h1.objs.size ∧ (h1.push (seqObj "list" vs.toArray 0)).get? b = some o := fun b o e => ⟨Nat.ne_of_lt (Heap.lt_size (kp b o e)), Heap.get?_push_of_some _ (kp b o e)⟩
  have ne : (h1.push (seqObj "list" vs.toArray 0)).objs.size = h1.objs.size + 1 := size_push' ..
  refine wpAny_bind (wpAny_holding (wpAny_call_entry (s := { s with heap := h1.push (seqObj "list" vs.toArray 0) }) slot_list_sort ⟨_, hoL, rfl⟩ entry_list_sort
    (list_sort_ord (s := { s with heap := h1.push (seqObj "list" vs.toArray 0) }) (swo_lex k) hoL hz (fun h2 => pairs_sortableO (s := { s with heap := h1.push (seqObj "list" vs.toArray 0) }) (by omega) (fun v hm => (hp v hm).keeps fun b o e _ => (keep b o e).2) fun o e => ?_) fun out hs hb => ⟨_, rfl, ?_⟩) (args_list_sort _)))
  · have e' : some o = some (seqObj "list" vs.toArray 0) := e.symm.trans hoL
    cases e'
    intro c
    exact absurd (Value.type.inj c) (by decide)
  · refine wpAny_pure ⟨_, rfl, h h1 (sortedHeap (h1.push (seqObj "list" vs.toArray 0)) h1.objs.size vs out.toArray) out hs hb kp (fun b o e => ?_) (sortedHeap_at hoL)⟩
    rw [sortedHeap_old (Nat.ne_of_lt (Heap.lt_size e)) (by rw [ne]; exact Nat.lt_succ_of_lt (Heap.lt_size e))]
    exact Heap.get?_push_of_some _ e
end
end SrtO
namespace Nd
open PySem PySem.Spec PyProof.Rows L2
/-- sorted(t), t a tuple of pairs of ints (k says which): a new list -/
def rSortedTP (K : PySem.W.Frag) : List V → Hp → VK → Prop := fun vs H Q => ∃ (a : Addr) (xs : List V) (k : V → Int × Int), vs = [V.ref a] ∧ SqT K H a xs ∧ (∀ x ∈ xs, ∃ t, x = V.ref t ∧ H t = some (.tup [.int (k x).1, .int (k x).2])) ∧
  ∀ ys p, SrtO.Srtd (ltP k) ys → SrtO.Stb (ltP k) ys xs → H p = none → Q (.ref p) (upd H p (.lst ys))
section
variable {X : Cx}
theorem cr_sortedTP : CallR X (.builtin "sorted") (rSortedTP X.K) := by
  intro pins s σ H vs us Q I r ⟨a, xs, k, e0, hs, hx, q⟩
  subst e0
  obtain ⟨its, rv, ⟨o, ho, hc, n, hd⟩, hz⟩ := I.tuple hs
  obtain rfl := Vals.ref1 r
  obtain ⟨e1, e2⟩ := refs_back rv fun x m => (hx x m).imp fun t h => h.1
  have isP : ∀ v ∈ its, Srt.IsPair s.heap v (k (backV v)).1 (k (backV v)).2 := fun v hv => by
    obtain ⟨t, rfl⟩ := e2 v hv
    obtain ⟨t', e, ht⟩ := hx (V.ref t) (by rw [e1]; exact List.mem_map.mpr ⟨_, hv, rfl⟩)
    cases e
    obtain ⟨_, its2, r2, o2, ho2, hc2, n2, hd2⟩ := I.hok _ _ ht
    obtain ⟨u1, u2, rfl, ⟨t1, rfl⟩, t2, rfl⟩ := vals2 r2
    exact ⟨t, o2, t1, t2, n2, rfl, ho2, hc2, hd2⟩
  refine SrtO.sorted_ofTup (k := fun u => k (backV u)) ho hc hd (by rw [← rv.length]; exact hz) isP fun hq h' out h1 h2 kp kq ⟨n3, ed⟩ => ?_
  have h3 : ∀ u ∈ out, ∃ a, u = Value.ref a := fun u hu => e2 u (h2.perm.mem_iff.mp hu)
  have hb : SrtO.Stb (ltP k) (out.map backV) xs := by
    rw [e1]
    exact SrtO.Stb.map (ltP_swo k) backV h2
  have I1 : Inv X pins σ H { s with heap := hq } := I.kept (t' := s.toks) kp
  refine ⟨.ref hq.objs.size, upd H hq.objs.size (.lst (out.map backV)), I1.laid (t' := s.toks) kq (Nat.le_refl _) ⟨?_, out, n3, vals_back h3, ed⟩, rfl, q _ _ (SrtO.srtd_map h1) hb (I1.hok.fresh (Nat.le_refl _))⟩
  rw [hb.len]
  exact hz
end
/-- sorted(t): pairs, by their first then by their second -/
theorem k_sortedTP {K : PySem.W.Frag} {a : Addr} {ts : List Addr} {ps : List (Int × Int)} {H : Hp} {Q : VK} (ea : SqT K H a (ts.map V.ref)) (hp : Paired (fun (t : Addr) (p : Int × Int) => H t = some (.tup [.int p.1, .int p.2])) ts ps) (srt : ps.Pairwise fun p q => p.1 < q.1)
    (q : ∀ p, H p = none → Q (.ref p) (upd H p (.lst (ts.map V.ref)))) : rSortedTP K [.ref a] H Q := by
  have hk : ∀ {t : Addr} {p : Int × Int}, H t = some (.tup [.int p.1, .int p.2]) → keyAt H (.ref t) = p := fun h => keyAt_of h
  refine ⟨a, _, keyAt H, rfl, ea, fun x hx => ?_, fun ys p s1 stb np => ?_⟩
  · obtain ⟨t, ht, rfl⟩ := List.mem_map.mp hx
    obtain ⟨y, _, h⟩ := pairs_memL hp ht
    exact ⟨t, rfl, by rw [hk h]; exact h⟩
  · have hs0 : SrtO.Srtd (ltP (keyAt H)) (ts.map V.ref) := by
      refine List.pairwise_map.mpr ?_
      have e : ts.map (fun t => keyAt H (.ref t)) = ps := by
        clear ea s1 stb q
        induction hp with
        | nil => rfl
        | cons h _ ih =>
          rw [List.map_cons, hk h, ih (List.pairwise_cons.mp srt).2]
      have := srt
      rw [← e] at this
      refine (List.pairwise_map.mp this).imp fun {x y} h => ?_
      refine SrtO.lexB_no.mpr ?_
      omega
    have : ys = ts.map V.ref := SrtO.stb_uniq (ltP_swo _) s1 hs0 stb
    rw [this]
    exact q p np
theorem off_list : ∀ l : List Nat, ∃ r : Nat, ∀ t ∈ l, t < r
  | [] => ⟨0, fun _ h => nomatch h⟩
  | x :: l => by
    obtain ⟨r, h⟩ := off_list l
    refine ⟨max (x + 1) r, fun t ht => ?_⟩
    rcases List.mem_cons.mp ht with rfl | ht
    · omega
    · have := h t ht
      omega
theorem off_addr (a : Addr) (ts : List Addr) : ∃ r : Addr, a ≠ r ∧ ∀ t ∈ ts, t ≠ r := by
  obtain ⟨r, h⟩ := off_list (a :: ts)
  exact ⟨r, Nat.ne_of_lt (h a List.mem_cons_self), fun t ht => Nat.ne_of_lt (h t (List.mem_cons_of_mem _ ht))⟩
theorem eqv_pDl (ps : List (Int × Int)) : PyData.eqv (.list (ps.map pD)) (.list (ps.map pD)) = true := eqv_pDs ps
def spGrantedL : Sp := fun vs H Q _ => ∃ (r : Addr) (v x : V) (aw : Addr) (tw : List Addr) (hs : List (Int × Int)) (ks : List Int) (ws : List (Int × Int)) (lo hi : Int) (t : Nat), vs = [v, x, .ref aw, .int lo, .int hi, .int (t : Int)] ∧ Hs r H v hs ∧ OkHs hs ∧ LfS r H x ks ∧ t ≤ 10 ∧
  H aw = some (.lst (tw.map V.ref)) ∧ Paired (fun (b : Addr) (p : Int × Int) => H b = some (.tup [.int p.1, .int p.2])) tw ws ∧
  (∀ hs' ls, hs'.Perm hs → Asc hs' → ls.Perm ks → (foundL (fun n => oddsL (its n (hs', ls)).1 (its n (hs', ls)).2) lo hi t).Perm ws) ∧ ∀ H', Same H H' → Q (.bl true) H'
/-! ### what is granted is what is found -/
theorem oddsL_mem {A : List (Int × Int)} {L : List Int} (a : Asc A) (s : Int) : (∃ y, (s, y) ∈ oddsL A L) ↔ Nd.cnt A 0 s % 2 = 1 := by
  unfold oddsL
  constructor
  · rintro ⟨y, h⟩
    obtain ⟨p, hp, e⟩ := List.mem_map.mp h
    obtain ⟨h1, h2⟩ := List.mem_filter.mp hp
    obtain ⟨rfl, _⟩ := Prod.mk.inj e
    rw [cnt_zero_at (asc_nodup a) h1]
    exact of_decide_eq_true h2
  · intro h
    have hin : s ∈ A.map (·.1) := Classical.byContradiction fun z => by
      rw [cnt_zero_off z] at h
      cases h
    obtain ⟨p, hp, rfl⟩ := List.mem_map.mp hin
    rw [cnt_zero_at (asc_nodup a) hp] at h
    exact ⟨_, List.mem_map.mpr ⟨p, List.mem_filter.mpr ⟨hp, decide_eq_true h⟩, rfl⟩⟩
theorem oddsL_keys {A : List (Int × Int)} {L : List Int} (a : Asc A) : ((oddsL A L).map (·.1)).Nodup := by
  unfold oddsL
  rw [List.map_map]
  exact (asc_nodup a).sublist ((List.filter_sublist).map _)
theorem foundL_nodup {F : Nat → List (Int × Int)} {lo hi : Int} : ∀ {t : Nat}, (∀ n, n < t → ((F n).map (·.1)).Nodup) → (foundL F lo hi t).Nodup
  | 0, _ => List.nodup_nil
  | t + 1, h => by
    rw [foundL_succ, List.nodup_append]
    refine ⟨foundL_nodup fun n hn => h n (by omega), ?_, fun a ha b hb e => ?_⟩
    · unfold fieldL
      have h1 : (((F t).filter fun p => decide (lo ≤ p.1 ∧ p.1 ≤ hi)).map (·.1)).Nodup := (h t (by omega)).sublist ((List.filter_sublist).map _)
      rw [List.Nodup, List.pairwise_map] at h1 ⊢
      exact h1.imp fun h z => h (Prod.mk.inj z).1
    · have h1 := foundL_mem ha
      unfold fieldL at hb
      obtain ⟨q, _, rfl⟩ := List.mem_map.mp hb
      subst e
      have : (t : Int) < t := h1.2.2.2
      omega
theorem foundL_in {F : Nat → List (Int × Int)} {lo hi : Int} {t : Nat} {p : Int × Int} : p ∈ foundL F lo hi t ↔ ∃ n : Nat, n < t ∧ p.2 = (n : Int) ∧ (∃ y, (p.1, y) ∈ F n) ∧ lo ≤ p.1 ∧ p.1 ≤ hi := by
  unfold foundL fieldL
  rw [List.mem_flatMap]
  constructor
  · rintro ⟨n, hn, h⟩
    obtain ⟨q, hq, rfl⟩ := List.mem_map.mp h
    obtain ⟨h1, h2⟩ := List.mem_filter.mp hq
    have h2 := of_decide_eq_true h2
    exact ⟨n, List.mem_range.mp hn, rfl, ⟨q.2, h1⟩, h2.1, h2.2⟩
  · rintro ⟨n, hn, e, ⟨y, hy⟩, h1, h2⟩
    exact ⟨n, List.mem_range.mpr hn, List.mem_map.mpr ⟨(p.1, y), List.mem_filter.mpr ⟨hy, decide_eq_true ⟨h1, h2⟩⟩, Prod.ext rfl e.symm⟩⟩
theorem Grants.found {L : List Int} {ws : List (Int × Int)} {col lo hi : Int} {t : Nat} {ss : List (Int × Int)} (g : Grants L ws col (fun _ => lo) (fun _ => hi) t ss) (nd : ws.Nodup) (hw : ∀ p ∈ ws, (lo ≤ p.1 ∧ p.1 ≤ hi) ∧ (0 ≤ p.2 ∧ p.2 < t) ∧ (p.1 + p.2) % 2 = col)
    (hs' : List (Int × Int)) (ls : List Int) (p1 : hs'.Perm ss) (a : Asc hs') (p2 : ls.Perm L) : (foundL (fun n => oddsL (its n (hs', ls)).1 (its n (hs', ls)).2) lo hi t).Perm ws := by
  have e1 : (Nd.cnt hs' 0, fun x => decide (x ∈ ls)) = f0 ss L := Prod.ext (funext fun k => cnt_perm p1 0 k) (funext fun x => decide_eq_decide.mpr p2.mem_iff)
  have hc : ∀ n, Nd.cnt (its n (hs', ls)).1 0 = (itF n (f0 ss L)).1 := fun n => by rw [← e1]; exact (its_fun a n).1
  have hp0 : ∀ k, (f0 ss L).1 k ≠ 0 → k % 2 = col := fun k hk => by
    have hin : k ∈ ss.map (·.1) := Classical.byContradiction fun z => hk (cnt_zero_off z)
    obtain ⟨p, hp, rfl⟩ := List.mem_map.mp hin
    exact (g.sp p hp).2.2.1
  refine (List.perm_ext_iff_of_nodup (foundL_nodup fun n _ => oddsL_keys (its_asc a n)) nd).mpr fun p => ?_
  rw [foundL_in]
  constructor
  · rintro ⟨n, hn, e, hy, h1, h2⟩
    rw [oddsL_mem (its_asc a n), hc] at hy
    have hpar := itF_par hp0 n p.1 (by omega)
    have := (g.odd n hn p.1 h1 h2 hpar).mp hy
    rw [← e] at this
    exact this
  · intro h
    obtain ⟨⟨h1, h2⟩, ⟨h3, h4⟩, h5⟩ := hw p h
    refine ⟨p.2.toNat, by omega, by omega, ?_, h1, h2⟩
    rw [oddsL_mem (its_asc a _), hc]
    refine (g.odd p.2.toNat (by omega) p.1 h1 h2 (by omega)).mpr ?_
    rw [Int.toNat_of_nonneg h3]
    exact h
theorem lcIn_rfK {K : PySem.W.Frag} {a r : Addr} {ks : List Addr} {N kd j : Nat} {tt : L2.TT} {te : TE} {vs : List Nat} {σ : L2.St} {H1 : Hp} {Q : VK} (R : Rid r N H1) (na : a ≠ r) (hx : H1 a = some (.lst (ks.map V.ref))) (hn : ks.length ≤ 50000)
    (hw : ∀ x, wipe ((wipe σ vs).set j (some x)) vs = wipe σ vs)
    (step : ∀ (m : Nat) (k : Addr) (H2 : Hp), ks[m]? = some k → Gr r H1 H2 → Rid r (N + kd * m) H2 → ∀ (QE : VK) (Z : Hp → Prop), (∀ H4, Gr r H2 H4 → Rid r (N + kd * (m + 1)) H4 → QE (.ref k) H4) → (∀ H4, Gr r H2 H4 → Rid r (N + kd * (m + 1)) H4 → Z H4) →
      tt ((wipe σ vs).set j (some (.ref k))) H2 fun b H3 => if b = true then te ((wipe σ vs).set j (some (.ref k))) H3 QE else Z H3)
    (fin : ∀ p H' (ls : List Addr), H1 p = none → Gr r H1 H' → Rid r (N + kd * ks.length) H' → H' p = some (.lst (ls.map V.ref)) → ls.Sublist ks → Q (.ref p) H') :
    LcIn (Itl K a) (gName j) tt te vs σ H1 Q := fun D hD =>
  have nD := R.ne hD
  have eR : ∃ u, H1 r = some u := by
    obtain ⟨c, ns, a, z, h1, h2, _⟩ := R.ex
    exact ⟨_, h2⟩
  lc_it walk_list (fun m H => Gr r H1 H ∧ Rid r (N + kd * m) H ∧ ∃ ls : List Addr, H D = some (.lst (ls.map V.ref)) ∧ ls.Sublist (ks.take m)) ⟨Gr.new hD, R.new hD, [], upd_same, List.Sublist.refl _⟩ (fun m H _ p => .inl (.inl (p.1.all _ _ na hx)))
    (fun m x H H' hm p y => by
      obtain ⟨rfl, hx'⟩ := y
      rw [List.getElem?_map] at hx'
      obtain ⟨k, hk, rfl⟩ := Option.map_eq_some_iff.mp hx'
      obtain ⟨g1, Rm, ls, eD, hsub⟩ := p
      have htk : ks.take (m + 1) = ks.take m ++ [k] := by rw [List.take_succ, hk]; rfl
      have hl : ls.length ≤ m := Nat.le_trans hsub.length_le (by rw [List.length_take]; exact Nat.min_le_left _ _)
      have hmn : m < ks.length := (List.getElem?_eq_some_iff.mp hk).1
      refine k_gname ?_
      refine ⟨hw _, ?_⟩
      refine step m k _ hk g1 Rm _ _ (fun H4 g4 R4 => ?_) fun H4 g4 R4 => ?_
      · have eD4 := g4.all _ _ nD eD
        have gz := g1.trans g4
        refine ⟨_, eD4, ?_, grPutNew gz hD eR, (ridN_of R gz R4 hD).put.rid, ls ++ [k], ?_, ?_⟩
        · rw [List.length_map]
          exact Nat.lt_of_le_of_lt hl (Nat.lt_of_lt_of_le hmn (Nat.le_trans hn (by decide)))
        · rw [upd_same, List.map_append]
          rfl
        · rw [htk]
          exact hsub.append (List.Sublist.refl _)
      · refine ⟨g1.trans g4, R4, ls, g4.all _ _ nD eD, ?_⟩
        rw [htk]
        exact hsub.trans (List.sublist_append_left _ _))
    (fun H' p => by
      obtain ⟨g1, Rm, ls, eD, hsub⟩ := p
      rw [List.length_map] at Rm hsub
      rw [List.take_length] at hsub
      exact fin D H' ls hD g1 Rm eD hsub)
/-- over a range: those that pass the test, a new pair of ints of each -/
theorem lcIn_rgP {n j : Nat} {lo : Int} {tt : L2.TT} {te : TE} {vs : List Nat} {σ : L2.St} {H1 : Hp} {Q : VK} (c : Nat → Bool) (f : Nat → Int × Int) (hn : n ≤ 50000)
    (hw : ∀ x, wipe ((wipe σ vs).set j (some x)) vs = wipe σ vs)
    (step : ∀ (m : Nat) (H2 : Hp), m < n → Same H1 H2 → ∀ (QE : VK) (Z : Hp → Prop), (c m = true → ∀ H4 b, Same H2 H4 → H2 b = none → H4 b = some (.tup [.int (f m).1, .int (f m).2]) → QE (.ref b) H4) → (c m = false → ∀ H4, Same H2 H4 → Z H4) →
      tt ((wipe σ vs).set j (some (.int (lo + (m : Int))))) H2 fun b H3 => if b = true then te ((wipe σ vs).set j (some (.int (lo + (m : Int))))) H3 QE else Z H3)
    (fin : ∀ (p : Addr) (H' : Hp) (ts : List Addr), H1 p = none → Same H1 H' → H' p = some (.lst (ts.map V.ref)) → Paired (PrI H1 H') ts (((List.range n).filter c).map f) → Q (.ref p) H') :
    LcIn (Itr lo n) (gName j) tt te vs σ H1 Q := fun D hD =>
  lc_it (walk_range (lo := lo) (n := n)) (fun m H => Same H1 H ∧ ∃ ts : List Addr, H D = some (.lst (ts.map V.ref)) ∧ ts.length ≤ m ∧ Paired (PrI H1 H) ts (((List.range m).filter c).map f)) ⟨Same.new hD, [], upd_same, Nat.le_refl _, .nil⟩ (fun _ _ _ _ => trivial)
    (fun m x H H' hm p y => by
      obtain ⟨rfl, rfl⟩ := y
      obtain ⟨s1, ts, eD, hl, hp⟩ := p
      refine k_gname ?_
      refine ⟨hw _, ?_⟩
      refine step m _ hm s1 _ _ (fun hc H4 b s4 nb eb => ?_) fun hc H4 s4 => ?_
      · have eD4 := s4 _ _ eD
        have nt : ∀ {c : Addr} {us : List V}, H4 c = some (.tup us) → c ≠ D := fun e z => by rw [z, eD4] at e; cases e
        refine ⟨_, eD4, ?_, fun c o e => ?_, ts ++ [b], ?_, by rw [List.length_append, List.length_singleton]; omega, ?_⟩
        · rw [List.length_map]
          exact Nat.lt_of_le_of_lt hl (Nat.lt_of_lt_of_le hm (Nat.le_trans hn (by decide)))
        · exact (upd_ne (ne_of_none e hD)).trans (s4 _ _ (s1 _ _ e))
        · rw [upd_same, List.map_append]
          rfl
        · rw [List.range_succ, List.filter_append, List.filter_cons, if_pos hc, List.filter_nil, List.map_append]
          exact Paired.snoc (pairs_mono (fun _ _ h => ⟨h.1, (upd_ne (nt (s4 _ _ h.2))).trans (s4 _ _ h.2)⟩) hp) ⟨s1.free nb, (upd_ne (nt eb)).trans eb⟩
      · refine ⟨s1.trans s4, ts, s4 _ _ eD, by omega, ?_⟩
        rw [List.range_succ, List.filter_append, List.filter_cons, if_neg (by rw [hc]; decide), List.filter_nil, List.append_nil]
        exact pairs_mono (fun _ _ h => ⟨h.1, s4 _ _ h.2⟩) hp)
    (fun H' p => by
      obtain ⟨s1, ts, eD, _, hp⟩ := p
      exact fin D H' ts hD s1 eD hp)
theorem pairs_sub {α β : Type} {F : α → β → Prop} : ∀ {l : List α} {m : List β} {us : List α}, Paired F l m → us.Sublist l → ∃ ws, Paired F us ws ∧ ws.Sublist m
  | _, _, _, .nil, .slnil => ⟨[], .nil, .slnil⟩
  | _, _, _, .cons h t, .cons _ s => by
    obtain ⟨ws, h1, h2⟩ := pairs_sub t s
    exact ⟨ws, h1, .cons _ h2⟩
  | _, _, _, .cons h t, .cons₂ _ s => by
    obtain ⟨ws, h1, h2⟩ := pairs_sub t s
    exact ⟨_, .cons h h1, .cons₂ _ h2⟩
/-- all pairs that may be wished, tick by tick -/
def wishL (lo hi col : Int) (n : Nat) : List (Int × Int) := ((List.range (hi + 1 - lo).toNat).filter fun m : Nat => decide ((lo + (m : Int) + n + col) % 2 = 0)).map fun m : Nat => (lo + (m : Int), (n : Int))
def wishesL (lo hi col : Int) (t : Nat) : List (Int × Int) := (List.range t).flatMap (wishL lo hi col)
theorem wishesL_succ {lo hi col : Int} {t : Nat} : wishesL lo hi col (t + 1) = wishesL lo hi col t ++ wishL lo hi col t := by
  unfold wishesL
  rw [List.range_succ, List.flatMap_append]
  simp
theorem wishL_mem {lo hi col : Int} {n : Nat} {p : Int × Int} (h : p ∈ wishL lo hi col n) : lo ≤ p.1 ∧ p.1 ≤ hi ∧ p.2 = n ∧ (p.1 + p.2 + col) % 2 = 0 := by
  obtain ⟨m, hm, rfl⟩ := List.mem_map.mp h
  obtain ⟨h1, h2⟩ := List.mem_filter.mp hm
  have h1 := List.mem_range.mp h1
  have h2 := of_decide_eq_true h2
  exact ⟨by show lo ≤ lo + (m : Int); omega, by show lo + (m : Int) ≤ hi; omega, rfl, h2⟩
theorem wishL_nodup (lo hi col : Int) (n : Nat) : (wishL lo hi col n).Nodup := by
  unfold wishL
  rw [List.Nodup, List.pairwise_map]
  exact (List.nodup_range.sublist List.filter_sublist).imp fun h z => h (by have := (Prod.mk.inj z).1; omega)
theorem wishesL_mem {lo hi col : Int} {t : Nat} {p : Int × Int} (h : p ∈ wishesL lo hi col t) : (lo ≤ p.1 ∧ p.1 ≤ hi) ∧ (0 ≤ p.2 ∧ p.2 < t) ∧ (p.1 + p.2 + col) % 2 = 0 := by
  obtain ⟨n, hn, h⟩ := List.mem_flatMap.mp h
  obtain ⟨h1, h2, h3, h4⟩ := wishL_mem h
  have := List.mem_range.mp hn
  omega
theorem wishesL_nodup {lo hi col : Int} : ∀ t : Nat, (wishesL lo hi col t).Nodup
  | 0 => List.nodup_nil
  | t + 1 => by
    rw [wishesL_succ, List.nodup_append]
    refine ⟨wishesL_nodup t, wishL_nodup .., fun a ha b hb e => ?_⟩
    have h1 := wishesL_mem ha
    have h2 := wishL_mem hb
    subst e
    omega
theorem wishL_len {lo hi col : Int} {n w : Nat} (h : hi < lo + 2 * (w : Int)) : (wishL lo hi col n).length ≤ w := by
  have hd := nodup_range (lo := 0) (n := w) (l := (wishL lo hi col n).map fun p => (p.1 - lo) / 2) (by
    rw [List.Nodup, List.pairwise_map]
    refine (wishL_nodup lo hi col n).imp_of_mem fun {a b} ha hb hne z => hne ?_
    have h1 := wishL_mem ha
    have h2 := wishL_mem hb
    exact Prod.ext (by omega) (by omega)) fun x hx => by
      obtain ⟨p, hp, rfl⟩ := List.mem_map.mp hx
      have := wishL_mem hp
      omega
  rwa [List.length_map] at hd
theorem wishesL_len {lo hi col : Int} {w : Nat} (h : hi < lo + 2 * (w : Int)) : ∀ t : Nat, (wishesL lo hi col t).length ≤ t * w
  | 0 => by simp [wishesL]
  | t + 1 => by
    rw [wishesL_succ, List.length_append, Nat.succ_mul]
    exact Nat.add_le_add (wishesL_len h t) (wishL_len h)
def spWish : Sp := fun vs H Q _ => ∃ (r : Addr) (N : Nat) (col lo hi : Int) (t w : Nat), vs = [.ref r, .int col, .int lo, .int hi, .int (t : Int)] ∧ Rid r N H ∧ N + 10 + t * w < 1000000 ∧ -1000000 ≤ lo ∧ lo ≤ 1000000 ∧ lo ≤ hi ∧ hi < lo + 2 * (w : Int) ∧ w ≤ 60 ∧ t ≤ 10 ∧
  ∀ H' v ws, Gr r H H' → Rid r (N + 3 + t * w) H' → HTu r H' v ws → ws.Nodup → ws.length ≤ t * w → (∀ p ∈ ws, (lo ≤ p.1 ∧ p.1 ≤ hi) ∧ (0 ≤ p.2 ∧ p.2 < t) ∧ (p.1 + p.2 + col) % 2 = 0) → Q v H'
theorem cut_from (xs : List V) (n : Nat) : cutV xs (some (n : Int)) none = xs.drop n := by
  unfold cutV
  rw [_root_.HT.sIx_nat, _root_.HT.sIx_none]
  by_cases h : n ≤ xs.length
  · rw [Nat.min_eq_left h, List.take_of_length_le (by rw [List.length_drop]; exact Nat.le_refl _)]
  · rw [Nat.min_eq_right (by omega), List.drop_of_length_le (Nat.le_refl _), List.drop_of_length_le (by omega), List.take_nil]
theorem pairs_drop {α β : Type} {F : α → β → Prop} : ∀ {l : List α} {m : List β} (n : Nat), Paired F l m → Paired F (l.drop n) (m.drop n)
  | _, _, 0, h => h
  | _, _, n + 1, .nil => .nil
  | _, _, n + 1, .cons _ t => pairs_drop n t
theorem Grants.okHs {L : List Int} {ws : List (Int × Int)} {col lo hi : Int} {t : Nat} {ss : List (Int × Int)} (g : Grants L ws col (fun _ => lo) (fun _ => hi) t ss) (l0 : -999900 ≤ lo) (l1 : lo ≤ 999900) (l3 : hi ≤ lo + 80) (ht : t ≤ 10) : OkHs ss ∧ ss.length ≤ 45 ∧ ∀ p ∈ ss, p.2 < 2 ^ 11 ∧ p.1 % 2 = col := by
  have hb : ∀ p ∈ ss, 1 ≤ p.2 ∧ p.2 < 2 ^ 11 ∧ p.1 % 2 = col ∧ lo ≤ p.1 ∧ p.1 ≤ hi + 9 := fun p hp => by
    obtain ⟨a, b, c, n, hn, h1, h2⟩ := g.sp p hp
    have h3 : (2 : Int) ^ (t + 1) ≤ 2 ^ 11 := Int.ofNat_le.mpr (Nat.pow_le_pow_right (n := 2) (by decide) (show t + 1 ≤ 11 by omega))
    have h1 : lo ≤ p.1 - n := h1
    have h2 : p.1 - n ≤ hi := h2
    refine ⟨a, by omega, c, by omega, by omega⟩
  have nd : (ss.map (·.1)).Nodup := List.pairwise_map.mpr (g.asc.imp fun h => by omega)
  have hl : ss.length ≤ 45 := by
    have := nodup_range (lo := 0) (n := 45) (l := ss.map fun p => (p.1 - lo) / 2) (by
      rw [List.Nodup, List.pairwise_map]
      rw [List.Nodup, List.pairwise_map] at nd
      refine nd.imp_of_mem fun {a b} ha hb' hne z => hne ?_
      have h1 := hb a ha
      have h2 := hb b hb'
      omega) fun x hx => by
        obtain ⟨p, hp, rfl⟩ := List.mem_map.mp hx
        have := hb p hp
        omega
    rwa [List.length_map] at this
  refine ⟨⟨by omega, fun p hp => ?_, nd, col, fun p hp => (hb p hp).2.2.1⟩, hl, fun p hp => ⟨(hb p hp).2.1, (hb p hp).2.2.1⟩⟩
  obtain ⟨h1, h2, h3, h4, h5⟩ := hb p hp
  have : (2 : Int) ^ 11 ≤ 10 ^ 60 := by decide
  exact okHeap_mk ⟨by omega, by omega, h1, by omega⟩
/-- over a list of pairs: a new list of two ints each -/
theorem lcIn_prL {K : PySem.W.Frag} {a : Addr} {ts : List Addr} {ps : List (Int × Int)} {j : Nat} {te : TE} {vs : List Nat} {σ : L2.St} {H1 : Hp} {Q : VK} (hx : H1 a = some (.lst (ts.map V.ref))) (hp : Paired (fun (t : Addr) (p : Int × Int) => H1 t = some (.tup [.int p.1, .int p.2])) ts ps) (hz : ps.length ≤ 50000)
    (hw : ∀ x, wipe ((wipe σ vs).set j (some x)) vs = wipe σ vs)
    (step : ∀ (t : Addr) (p : Int × Int) (H2 : Hp), Same H1 H2 → H2 t = some (.tup [.int p.1, .int p.2]) → ∀ QE : VK, (∀ H4 b, Same H2 H4 → H2 b = none → H4 b = some (.lst [.int p.1, .int p.2]) → QE (.ref b) H4) → te ((wipe σ vs).set j (some (.ref t))) H2 QE)
    (fin : ∀ (p : Addr) (H' : Hp) (bs : List Addr), H1 p = none → Same H1 H' → H' p = some (.lst (bs.map V.ref)) → Paired (fun (b : Addr) (p : Int × Int) => H1 b = none ∧ H' b = some (.lst [.int p.1, .int p.2])) bs ps → Q (.ref p) H') :
    LcIn (Itl K a) (gName j) tYes te vs σ H1 Q := fun D hD =>
  lc_it (walk_list (xs := ts.map V.ref)) (fun m H => Same H1 H ∧ ∃ bs : List Addr, H D = some (.lst (bs.map V.ref)) ∧ D ∉ bs ∧ Paired (fun (b : Addr) (p : Int × Int) => H1 b = none ∧ H b = some (.lst [.int p.1, .int p.2])) bs (ps.take m)) ⟨Same.new hD, [], upd_same, (fun h => nomatch h), .nil⟩ (fun m H _ p => .inl (.inl (p.1 _ _ hx)))
    (fun m x H H' hm p y => by
      obtain ⟨rfl, hx⟩ := y
      obtain ⟨s1, bs, eD, nd, hbs⟩ := p
      rw [List.getElem?_map] at hx
      obtain ⟨t, ht, rfl⟩ := Option.map_eq_some_iff.mp hx
      obtain ⟨z, hz1, et⟩ := Nd.paired_get hp ht
      refine k_gname ?_
      refine ⟨hw _, k_tYes ?_⟩
      rw [if_pos rfl]
      refine step t z _ s1 (s1 _ _ et) _ fun H4 b s4 nb eb => ?_
      have eD4 := s4 _ _ eD
      have nbD : b ≠ D := fun e => by rw [e, eD] at nb; cases nb
      have hl := pairs_len hbs
      rw [List.length_take] at hl
      refine ⟨_, eD4, ?_, fun c o e => ?_, bs ++ [b], ?_, fun h => ?_, ?_⟩
      · rw [List.length_map, hl]
        exact Nat.lt_of_le_of_lt (Nat.le_trans (Nat.min_le_right _ _) hz) (by decide)
      · exact (upd_ne (ne_of_none e hD)).trans (s4 _ _ (s1 _ _ e))
      · rw [upd_same, List.map_append]
        rfl
      · rcases List.mem_append.mp h with h | h
        · exact nd h
        · exact nbD (List.mem_singleton.mp h).symm
      · rw [List.take_succ, hz1]
        refine Paired.snoc (pairs_monoM (fun c q hc h => ⟨h.1, ?_⟩) hbs) ⟨s1.free nb, (upd_ne nbD).trans eb⟩
        exact (upd_ne (fun e : c = D => nd (by rw [← e]; exact hc))).trans (s4 _ _ h.2))
    (fun H' p => by
      obtain ⟨s1, bs, eD, _, hbs⟩ := p
      rw [List.length_map, pairs_len hp, List.take_length] at hbs
      exact fin D H' bs hD s1 eD hbs)
end Nd

local macro_rules | `(tactic| walk_at "nd") => `(tactic| (first
  | with_reducible refine Nd.k_cons ?_
  | with_reducible refine Nd.k_nil ?_
  | with_reducible refine Nd.k_op ?_
  | with_reducible refine Nd.k_c ?_
  | with_reducible refine Nd.k_call ?_
  | with_reducible refine Nd.k_cb ?_
  | with_reducible refine Nd.k_seq ?_
  | with_reducible refine Nd.k_next ?_
  | with_reducible refine Nd.k_ret ?_
  | with_reducible refine Nd.k_if ?_
  | with_reducible refine Nd.k_asg ?_
  | with_reducible refine Nd.k_I0 ?_
  | with_reducible refine Nd.k_U ?_
  | with_reducible refine Nd.k_un ?_
  | with_reducible refine Nd.k_drop ?_
  | with_reducible refine Nd.k_retN ?_
  | with_reducible refine Nd.k_brk ?_
  | with_reducible refine Nd.k_cont ?_
  | with_reducible refine Nd.k_gname ?_
  | with_reducible refine Nd.k_gsub ?_
  | with_reducible refine Nd.k_gcons ?_
  | with_reducible refine Nd.k_gnil ?_
  | with_reducible refine Nd.k_par ?_
  | with_reducible refine Nd.k_par3 ?_
  | with_reducible refine Nd.k_tup ?_
  | with_reducible refine Nd.k_lst ?_
  | with_reducible refine Nd.k_ife ?_
  | with_reducible refine Nd.k_andV ?_
  | with_reducible refine Nd.k_orV ?_
  | with_reducible refine Nd.k_notV ?_
  | with_reducible refine Nd.k_tB ?_
  | with_reducible refine Nd.k_test ?_
  | with_reducible refine Nd.k_tAnd ?_
  | with_reducible refine Nd.k_tOr ?_
  | with_reducible refine Nd.k_tNot ?_
  | with_reducible refine Nd.k_tYes ?_
  | with_reducible refine Nd.k_kw ?_
  | with_reducible refine Nd.k_for ?_
  | with_reducible refine Nd.k_lc ?_
  | with_reducible refine Nd.k_iList ?_
  | with_reducible refine Nd.k_iTup ?_
  | with_reducible refine Nd.k_iR1 ?_
  | with_reducible refine Nd.k_iR2 ?_
  | with_reducible refine Nd.k_sl ?_
  | with_reducible refine Nd.k_noPart ?_
  | with_reducible refine Nd.k_part ?_
  | with_reducible refine Nd.k_bm ?_
  | with_reducible refine Nd.k_gcd ?_
  | with_reducible refine Nd.k_tru ?_
  | with_reducible refine Nd.k_bits ?_
  | with_reducible refine Nd.k_dnewK ?_
  | with_reducible refine Nd.k_dget2 ?_
  | with_reducible refine Nd.k_dput ?_
  | with_reducible refine Nd.k_items ?_
  | with_reducible refine Nd.k_iEnum ?_
  | with_reducible refine Nd.k_iEnumT ?_
  | with_reducible refine Nd.k_iZipA ?_
  | with_reducible refine Nd.k_scG ?_
  | with_reducible refine Nd.k_iAny ?_
  | focus ((with_reducible refine Nd.k_var (v := ?vv) ?hv ?hq); (case hv => exact rfl))
  | focus ((with_reducible refine Nd.k_aug (x := ?vv) ?hv ?hq); (case hv => exact rfl))
  | focus ((with_reducible refine Nd.k_eq ?hv ?hq); (case hv => exact rfl))
  | focus ((with_reducible refine Nd.k_ne ?hv ?hq); (case hv => exact rfl))
  | with_reducible refine ⟨rfl, ?_⟩
  | with_reducible refine ⟨_, rfl, ?_⟩
  | with_reducible refine ⟨_, _, rfl, ?_⟩
  | with_reducible refine ⟨_, _, _, rfl, ?_⟩
  | with_reducible refine Or.inl ⟨_, rfl, ?_⟩
  | with_reducible refine Or.inr ⟨_, rfl, ?_⟩
  | with_reducible refine Nd.k_nx ?_
  | with_reducible refine Nd.k_rt ?_
  | with_reducible refine Nd.k_bk ?_
  | with_reducible refine Nd.k_ct ?_))
local macro_rules | `(tactic| walk_at "go") => `(tactic| repeat (walk_at "nd"))
local macro_rules | `(tactic| walk_at "nd2") => `(tactic| (first
  | with_reducible refine Nd.k_cons ?_
  | with_reducible refine Nd.k_nil ?_
  | with_reducible refine Nd.k_op ?_
  | with_reducible refine Nd.k_c ?_
  | with_reducible refine Nd.k_call ?_
  | with_reducible refine Nd.k_cb ?_
  | with_reducible refine Nd.k_seq ?_
  | with_reducible refine Nd.k_next ?_
  | with_reducible refine Nd.k_ret ?_
  | with_reducible refine Nd.k_if ?_
  | with_reducible refine Nd.k_asg ?_
  | with_reducible refine Nd.k_I0 ?_
  | with_reducible refine Nd.k_U ?_
  | with_reducible refine Nd.k_un ?_
  | with_reducible refine Nd.k_drop ?_
  | with_reducible refine Nd.k_retN ?_
  | with_reducible refine Nd.k_brk ?_
  | with_reducible refine Nd.k_cont ?_
  | with_reducible refine Nd.k_gname ?_
  | with_reducible refine Nd.k_gsub ?_
  | with_reducible refine Nd.k_gcons ?_
  | with_reducible refine Nd.k_gnil ?_
  | with_reducible refine Nd.k_par ?_
  | with_reducible refine Nd.k_par3 ?_
  | with_reducible refine Nd.k_tup ?_
  | with_reducible refine Nd.k_lst ?_
  | with_reducible refine Nd.k_notV ?_
  | with_reducible refine Nd.k_tB ?_
  | with_reducible refine Nd.k_test ?_
  | with_reducible refine Nd.k_tNot ?_
  | with_reducible refine Nd.k_tYes ?_
  | with_reducible refine Nd.k_kw ?_
  | with_reducible refine Nd.k_for ?_
  | with_reducible refine Nd.k_lc ?_
  | with_reducible refine Nd.k_iList ?_
  | with_reducible refine Nd.k_iTup ?_
  | with_reducible refine Nd.k_iR1 ?_
  | with_reducible refine Nd.k_iR2 ?_
  | with_reducible refine Nd.k_sl ?_
  | with_reducible refine Nd.k_noPart ?_
  | with_reducible refine Nd.k_part ?_
  | with_reducible refine Nd.k_bm ?_
  | with_reducible refine Nd.k_gcd ?_
  | with_reducible refine Nd.k_tru ?_
  | with_reducible refine Nd.k_bits ?_
  | with_reducible refine Nd.k_dnewK ?_
  | with_reducible refine Nd.k_dget2 ?_
  | with_reducible refine Nd.k_dput ?_
  | with_reducible refine Nd.k_items ?_
  | with_reducible refine Nd.k_iEnum ?_
  | with_reducible refine Nd.k_iEnumT ?_
  | with_reducible refine Nd.k_iZipA ?_
  | with_reducible refine Nd.k_scG ?_
  | with_reducible refine Nd.k_iAny ?_
  | focus ((with_reducible refine Nd.k_var (v := ?vv) ?hv ?hq); (case hv => exact rfl))
  | focus ((with_reducible refine Nd.k_aug (x := ?vv) ?hv ?hq); (case hv => exact rfl))
  | focus ((with_reducible refine Nd.k_eq ?hv ?hq); (case hv => exact rfl))
  | focus ((with_reducible refine Nd.k_ne ?hv ?hq); (case hv => exact rfl))
  | with_reducible refine ⟨rfl, ?_⟩
  | with_reducible refine ⟨_, rfl, ?_⟩
  | with_reducible refine ⟨_, _, rfl, ?_⟩
  | with_reducible refine ⟨_, _, _, rfl, ?_⟩
  | with_reducible refine Or.inl ⟨_, rfl, ?_⟩
  | with_reducible refine Or.inr ⟨_, rfl, ?_⟩
  | with_reducible refine Nd.k_nx ?_
  | with_reducible refine Nd.k_rt ?_
  | with_reducible refine Nd.k_bk ?_
  | with_reducible refine Nd.k_ct ?_))
local macro_rules | `(tactic| walk_at "ga") => `(tactic| repeat (walk_at "nd2"))
local macro_rules | `(tactic| walk_at "nd3") => `(tactic| (first
  | with_reducible refine Nd.k_cons ?_
  | with_reducible refine Nd.k_nil ?_
  | with_reducible refine Nd.k_op ?_
  | with_reducible refine Nd.k_c ?_
  | with_reducible refine Nd.k_call ?_
  | with_reducible refine Nd.k_cb ?_
  | with_reducible refine Nd.k_seq ?_
  | with_reducible refine Nd.k_next ?_
  | with_reducible refine Nd.k_ret ?_
  | with_reducible refine Nd.k_if ?_
  | with_reducible refine Nd.k_asg ?_
  | with_reducible refine Nd.k_I0 ?_
  | with_reducible refine Nd.k_U ?_
  | with_reducible refine Nd.k_un ?_
  | with_reducible refine Nd.k_drop ?_
  | with_reducible refine Nd.k_retN ?_
  | with_reducible refine Nd.k_brk ?_
  | with_reducible refine Nd.k_cont ?_
  | focus ((with_reducible refine Nd.k_gnameE (σ2 := ?vv) ?hv ?hq); (case hv => ((try simp only [List.set_cons_zero, List.set_cons_succ]) <;> exact rfl)))
  | with_reducible refine Nd.k_gsub ?_
  | with_reducible refine Nd.k_gcons ?_
  | with_reducible refine Nd.k_gnil ?_
  | with_reducible refine Nd.k_par ?_
  | with_reducible refine Nd.k_par3 ?_
  | with_reducible refine Nd.k_tup ?_
  | with_reducible refine Nd.k_lst ?_
  | with_reducible refine Nd.k_notV ?_
  | with_reducible refine Nd.k_tB ?_
  | with_reducible refine Nd.k_test ?_
  | with_reducible refine Nd.k_tNot ?_
  | with_reducible refine Nd.k_tYes ?_
  | with_reducible refine Nd.k_kw ?_
  | with_reducible refine Nd.k_for ?_
  | with_reducible refine Nd.k_lc ?_
  | with_reducible refine Nd.k_iList ?_
  | with_reducible refine Nd.k_iTup ?_
  | with_reducible refine Nd.k_iR1 ?_
  | with_reducible refine Nd.k_iR2 ?_
  | with_reducible refine Nd.k_sl ?_
  | with_reducible refine Nd.k_noPart ?_
  | with_reducible refine Nd.k_part ?_
  | with_reducible refine Nd.k_bm ?_
  | with_reducible refine Nd.k_gcd ?_
  | with_reducible refine Nd.k_tru ?_
  | with_reducible refine Nd.k_bits ?_
  | with_reducible refine Nd.k_dnewK ?_
  | with_reducible refine Nd.k_dget2 ?_
  | with_reducible refine Nd.k_dput ?_
  | with_reducible refine Nd.k_items ?_
  | with_reducible refine Nd.k_iEnum ?_
  | with_reducible refine Nd.k_iEnumT ?_
  | with_reducible refine Nd.k_iZipA ?_
  | with_reducible refine Nd.k_scG ?_
  | with_reducible refine Nd.k_iAny ?_
  | focus ((with_reducible refine Nd.k_var (v := ?vv) ?hv ?hq); (case hv => exact rfl))
  | focus ((with_reducible refine Nd.k_aug (x := ?vv) ?hv ?hq); (case hv => exact rfl))
  | focus ((with_reducible refine Nd.k_eq ?hv ?hq); (case hv => exact rfl))
  | focus ((with_reducible refine Nd.k_ne ?hv ?hq); (case hv => exact rfl))
  | with_reducible refine ⟨rfl, ?_⟩
  | with_reducible refine ⟨_, rfl, ?_⟩
  | with_reducible refine ⟨_, _, rfl, ?_⟩
  | with_reducible refine ⟨_, _, _, rfl, ?_⟩
  | with_reducible refine Or.inl ⟨_, rfl, ?_⟩
  | with_reducible refine Or.inr ⟨_, rfl, ?_⟩
  | with_reducible refine Nd.k_nx ?_
  | with_reducible refine Nd.k_rt ?_
  | with_reducible refine Nd.k_bk ?_
  | with_reducible refine Nd.k_ct ?_))
local macro_rules | `(tactic| walk_at "gs") => `(tactic| repeat (walk_at "nd3"))
local macro_rules | `(tactic| walk_at "nd4") => `(tactic| (first
  | with_reducible refine Nd.k_cons ?_
  | with_reducible refine Nd.k_nil ?_
  | with_reducible refine Nd.k_op ?_
  | with_reducible refine Nd.k_c ?_
  | with_reducible refine Nd.k_call ?_
  | with_reducible refine Nd.k_cb ?_
  | with_reducible refine Nd.k_seq ?_
  | with_reducible refine Nd.k_next ?_
  | with_reducible refine Nd.k_ret ?_
  | with_reducible refine Nd.k_if ?_
  | with_reducible refine Nd.k_asg ?_
  | with_reducible refine Nd.k_I0 ?_
  | with_reducible refine Nd.k_U ?_
  | with_reducible refine Nd.k_un ?_
  | with_reducible refine Nd.k_drop ?_
  | with_reducible refine Nd.k_retN ?_
  | with_reducible refine Nd.k_brk ?_
  | with_reducible refine Nd.k_cont ?_
  | focus ((with_reducible refine Nd.k_gnameE (σ2 := ?vv) ?hv ?hq); (case hv => ((try simp only [List.set_cons_zero, List.set_cons_succ]) <;> exact rfl)))
  | with_reducible refine Nd.k_gsub ?_
  | with_reducible refine Nd.k_gcons ?_
  | with_reducible refine Nd.k_gnil ?_
  | with_reducible refine Nd.k_par ?_
  | with_reducible refine Nd.k_par3 ?_
  | with_reducible refine Nd.k_tup ?_
  | with_reducible refine Nd.k_lst ?_
  | with_reducible refine Nd.k_notV ?_
  | with_reducible refine Nd.k_tB ?_
  | with_reducible refine Nd.k_test ?_
  | with_reducible refine Nd.k_tNot ?_
  | with_reducible refine Nd.k_tYes ?_
  | with_reducible refine Nd.k_kw ?_
  | with_reducible refine Nd.k_for ?_
  | with_reducible refine Nd.k_lc ?_
  | with_reducible refine Nd.k_iList ?_
  | with_reducible refine Nd.k_iTup ?_
  | with_reducible refine Nd.k_iR1 ?_
  | with_reducible refine Nd.k_iR2 ?_
  | with_reducible refine Nd.k_sl ?_
  | with_reducible refine Nd.k_noPart ?_
  | with_reducible refine Nd.k_part ?_
  | with_reducible refine Nd.k_bm ?_
  | with_reducible refine Nd.k_gcd ?_
  | with_reducible refine Nd.k_tru ?_
  | with_reducible refine Nd.k_bits ?_
  | with_reducible refine Nd.k_dnewK ?_
  | with_reducible refine Nd.k_dget2 ?_
  | with_reducible refine Nd.k_dput ?_
  | with_reducible refine Nd.k_items ?_
  | with_reducible refine Nd.k_iEnum ?_
  | with_reducible refine Nd.k_iEnumT ?_
  | with_reducible refine Nd.k_iZipA ?_
  | with_reducible refine Nd.k_scG ?_
  | with_reducible refine Nd.k_iAny ?_
  | focus ((with_reducible refine Nd.k_var (v := ?vv) ?hv ?hq); (case hv => exact rfl))
  | focus ((with_reducible refine Nd.k_aug (x := ?vv) ?hv ?hq); (case hv => exact rfl))
  | focus ((with_reducible refine Nd.k_eq ?hv ?hq); (case hv => exact rfl))
  | focus ((with_reducible refine Nd.k_ne ?hv ?hq); (case hv => exact rfl))
  | with_reducible refine ⟨rfl, ?_⟩
  | with_reducible refine ⟨_, rfl, ?_⟩
  | with_reducible refine ⟨_, _, rfl, ?_⟩
  | with_reducible refine ⟨_, _, _, rfl, ?_⟩
  | with_reducible refine Or.inl ⟨_, rfl, ?_⟩
  | with_reducible refine Or.inr ⟨_, rfl, ?_⟩
  | with_reducible refine Nd.k_nx ?_
  | with_reducible refine Nd.k_rt ?_
  | with_reducible refine Nd.k_bk ?_
  | with_reducible refine Nd.k_ct ?_
  | with_reducible refine Nd.k_dc ?_
  | with_reducible refine Nd.k_fld ?_
  | with_reducible refine Nd.k_meth ?_
  | with_reducible refine Nd.k_make ?_
  | with_reducible refine Nd.k_asg2 ?_
  | with_reducible refine Nd.k_din ?_
  | with_reducible refine Nd.k_ddel ?_
  | with_reducible refine Nd.k_sfld ?_
  | with_reducible refine Nd.k_sfa ?_))
local macro_rules | `(tactic| walk_at "gl") => `(tactic| repeat (walk_at "nd4"))


namespace K45
open PySem PySem.Spec PyProof.Rows L2 Nd
def top (i : Nat) : Stmt := PySem.Challenge.pw_nodice_k45_starts_that_grant_wishes.main.body.getD i (.Pass ⟨0, 0, 0, 0⟩)
structure Txt (mg : Str → Option Value) : Prop where
  m_int : mg "int" = none
  m_len : mg "len" = none
  m_abs : mg "abs" = none
abbrev s__law_rub : Stmt := top 29
theorem sc__law_rub : FnScope ["genie", "many", "rest", "at", "cell", "mixed"] ["genie", "many"] (defScope s__law_rub) := ⟨rfl, rfl, rfl, by decide +kernel, rfl, by decide +kernel, by decide +kernel⟩
section
variable {P : Program} {w : World} {K : PySem.W.Frag} {mg : Str → Option Value} {base : Heap}
theorem ok_shake {f : Addr} {fd : FuncData} (F : Fun K "_law_rub" "_law_rub" s__law_rub f fd) (T : Txt mg) : FnG P w K mg base CX0 1 f fd ["genie", "many"] spDraw := by
  refine okG0 F sc__law_rub (fun vs H Q E h => ?_) (fun cdv A outer s H vs Q E hG hr h => ?_)
  · obtain ⟨r, n, m, rfl, _⟩ := h
    rfl
  · obtain ⟨r, n, m, rfl, R, hn, m0, m1, q⟩ := h
    refine ⟨_, (pss_cons (ps_if (pt_cmpR op_gt (pe_ix ix_list (pv 0) pe_int (fun _ _ => rfl)) pe_int (nomark _)) (pss_cons (ps_set (i := 2) sc__law_rub.nd rfl (.inl rfl) (pe_callTy call_int1 (by rfl) T.m_int (by decide +kernel) (pa_cons (pe_ix ix_list (pv 0) pe_int (fun _ _ => rfl)) pa_nil)))
      (pss_cons (ps_asg (pe_op op_fdiv (pv 2) (pv 1)) (pg_sub (pv 0) pe_int set_list))
      (pss_one (ps_ret (pe_op op_mod (pe_callTy call_int1 (by rfl) T.m_int (by decide +kernel) (pa_cons (pv 2) pa_nil)) (pv 1)))))) pss_nil)
      (pss_cons (ps_set (i := 3) sc__law_rub.nd rfl (.inl rfl) (pe_ix ix_list (pv 0) pe_int (fun _ _ => rfl)))
      (pss_cons (ps_asg (pe_op op_add (pv 3) pe_int) (pg_sub (pv 0) pe_int set_list))
      (pss_cons (ps_set (i := 4) sc__law_rub.nd rfl (.inl rfl) (pe_op op_add (pe_op op_mul pe_int (pv 3)) pe_int))
      (pss_cons (ps_if (pt_cmpR (op_neD hr.units) (pe_ix ix_list (pv 0) pe_int (fun _ _ => rfl)) (pe_lst pa_nil) (nomark _)) (pss_one (ps_set (i := 4) sc__law_rub.nd rfl (.inl rfl) (pe_ix ix_list (pe_ix ix_list (pv 0) pe_int (fun _ _ => rfl)) (pe_op op_mod (pe_callTy call_int1 (by rfl) T.m_int (by decide +kernel) (pa_cons (pv 3) pa_nil)) (pe_callB (id := "len") call_len_seq (by rfl) T.m_len PySem.boot_len (pa_cons (pe_ix ix_list (pv 0) pe_int (fun _ _ => rfl)) pa_nil))) (fun _ _ => rfl)))) pss_nil)
      (pss_cons (ps_if (PW.pt (pw_and (pt_cmpR op_lt (pv 3) (pe_callB (id := "len") call_len_seq (by rfl) T.m_len PySem.boot_len (pa_cons (pe_ix ix_list (pv 0) pe_int (fun _ _ => rfl)) pa_nil)) (nomark _)) (pw_and1 (pt_cmpR op_ge (pe_callB (id := "abs") call_abs (by rfl) T.m_abs (by decide +kernel) (pa_cons (pv 4) pa_nil)) (pe_op op_pow pe_int pe_int) (nomark _))))) (pss_cons (ps_set (i := 2) sc__law_rub.nd rfl (.inl rfl) (pe_op op_add (pe_op op_mul pe_int (pe_op op_sub (pe_callB (id := "abs") call_abs (by rfl) T.m_abs (by decide +kernel) (pa_cons (pv 4) pa_nil)) (pe_op op_pow pe_int pe_int))) (pe_callTy call_int1 (by rfl) T.m_int (by decide +kernel) (pa_cons (pe_cmpR op_lt (pv 4) pe_int (nomark _)) pa_nil))))
      (pss_cons (ps_asg (pe_op op_fdiv (pe_callTy call_int1 (by rfl) T.m_int (by decide +kernel) (pa_cons (pv 2) pa_nil)) (pv 1)) (pg_sub (pv 0) pe_int set_list))
      (pss_one (ps_ret (pe_op op_mod (pe_callTy call_int1 (by rfl) T.m_int (by decide +kernel) (pa_cons (pv 2) pa_nil)) (pv 1)))))) pss_nil)
      (pss_cons (ps_set (i := 5) sc__law_rub.nd rfl (.inl rfl) (pe_op op_mod (pe_callTy call_int1 (by rfl) T.m_int (by decide +kernel) (pa_cons (pe_op op_pow (pe_op op_add (pe_op op_add (pe_op op_mod (pe_callTy call_int1 (by rfl) T.m_int (by decide +kernel) (pa_cons (pv 4) pa_nil)) pe_int) (pe_op op_mul pe_int (pv 3))) pe_int) pe_int) pa_nil)) pe_int))
      (pss_cons (ps_set (i := 5) sc__law_rub.nd rfl (.inl rfl) (pe_op op_mod (pe_callTy call_int1 (by rfl) T.m_int (by decide +kernel) (pa_cons (pe_op op_pow (pe_op op_add (pe_op op_add (pe_op op_mul (pv 5) (pe_op op_add (pe_op op_mul pe_int (pv 3)) pe_int)) (pe_op op_mul (pe_op op_mul pe_int (pv 3)) (pv 3))) pe_int) pe_int) pa_nil)) pe_int))
      (pss_one (ps_ret (pe_op op_mod (pe_callTy call_int1 (by rfl) T.m_int (by decide +kernel) (pa_cons (pe_op op_fdiv (pv 5) pe_int) pa_nil)) (pv 1)))))))))))), ?_⟩
    dsimp only [cxOf, Cx.nox, Cx.wish]
    generalize hσ0 : L2.start _ _ = σ0
    obtain rfl : σ0 = ([some (.ref r), some (.int m), none, none, none, none] : L2.St) := by rw [← hσ0]; rfl
    clear hσ0
    obtain ⟨c, ns, a, z, rc, hR, hC, hl, a0, a1, z0⟩ := R.ex
    have at2 : atI [V.ref c, V.int a, V.int z] 2 = some (V.int z) := rfl
    have at1 : atI [V.ref c, V.int a, V.int z] 1 = some (V.int a) := rfl
    walk_at "go"
    refine k_ixL (.inl (.inl hR)) at2 ?_
    walk_at "go"
    refine ite2 (fun h => ?_) (fun h => ?_)
    · walk_at "go"
      refine k_ixL (.inl (.inl hR)) at2 ?_
      walk_at "go"
      refine k_I ⟨m0, m1⟩ ?_
      walk_at "go"
      refine k_setL hR rfl ?_
      walk_at "go"
      refine k_I m0 ?_
      walk_at "go"
      refine q _ _ (Gr.put hR) ⟨c, ns, a, z / m, rc, upd_same, (upd_ne rc.symm).trans hC, hl, a0, by omega, Int.ediv_nonneg z0 (by omega)⟩ (Int.emod_nonneg _ (by omega)) (Int.emod_lt_of_pos _ m0)
    · walk_at "go"
      refine k_ixL (.inl (.inl hR)) at1 ?_
      walk_at "go"
      refine k_setL (j := 1) hR rfl ?_
      walk_at "go"
      have hR1 : (upd H r (.lst ([V.ref c, V.int a, V.int z].set 1 (V.int (a + 1))))) r = some (.lst [V.ref c, V.int (a + 1), V.int z]) := by
        rw [upd_same]
        rfl
      have hC1 : (upd H r (.lst ([V.ref c, V.int a, V.int z].set 1 (V.int (a + 1))))) c = some (.lst (ns.map V.int)) := (upd_ne rc.symm).trans hC
      have g1 : Gr r H (upd H r (.lst ([V.ref c, V.int a, V.int z].set 1 (V.int (a + 1))))) := Gr.put hR
      generalize upd H r (.lst ([V.ref c, V.int a, V.int z].set 1 (V.int (a + 1)))) = H1 at hR1 hC1 g1
      refine k_I (.inl ⟨by decide, by decide⟩) ?_
      refine k_c ?_
      refine k_I0 ?_
      refine k_gname ?_
      refine k_seq ?_
      refine Nd.k_stJ0 (fun σ' H' => Same H1 H' ∧ ∃ (x : Int) (x2 x5 : Option V), σ' = [some (.ref r), some (.int m), x2, some (.int a), some (.int x), x5]) (fun nx' k => ?_) (fun σ' H2 z2 => ?_)
      · refine k_if ?_
        walk_at "go"
        refine k_ixL (.inl (.inl hR1)) rfl ?_
        walk_at "go"
        refine ⟨by decide, fun p hp => ?_⟩
        have s1 : Same H1 (upd H1 p (.lst [])) := Same.new hp
        have e1 : (upd H1 p (.lst [])) p = some (.lst []) := upd_same
        generalize upd H1 p (.lst []) = H2 at s1 e1
        have L2 : SqL K H2 r [V.ref c, V.int (a + 1), V.int z] := .inl (.inl (s1 _ _ hR1))
        have LC : SqL K H2 c (ns.map V.int) := .inl (.inl (s1 _ _ hC1))
        refine k_neD (Dp.lst LC (dpInts ns)) (Dp.lst (.inl (.inl e1)) .nil) (shInts ns) shNil ?_
        rw [eqvNil]
        walk_at "go"
        refine ite2 (fun he => ?_) (fun he => ?_)
        · have hne : 0 < ns.length := by
            cases ns with
            | nil => exact absurd he (by simp)
            | cons _ _ => exact Nat.succ_pos _
          have hlen : (0 : Int) < ((ns.map V.int).length : Int) := by
            rw [List.length_map]
            omega
          walk_at "go"
          refine k_ixL L2 rfl ?_
          walk_at "go"
          refine k_ixL L2 rfl ?_
          walk_at "go"
          refine ⟨c, ns.map V.int, rfl, .inl LC, ?_⟩
          refine k_I hlen ?_
          obtain ⟨v, _, hv⟩ := atInts (ns := ns) (i := a % ((ns.map V.int).length : Int)) (Int.emod_nonneg _ (by omega)) (by
            have := Int.emod_lt_of_pos a hlen
            rw [List.length_map] at this ⊢
            exact this)
          refine k_ixL LC hv ?_
          walk_at "go"
          exact k _ _ ⟨s1, _, _, _, rfl⟩
        · walk_at "go"
          exact k _ _ ⟨s1, _, _, _, rfl⟩
      obtain ⟨s2, x, x2, x5, rfl⟩ := z2
      have hR2 := s2 _ _ hR1
      have e1 := s2 _ _ hC1
      have g2 : Gr r H H2 := g1.trans (Gr.same s2)
      have L2 : SqL K H2 r [V.ref c, V.int (a + 1), V.int z] := .inl (.inl hR2)
      have LC : SqL K H2 c (ns.map V.int) := .inl (.inl e1)
      walk_at "go"
      refine k_ixL L2 rfl ?_
      walk_at "go"
      refine ⟨c, ns.map V.int, rfl, .inl LC, ?_⟩
      walk_at "go"
      refine ite2 (fun h2 => ?_) (fun h2 => iteF ?_)
      · walk_at "go"
        refine k_I ⟨by decide, by decide, by decide⟩ ?_
        walk_at "go"
        refine ite2 (fun h3 => ?_) (fun h3 => ?_)
        · have h3' := of_decide_eq_true h3
          clear h3
          walk_at "go"
          refine k_I ⟨by decide, by decide, by decide⟩ ?_
          walk_at "go"
          refine k_I (.inl ⟨by decide, by decide⟩) ?_
          walk_at "go"
          refine k_I ⟨m0, m1⟩ ?_
          walk_at "go"
          refine k_setL (j := 2) hR2 rfl ?_
          walk_at "go"
          refine k_I m0 ?_
          walk_at "go"
          refine q _ _ (g2.trans (Gr.put hR2)) ⟨c, ns, a + 1, _, rc, upd_same, (upd_ne rc.symm).trans e1, hl, by omega, by omega, ?_⟩ (Int.emod_nonneg _ (by omega)) (Int.emod_lt_of_pos _ m0)
          refine Int.ediv_nonneg (Int.add_nonneg (Int.mul_nonneg (by decide) (Int.sub_nonneg_of_le h3')) ?_) (by omega)
          split <;> decide
        · walk_at "go"
          refine k_I (by decide) ?_
          walk_at "go"
          refine k_I (.inl ⟨by decide, by decide⟩) ?_
          walk_at "go"
          refine k_I ⟨by decide, by decide, by omega⟩ ?_
          walk_at "go"
          refine k_I (by decide) ?_
          generalize hu : (_ : Int) % 2147483549 = u
          have u0 : 0 ≤ u := by rw [← hu]; exact Int.emod_nonneg _ (by decide)
          have u1 : u < 2147483549 := by rw [← hu]; exact Int.emod_lt_of_pos _ (by decide)
          clear hu
          walk_at "go"
          refine k_I (.inl ⟨by decide, by decide⟩) ?_
          walk_at "go"
          refine k_I (.inl ⟨by omega, by omega⟩) ?_
          walk_at "go"
          refine k_I (.inl ⟨by decide, by decide⟩) ?_
          walk_at "go"
          refine k_I (.inl ⟨by omega, by omega⟩) ?_
          walk_at "go"
          refine k_I ⟨by decide, by decide, mixBig2 u0 (by omega) a0 (by omega) (by decide) (by decide) (by decide) (by decide) (by decide) (by decide)⟩ ?_
          walk_at "go"
          refine k_I (by decide) ?_
          walk_at "go"
          refine k_I ⟨by decide, by decide⟩ ?_
          walk_at "go"
          refine k_I m0 ?_
          walk_at "go"
          refine q _ _ g2 ⟨c, ns, a + 1, z, rc, hR2, e1, hl, by omega, by omega, z0⟩ (Int.emod_nonneg _ (by omega)) (Int.emod_lt_of_pos _ m0)
      · walk_at "go"
        refine k_I (by decide) ?_
        walk_at "go"
        refine k_I (.inl ⟨by decide, by decide⟩) ?_
        walk_at "go"
        refine k_I ⟨by decide, by decide, by omega⟩ ?_
        walk_at "go"
        refine k_I (by decide) ?_
        generalize hu : (_ : Int) % 2147483549 = u
        have u0 : 0 ≤ u := by rw [← hu]; exact Int.emod_nonneg _ (by decide)
        have u1 : u < 2147483549 := by rw [← hu]; exact Int.emod_lt_of_pos _ (by decide)
        clear hu
        walk_at "go"
        refine k_I (.inl ⟨by decide, by decide⟩) ?_
        walk_at "go"
        refine k_I (.inl ⟨by omega, by omega⟩) ?_
        walk_at "go"
        refine k_I (.inl ⟨by decide, by decide⟩) ?_
        walk_at "go"
        refine k_I (.inl ⟨by omega, by omega⟩) ?_
        walk_at "go"
        refine k_I ⟨by decide, by decide, mixBig2 u0 (by omega) a0 (by omega) (by decide) (by decide) (by decide) (by decide) (by decide) (by decide)⟩ ?_
        walk_at "go"
        refine k_I (by decide) ?_
        walk_at "go"
        refine k_I ⟨by decide, by decide⟩ ?_
        walk_at "go"
        refine k_I m0 ?_
        walk_at "go"
        refine q _ _ g2 ⟨c, ns, a + 1, z, rc, hR2, e1, hl, by omega, by omega, z0⟩ (Int.emod_nonneg _ (by omega)) (Int.emod_lt_of_pos _ m0)
end
end K45

namespace K45
open PySem PySem.Spec PyProof.Rows L2 Nd
abbrev s__law_genie : Stmt := top 28
theorem sc__law_genie : FnScope ["script", "cell"] ["script"] (defScope s__law_genie) := ⟨rfl, rfl, rfl, by decide +kernel, rfl, by decide +kernel, by decide +kernel⟩
abbrev s__law_pick : Stmt := top 30
theorem sc__law_pick : FnScope ["genie", "some"] ["genie", "some"] (defScope s__law_pick) := ⟨rfl, rfl, rfl, by decide +kernel, rfl, by decide +kernel, by decide +kernel⟩
section
variable {P : Program} {w : World} {K : PySem.W.Frag} {mg : Str → Option Value} {base : Heap}
theorem ok_riddle {f : Addr} {fd : FuncData} (F : Fun K "_law_genie" "_law_genie" s__law_genie f fd) (T : Txt mg) : FnG P w K mg base CX0 1 f fd ["script"] (spRiddle K) := by
  refine okG0 F sc__law_genie (fun vs H Q E h => ?_) (fun cdv A outer s H vs Q E hG hr h => ?_)
  · obtain ⟨a, ns, rfl, _⟩ := h
    rfl
  · obtain ⟨a, ns, rfl, hS, hlen, q⟩ := h
    refine ⟨_, (pss_one (ps_ret (pe_lst (pa_cons (pe_lc (own := [("cell", 1)]) (g := gName 1) (tt := tYes) rfl sc__law_genie.nd (pi_list (pe_slice sl_list (pv 0) po_none (po_some pe_int))) (blkOk_by (own := [("cell", 1)]) (N := ["script", "cell"]) (sc := defScope s__law_genie) (by decide +kernel)) (fun _ _ _ _ _ => pg_name (i := 1) sc__law_genie.nd rfl (Or.inl rfl)) (fun _ _ _ _ _ => pts_nil) (fun _ _ _ _ _ => (pe_callTy call_int1 (by rfl) T.m_int (by decide +kernel) (pa_cons (pv 1) pa_nil)))) (pa_cons pe_int (pa_cons pe_int pa_nil)))))), ?_⟩
    dsimp only [cxOf, Cx.nox, Cx.wish]
    walk_at "go"
    refine k_slL hS fun p hp => ?_
    have e1 : cutV (ns.map V.int) none (some 60) = (ns.take 60).map V.int := by
      unfold cutV
      rw [HT.sIx_none, show HT.sIx (ns.map V.int).length (ns.map V.int).length (some 60) = min 60 (ns.map V.int).length from HT.sIx_nat _ _ 60]
      simp [List.map_take]
    rw [e1]
    refine ⟨p, rfl, ⟨_, .inl (.inl upd_same)⟩, ?_⟩
    have hl : (ns.take 60).length ≤ 60 := by rw [List.length_take]; omega
    refine lcIn_L (fun _ => true) (fun i => ((ns.take 60).map V.int).getD i .non) (.inl (.inl upd_same)) (by rw [List.length_map]; omega) (fun x => rfl) (fun i x H2 hi s2 => ⟨fun QT k => k _ (Same.refl _), fun _ H3 s3 QE k => ?_⟩) (fun p' H' np s1 hp' => ?_)
    · obtain ⟨z, hz, rfl⟩ : ∃ z, (ns.take 60)[i]? = some z ∧ x = V.int z := by
        rw [List.getElem?_map] at hi
        cases h : (ns.take 60)[i]? with
        | none => rw [h] at hi; cases hi
        | some z => rw [h] at hi; exact ⟨z, rfl, (Option.some.inj hi).symm⟩
      walk_at "go"
      have := k H3 (Same.refl _)
      rw [List.getD_eq_getElem?_getD, hi] at this
      exact this
    · rw [given_all rfl fun i x hi => by rw [List.getD_eq_getElem?_getD, hi]; rfl] at hp'
      walk_at "go"
      refine ⟨by show 3 ≤ sizeLine; decide, fun r hr' => ?_⟩
      have ss : Same H (upd H' r (.lst [V.ref p', V.int 0, V.int 0])) := (Same.new hp).trans (s1.trans (Same.new hr'))
      have np' : p' ≠ r := fun e => by rw [e, hr'] at hp'; cases hp'
      walk_at "go"
      exact q _ _ ss ((Same.new hp).trans s1 |>.free hr') ⟨p', ns.take 60, 0, 0, np'.symm, upd_same, (upd_ne np').trans hp', hl, by omega, by omega, by omega⟩
theorem ok_pick {f : Addr} {fd : FuncData} (F : Fun K "_law_pick" "_law_pick" s__law_pick f fd) (T : Txt mg) (C__law_rub : Cal P w K mg base CX0 1 "_law_rub" spDraw) : FnG P w K mg base CX0 2 f fd ["genie", "some"] spPick := by
  refine okG0 F sc__law_pick (fun vs H Q E h => ?_) (fun cdv A outer s H vs Q E hG hr h => ?_)
  · obtain ⟨r, l, n, xs, rfl, _⟩ := h
    rfl
  · obtain ⟨r, l, n, xs, rfl, R, hn, lr, hL, x0, x1, q⟩ := h
    refine ⟨_, (pss_one (ps_ret (pe_ix ix_list (pv 1) (pe_f C__law_rub hG (hr.mono (by decide)) (by rfl) pass0 (pa_cons (pv 0) (pa_cons (pe_callB (id := "len") call_len_seq (by rfl) T.m_len PySem.boot_len (pa_cons (pv 1) pa_nil)) pa_nil))) (fun _ _ => rfl)))), ?_⟩
    dsimp only [cxOf, Cx.nox, Cx.wish]
    walk_at "go"
    refine ⟨l, xs, rfl, .inl (.inl (.inl hL)), ?_⟩
    walk_at "go"
    refine ⟨r, n, _, rfl, R, hn, by omega, by omega, fun H' v g R' v0 v1 => ?_⟩
    obtain ⟨j, rfl⟩ := Int.eq_ofNat_of_zero_le v0
    have hj : j < xs.length := by omega
    have hx : xs[j]? = some xs[j] := by simp [hj]
    refine k_ixL (.inl (.inl (g _ _ lr hL))) (atI_nat hx) ?_
    walk_at "go"
    exact q _ _ g R' (List.getElem_mem hj)
end
end K45

namespace K45
open PySem PySem.Spec PyProof.Rows L2 Nd
abbrev s_is_integer : Stmt := top 7
theorem sc_is_integer : FnScope ["value"] ["value"] (defScope s_is_integer) := ⟨rfl, rfl, rfl, by decide +kernel, rfl, by decide +kernel, by decide +kernel⟩
abbrev s_is_within : Stmt := top 8
theorem sc_is_within : FnScope ["value", "least", "most"] ["value", "least", "most"] (defScope s_is_within) := ⟨rfl, rfl, rfl, by decide +kernel, rfl, by decide +kernel, by decide +kernel⟩
abbrev s_are_integers : Stmt := top 9
theorem sc_are_integers : FnScope ["value", "many", "item"] ["value", "many"] (defScope s_are_integers) := ⟨rfl, rfl, rfl, by decide +kernel, rfl, by decide +kernel, by decide +kernel⟩
abbrev s_need_integer : Stmt := top 10
theorem sc_need_integer : FnScope ["value", "part", "least", "most"] ["value", "part", "least", "most"] (defScope s_need_integer) := ⟨rfl, rfl, rfl, by decide +kernel, rfl, by decide +kernel, by decide +kernel⟩
structure TxtC (mg : Str → Option Value) : Prop where
  m_int : mg "int" = none
  m_bool : mg "bool" = none
  m_len : mg "len" = none
  m_all : mg "all" = none
  m_any : mg "any" = none
  m_list : mg "list" = none
  m_tuple : mg "tuple" = none
  m_isinstance : mg "isinstance" = none
  m_min : mg "min" = none
  m_range : mg "range" = none
  m_enumerate : mg "enumerate" = none
  m_set : mg "set" = none
  m_sorted : mg "sorted" = none
  m_abs : mg "abs" = none
  m_repr : mg "repr" = none
  m_dict : mg "dict" = none
  m_comb : mg "comb" = some (.builtin "math.comb")
  c_FARTHEST : ∃ u, mg "FARTHEST" = some u ∧ RelV (.int 1000000) u
  c_MOST_LEFTS : ∃ u, mg "MOST_LEFTS" = some u ∧ RelV (.int 400) u
  c_FARTHEST_LOW : ∃ u, mg "FARTHEST_LOW" = some u ∧ RelV (.int 999900) u
  c_MOST_WIDE : ∃ u, mg "MOST_WIDE" = some u ∧ RelV (.int 80) u
  c_MOST_TICKS : ∃ u, mg "MOST_TICKS" = some u ∧ RelV (.int 10) u
section
variable {P : Program} {w : World} {K : PySem.W.Frag} {mg : Str → Option Value} {base : Heap}
theorem ok_is_integer {f : Addr} {fd : FuncData} (F : Fun K "is_integer" "is_integer" s_is_integer f fd) (T : TxtC mg) : FnG P w K mg base CX0 1 f fd ["value"] spIsInt := by
  refine okG0 F sc_is_integer (fun vs H Q E h => ?_) (fun cdv A outer s H vs Q E hG hr h => ?_)
  · obtain ⟨r, v, d, rfl, _⟩ := h
    rfl
  · obtain ⟨r, v, d, rfl, hd, q⟩ := h
    refine ⟨_, (pss_one (ps_ret (pe_and (pe_callB (id := "isinstance") call_isi (by rfl) T.m_isinstance (by decide +kernel) (pa_cons (pv 0) (pa_cons (pe_bltn (v := .ty "int") (u := .type "int") (by rfl) T.m_int (by decide +kernel) rfl) pa_nil))) (pe_one (pe_not (pe_callB (id := "isinstance") call_isi (by rfl) T.m_isinstance (by decide +kernel) (pa_cons (pv 0) (pa_cons (pe_bltn (v := .ty "bool") (u := .type "bool") (by rfl) T.m_bool (by decide +kernel) rfl) pa_nil)))))))), ?_⟩
    try dsimp only [cxOf, Cx.nox, Cx.wish]
    walk_at "go"
    refine k_isi hd (by decide) ?_
    walk_at "go"
    have q' := q H (Same.refl _)
    rw [← isInt_eq d] at q'
    cases h1 : isD "int" d with
    | true =>
      rw [h1] at q'
      rw [if_pos rfl]
      walk_at "go"
      refine k_isi hd (by decide) ?_
      walk_at "go"
      simpa using q'
    | false =>
      rw [h1] at q'
      rw [if_neg (by decide)]
      walk_at "go"
      simpa using q'
theorem ok_is_within {f : Addr} {fd : FuncData} (F : Fun K "is_within" "is_within" s_is_within f fd) (C_is_integer : Cal P w K mg base CX0 1 "is_integer" spIsInt) : FnG P w K mg base CX0 2 f fd ["value", "least", "most"] spWithin := by
  refine okG0 F sc_is_within (fun vs H Q E h => ?_) (fun cdv A outer s H vs Q E hG hr h => ?_)
  · obtain ⟨r, v, d, l, m, rfl, _⟩ := h
    rfl
  · obtain ⟨r, v, d, l, m, rfl, hd, q⟩ := h
    refine ⟨_, (pss_cons (ps_if (pt_not (pt_val (pe_f C_is_integer hG (hr.mono (by decide)) (by rfl) pass0 (pa_cons (pv 0) pa_nil)))) (pss_one (ps_ret pe_bl)) pss_nil)
      (pss_cons (ps_if (PW.pt (pw_and (pt_cmpR op_notN (pv 1) pe_non (nomark _)) (pw_and1 (pt_cmpR op_lt (pv 0) (pv 1) (nomark _))))) (pss_one (ps_ret pe_bl)) pss_nil)
      (pss_one (ps_ret (pe_or (pe_cmpR op_isN (pv 2) pe_non (nomark _)) (pe_one (pe_cmpR op_le (pv 0) (pv 2) (nomark _)))))))), ?_⟩
    try dsimp only [cxOf, Cx.nox, Cx.wish]
    walk_at "go"
    refine ⟨r, v, d, rfl, hd, fun H' s1 => ?_⟩
    walk_at "go"
    have q' := q H' s1
    by_cases hi : ∃ i, d = .int i
    · obtain ⟨i, rfl⟩ := hi
      cases hd
      refine iteF ?_
      have last : (b : Bool) → (lowD i l && highD i m) = b → Q (.bl b) H' := fun b e => e ▸ q'
      cases l with
      | none =>
        dsimp only [optV]
        walk_at "go"
        refine iteF (iteF ?_)
        walk_at "go"
        cases m with
        | none =>
          refine iteT ?_
          walk_at "go"
          exact last _ rfl
        | some x =>
          refine iteF ?_
          dsimp only [optV]
          walk_at "go"
          exact last _ rfl
      | some y =>
        dsimp only [optV]
        walk_at "go"
        refine iteT ?_
        walk_at "go"
        refine ite2 (fun h => ?_) (fun h => ?_)
        · walk_at "go"
          exact last _ (by have := of_decide_eq_true h; simp [lowD]; omega)
        · have hy : lowD i (some y) = true := by
            simp only [lowD, decide_eq_true_eq] at h ⊢
            omega
          walk_at "go"
          cases m with
          | none =>
            refine iteT ?_
            walk_at "go"
            exact last _ (by rw [hy]; rfl)
          | some x =>
            refine iteF ?_
            dsimp only [optV]
            walk_at "go"
            exact last _ (by rw [hy]; rfl)
    · have e : ndInt d = false := by cases d <;> first | rfl | exact absurd ⟨_, rfl⟩ hi
      have e2 : withinD d l m = false := by cases d <;> first | rfl | exact absurd ⟨_, rfl⟩ hi
      rw [e]
      rw [e2] at q'
      refine iteT ?_
      walk_at "go"
      exact q'
theorem ok_are_integers {f : Addr} {fd : FuncData} (F : Fun K "are_integers" "are_integers" s_are_integers f fd) (T : TxtC mg) (C_is_integer : Cal P w K mg base CX0 1 "is_integer" spIsInt) : FnG P w K mg base CX0 2 f fd ["value", "many"] spAreInts := by
  refine okG0 F sc_are_integers (fun vs H Q E h => ?_) (fun cdv A outer s H vs Q E hG hr h => ?_)
  · obtain ⟨r, v, d, k, rfl, _⟩ := h
    rfl
  · obtain ⟨r, v, d, k, rfl, hd, hz, q⟩ := h
    by_cases hT : isD "tuple" d = true
    · obtain ⟨ds, rfl⟩ : ∃ ds, d = .tuple ds := by cases d <;> first | exact ⟨_, rfl⟩ | cases hT
      refine ⟨_, (pss_cons (ps_if (PW.pt (pw_or (pt_not (pt_val (pe_callB (id := "isinstance") call_isiT (by rfl) T.m_isinstance (by decide +kernel) (pa_cons (pv 0) (pa_cons (pe_tup (pa_cons (pe_bltn (v := .ty "list") (u := .type "list") (by rfl) T.m_list (by decide +kernel) rfl) (pa_cons (pe_bltn (v := .ty "tuple") (u := .type "tuple") (by rfl) T.m_tuple (by decide +kernel) rfl) pa_nil))) pa_nil))))) (pw_or1 (pt_cmpR op_ne (pe_callB (id := "len") call_len_seq (by rfl) T.m_len PySem.boot_len (pa_cons (pv 0) pa_nil)) (pv 1) (nomark _))))) (pss_one (ps_ret pe_bl)) pss_nil)
      (pss_one (ps_ret (pe_callB (id := "all") (cr_all rfl) (by rfl) T.m_all (by decide +kernel) (pa_cons (pe_lc (own := [("item", 2)]) (g := gName 2) (tt := tYes) rfl sc_are_integers.nd (pi_tup (pv 0)) (blkOk_by (own := [("item", 2)]) (N := ["value", "many", "item"]) (sc := defScope s_are_integers) (by decide +kernel)) (fun _ _ _ _ _ => pg_name (i := 2) sc_are_integers.nd rfl (Or.inl rfl)) (fun _ _ _ _ _ => pts_nil) (fun _ _ _ _ _ => (pe_f C_is_integer hG (hr.mono (by decide)) (by rfl) pass0 (pa_cons (pv 2) pa_nil)))) pa_nil))))), ?_⟩
      try dsimp only [cxOf, Cx.nox, Cx.wish]
      have hd0 := hd
      cases hd with
      | @tup a xs _ na ea ha =>
      have hlen := ha.length
      have hz' := hz ds rfl
      walk_at "go"
      refine ⟨by show 2 ≤ sizeLine; decide, fun p hp => ?_⟩
      have s1 : Same H (upd H p (.tup [.ty "list", .ty "tuple"])) := Same.new hp
      have e1 : SqT K _ a xs := (ea.to fun u eu _ => s1 _ u eu).sq
      walk_at "go"
      refine k_isi2 (hd0.same s1) upd_same (by decide) (by decide) ?_
      walk_at "go"
      refine iteF ?_
      walk_at "go"
      refine ⟨a, xs, rfl, .inr e1, ?_⟩
      walk_at "go"
      by_cases hk : (xs.length : Int) = k
      · subst hk
        rw [show (!decide (V.int (xs.length : Int) = V.int (xs.length : Int))) = false by simp]
        refine iteF ?_
        walk_at "go"
        refine ⟨⟨_, e1⟩, ?_⟩
        refine lcIn_T (fun _ => true) (fun i => .bl (ndInt (ds.getD i .none))) e1 (by omega) (fun x => rfl) (fun i x H2 hi s2 => ⟨fun QT k => k _ (Same.refl _), fun _ H3 s3 QE k => ?_⟩) (fun p' H' np s3 hp' => ?_)
        · obtain ⟨d, hd, hx⟩ := ha.get hi
          walk_at "go"
          refine ⟨r, x, d, rfl, hx.same (s1.trans (s2.trans s3)), fun H4 s4 => ?_⟩
          walk_at "go"
          have := k H4 s4
          rw [List.getD_eq_getElem?_getD, hd] at this
          exact this
        · have e2 : given xs.length (fun _ => true) (fun i => V.bl (ndInt (ds.getD i .none))) = (ds.map ndInt).map V.bl := by
            refine given_all (by simp [hlen]) fun i x hi => ?_
            simp only [List.getElem?_map, Option.map_map] at hi
            obtain ⟨d, h1, h2⟩ := Option.map_eq_some_iff.mp hi
            rw [List.getD_eq_getElem?_getD, h1]
            exact h2
          rw [e2] at hp'
          walk_at "go"
          refine ⟨p', ds.map ndInt, rfl, .inl (.inl hp'), ?_⟩
          walk_at "go"
          have q' := q H' (s1.trans s3)
          simpa [areIntsD, itemsD, hlen, List.all_map] using q'
      · rw [show (!decide (V.int (xs.length : Int) = V.int k)) = true by simp [hk]]
        refine iteT ?_
        walk_at "go"
        have q' := q _ s1
        simpa [areIntsD, itemsD, ← hlen, hk] using q'
    by_cases hL : isD "list" d = true
    · obtain ⟨ds, rfl⟩ : ∃ ds, d = .list ds := by cases d <;> first | exact ⟨_, rfl⟩ | cases hL
      refine ⟨_, (pss_cons (ps_if (PW.pt (pw_or (pt_not (pt_val (pe_callB (id := "isinstance") call_isiT (by rfl) T.m_isinstance (by decide +kernel) (pa_cons (pv 0) (pa_cons (pe_tup (pa_cons (pe_bltn (v := .ty "list") (u := .type "list") (by rfl) T.m_list (by decide +kernel) rfl) (pa_cons (pe_bltn (v := .ty "tuple") (u := .type "tuple") (by rfl) T.m_tuple (by decide +kernel) rfl) pa_nil))) pa_nil))))) (pw_or1 (pt_cmpR op_ne (pe_callB (id := "len") call_len_seq (by rfl) T.m_len PySem.boot_len (pa_cons (pv 0) pa_nil)) (pv 1) (nomark _))))) (pss_one (ps_ret pe_bl)) pss_nil)
      (pss_one (ps_ret (pe_callB (id := "all") (cr_all rfl) (by rfl) T.m_all (by decide +kernel) (pa_cons (pe_lc (own := [("item", 2)]) (g := gName 2) (tt := tYes) rfl sc_are_integers.nd (pi_list (pv 0)) (blkOk_by (own := [("item", 2)]) (N := ["value", "many", "item"]) (sc := defScope s_are_integers) (by decide +kernel)) (fun _ _ _ _ _ => pg_name (i := 2) sc_are_integers.nd rfl (Or.inl rfl)) (fun _ _ _ _ _ => pts_nil) (fun _ _ _ _ _ => (pe_f C_is_integer hG (hr.mono (by decide)) (by rfl) pass0 (pa_cons (pv 2) pa_nil)))) pa_nil))))), ?_⟩
      try dsimp only [cxOf, Cx.nox, Cx.wish]
      have hd0 := hd
      cases hd with
      | @lst a xs _ na ea ha =>
      have hlen := ha.length
      have hz' := hz ds rfl
      walk_at "go"
      refine ⟨by show 2 ≤ sizeLine; decide, fun p hp => ?_⟩
      have s1 : Same H (upd H p (.tup [.ty "list", .ty "tuple"])) := Same.new hp
      have e1 := s1 _ _ ea
      walk_at "go"
      refine k_isi2 (hd0.same s1) upd_same (by decide) (by decide) ?_
      walk_at "go"
      refine iteF ?_
      walk_at "go"
      refine ⟨a, xs, rfl, .inl (.inl (.inl e1)), ?_⟩
      walk_at "go"
      by_cases hk : (xs.length : Int) = k
      · subst hk
        rw [show (!decide (V.int (xs.length : Int) = V.int (xs.length : Int))) = false by simp]
        refine iteF ?_
        walk_at "go"
        refine ⟨⟨_, .inl (.inl e1)⟩, ?_⟩
        refine lcIn_L (fun _ => true) (fun i => .bl (ndInt (ds.getD i .none))) (.inl (.inl e1)) (by omega) (fun x => rfl) (fun i x H2 hi s2 => ⟨fun QT k => k _ (Same.refl _), fun _ H3 s3 QE k => ?_⟩) (fun p' H' np s3 hp' => ?_)
        · obtain ⟨d, hd, hx⟩ := ha.get hi
          walk_at "go"
          refine ⟨r, x, d, rfl, hx.same (s1.trans (s2.trans s3)), fun H4 s4 => ?_⟩
          walk_at "go"
          have := k H4 s4
          rw [List.getD_eq_getElem?_getD, hd] at this
          exact this
        · have e2 : given xs.length (fun _ => true) (fun i => V.bl (ndInt (ds.getD i .none))) = (ds.map ndInt).map V.bl := by
            refine given_all (by simp [hlen]) fun i x hi => ?_
            simp only [List.getElem?_map, Option.map_map] at hi
            obtain ⟨d, h1, h2⟩ := Option.map_eq_some_iff.mp hi
            rw [List.getD_eq_getElem?_getD, h1]
            exact h2
          rw [e2] at hp'
          walk_at "go"
          refine ⟨p', ds.map ndInt, rfl, .inl (.inl hp'), ?_⟩
          walk_at "go"
          have q' := q H' (s1.trans s3)
          simpa [areIntsD, itemsD, hlen, List.all_map] using q'
      · rw [show (!decide (V.int (xs.length : Int) = V.int k)) = true by simp [hk]]
        refine iteT ?_
        walk_at "go"
        have q' := q _ s1
        simpa [areIntsD, itemsD, ← hlen, hk] using q'
    · refine ⟨_, (pss_cons (ps_if (PW.pt (pw_or (pt_not (pt_val (pe_callB (id := "isinstance") call_isiT (by rfl) T.m_isinstance (by decide +kernel) (pa_cons (pv 0) (pa_cons (pe_tup (pa_cons (pe_bltn (v := .ty "list") (u := .type "list") (by rfl) T.m_list (by decide +kernel) rfl) (pa_cons (pe_bltn (v := .ty "tuple") (u := .type "tuple") (by rfl) T.m_tuple (by decide +kernel) rfl) pa_nil))) pa_nil))))) (pw_or1 (pt_cmpR op_ne (pe_callB (id := "len") call_len_seq (by rfl) T.m_len PySem.boot_len (pa_cons (pv 0) pa_nil)) (pv 1) (nomark _))))) (pss_one (ps_ret pe_bl)) pss_nil)
      (pss_one (ps_ret (pe_callB (id := "all") (cr_all rfl) (by rfl) T.m_all (by decide +kernel) (pa_cons (pe_lc (own := [("item", 2)]) (g := gName 2) (tt := tYes) rfl sc_are_integers.nd (pi_list (pv 0)) (blkOk_by (own := [("item", 2)]) (N := ["value", "many", "item"]) (sc := defScope s_are_integers) (by decide +kernel)) (fun _ _ _ _ _ => pg_name (i := 2) sc_are_integers.nd rfl (Or.inl rfl)) (fun _ _ _ _ _ => pts_nil) (fun _ _ _ _ _ => (pe_f C_is_integer hG (hr.mono (by decide)) (by rfl) pass0 (pa_cons (pv 2) pa_nil)))) pa_nil))))), ?_⟩
      try dsimp only [cxOf, Cx.nox, Cx.wish]
      walk_at "go"
      refine ⟨by show 2 ≤ sizeLine; decide, fun p hp => ?_⟩
      have s1 : Same H (upd H p (.tup [.ty "list", .ty "tuple"])) := Same.new hp
      walk_at "go"
      refine k_isi2 (hd.same s1) upd_same (by decide) (by decide) ?_
      walk_at "go"
      rw [show (isD "list" d || isD "tuple" d) = false by simp [hL, hT]]
      refine iteT ?_
      refine iteT ?_
      walk_at "go"
      have q' := q _ s1
      have e : areIntsD d k = false := by cases d <;> first | rfl | exact absurd rfl hL | exact absurd rfl hT
      rw [e] at q'
      exact q'
theorem ok_need_integer {f : Addr} {fd : FuncData} (F : Fun K "need_integer" "need_integer" s_need_integer f fd) (C_is_within : Cal P w K mg base CX0 2 "is_within" spWithin) : FnG P w K mg base CX0 3 f fd ["value", "part", "least", "most"] spNeed := by
  refine okG0 F sc_need_integer (fun vs H Q E h => ?_) (fun cdv A outer s H vs Q E hG hr h => ?_)
  · obtain ⟨r, v, x, d, l, m, rfl, _⟩ := h
    rfl
  · obtain ⟨r, v, x, d, l, m, rfl, hd, hw, q⟩ := h
    refine ⟨_, (pss_one (ps_if (pt_not (pt_val (pe_f C_is_within hG (hr.mono (by decide)) (by rfl) pass0 (pa_cons (pv 0) (pa_cons (pv 2) (pa_cons (pv 3) pa_nil)))))) (pss_one ps_never) pss_nil)), ?_⟩
    try dsimp only [cxOf, Cx.nox, Cx.wish]
    walk_at "go"
    refine ⟨r, v, d, l, m, rfl, hd, fun H' s1 => ?_⟩
    walk_at "go"
    rw [hw]
    refine iteF ?_
    walk_at "go"
    exact q _ s1
end
end K45

namespace K45
open PySem PySem.Spec PyProof.Rows L2 Nd
abbrev s_sent_on : Stmt := top 17
theorem sc_sent_on : FnScope ["heaps", "lefts", "sent", "waiting_at", "waiting", "spot", "many", "to_left", "to_right"] ["heaps", "lefts"] (defScope s_sent_on) := ⟨rfl, rfl, rfl, by decide +kernel, rfl, by decide +kernel, by decide +kernel⟩
section
variable {P : Program} {w : World} {K : PySem.W.Frag} {mg : Str → Option Value} {base : Heap}
theorem ok_sent_on {f : Addr} {fd : FuncData} (F : Fun K "sent_on" "sent_on" s_sent_on f fd) (T : TxtC mg) : FnG P w K mg base CX0 1 f fd ["heaps", "lefts"] spSent := by
  refine okG0 F sc_sent_on (fun vs H Q E h => ?_) (fun cdv A outer s H vs Q E hG hr h => ?_)
  · obtain ⟨d, v, hs, ks, rfl, _⟩ := h
    rfl
  · obtain ⟨d, v, hs, ks, rfl, hv, ed, asc, nd, n1, n2, q⟩ := h
    refine ⟨_, (pss_cons (ps_set (i := 2) sc_sent_on.nd rfl (.inl rfl) (pe_lst pa_nil))
      (pss_cons (ps_asg (pe_tup (pa_cons pe_non (pa_cons pe_int pa_nil))) (pg_tup (by rfl) (pgs_cons (pg_name (i := 3) sc_sent_on.nd rfl (.inl rfl)) (pgs_cons (pg_name (i := 4) sc_sent_on.nd rfl (.inl rfl)) pgs_nil))))
      (pss_cons (ps_for PassesOwn.never rfl (pi_any (pv 0)) (pg_any (by rfl) (pgs_cons (pg_name (i := 5) sc_sent_on.nd rfl (.inl rfl)) (pgs_cons (pg_name (i := 6) sc_sent_on.nd rfl (.inl rfl)) pgs_nil))) (pss_cons (ps_asg2 (pe_op op_fdiv (pv 6) pe_int) (pg_name (i := 7) sc_sent_on.nd rfl (.inl rfl)) (pg_name (i := 8) sc_sent_on.nd rfl (.inl rfl)))
      (pss_cons (ps_if (pt_tru (pe_op op_mod (pv 6) pe_int) (by intro _; rfl)) (pss_one (ps_if (pt_cmp (pc_din (hu_of hr) (pv 5) (pv 1))) (pss_cons (ps_aug (i := 7) sc_sent_on.nd rfl (.inl rfl) pe_int ip_add)
      (pss_one (ps_ddel (pv 1) (pv 5)))) (pss_cons (ps_aug (i := 8) sc_sent_on.nd rfl (.inl rfl) pe_int ip_add)
      (pss_one (ps_dput (hu_of hr) (pv 1) (pv 5) pe_bl rfl))))) pss_nil)
      (pss_cons (ps_if (pt_cmpR op_eq (pv 3) (pe_op op_sub (pv 5) pe_int) (nomark _)) (pss_one (ps_aug (i := 7) sc_sent_on.nd rfl (.inl rfl) (pv 4) ip_add)) (pss_one (ps_if (pt_tru (pv 4) (by intro _; rfl)) (pss_one (ps_expr (pe_bm PySem.F.plainAttrs_list PySem.F.slot_list_append PySem.F.type_list_append mt_append (pv 2) (pa_cons (pe_tup (pa_cons (pv 3) (pa_cons (pv 4) pa_nil))) pa_nil)))) pss_nil)))
      (pss_cons (ps_if (pt_tru (pv 7) (by intro _; rfl)) (pss_one (ps_expr (pe_bm PySem.F.plainAttrs_list PySem.F.slot_list_append PySem.F.type_list_append mt_append (pv 2) (pa_cons (pe_tup (pa_cons (pe_op op_sub (pv 5) pe_int) (pa_cons (pv 7) pa_nil))) pa_nil)))) pss_nil)
      (pss_one (ps_par (i := 3) (j := 4) (by rfl) sc_sent_on.nd rfl rfl (by decide) rfl rfl (pa_cons (pe_op op_add (pv 5) pe_int) (pa_cons (pv 8) pa_nil)) (by rfl))))))))
      (pss_cons (ps_if (pt_tru (pv 4) (by intro _; rfl)) (pss_one (ps_expr (pe_bm PySem.F.plainAttrs_list PySem.F.slot_list_append PySem.F.type_list_append mt_append (pv 2) (pa_cons (pe_tup (pa_cons (pv 3) (pa_cons (pv 4) pa_nil))) pa_nil)))) pss_nil)
      (pss_one (ps_ret (pv 2))))))), ?_⟩
    try dsimp only [cxOf, Cx.nox, Cx.wish]
    obtain ⟨a, xs, rfl, na, ea, hp⟩ := hv.ex
    generalize hσ0 : L2.start _ _ = σ0
    obtain rfl : σ0 = ([some (.ref a), some (.ref d), none, none, none, none, none, none, none] : L2.St) := by rw [← hσ0]; rfl
    clear hσ0
    walk_at "gs"
    refine ⟨small64 (by simp), fun pl hpl => ?_⟩
    generalize hU : upd _ pl _ = H1
    obtain ⟨s1, e1⟩ := upd_facts hU hpl
    clear hU
    walk_at "gs"
    refine ⟨small64 (by simp), fun pz hpz => ?_⟩
    generalize hU : upd H1 pz _ = H2
    obtain ⟨s2, e2⟩ := upd_facts hU hpz
    clear hU
    refine k_gtup (.inl (.inl e2)) rfl ?_
    walk_at "gs"
    have s12 := s1.trans s2
    have ed2 := s12 _ _ ed
    have el2 := s2 _ _ e1
    have npd : pl ≠ d := fun z => by
      rw [z, ed] at hpl
      cases hpl
    have gapS := asc.gap
    refine ⟨a, xs, rfl, seqA (seqTo ea fun u => s12 _ u), fun J G Wk hG => ?_⟩
    let L : Int → Bool := fun s => decide (s ∈ ks)
    refine forIn_it Wk (fun i σ' Hc => But d H Hc ∧ Hc d = some (.dK ((turnsK ks (hs.take i)).map entB)) ∧ ∃ ts out wv wa w x5 x6 x7 x8, Hc pl = some (.lst (ts.map V.ref)) ∧ Paired (PrI H Hc) ts out ∧ (wv = .non ∧ w = 0 ∨ wv = .int wa) ∧ 0 ≤ w ∧ out ++ mrg ((hs.drop i).map (trip L)) wa w = sentF L hs ∧
        σ' = [some (.ref a), some (.ref d), some (.ref pl), some wv, some (.int w), x5, x6, x7, x8])
      ⟨But.of s12, ed2, [], [], .non, 0, 0, _, _, _, _, el2, .nil, .inl ⟨rfl, rfl⟩, by decide, rfl, rfl⟩ (fun i σ' Hc _ z => hG Hc fun o e => by
        obtain ⟨ox, hox⟩ : ∃ ox, H a = some ox := ea.elim (fun e => ⟨_, e⟩) fun e => e.elim (fun e => ⟨_, e⟩) fun ⟨_, _, e⟩ => ⟨_, e⟩
        rw [s12 _ _ hox] at e
        cases e
        exact z.1 _ _ na hox) (fun i x σ' Hq Hc hi z y => ?_) (fun σ' Hc z => ?_)
    · obtain ⟨bc, edc, ts, out, wv, wa, w, x5, x6, x7, x8, el, hts, hwv, w0, hout, rfl⟩ := z
      obtain ⟨rfl, hx⟩ := y
      obtain ⟨p, hpi, hpr⟩ := Nd.paired_get hp hx
      have hil : i < hs.length := (List.getElem?_eq_some_iff.mp hpi).1
      refine (hpr.but bc).any ?_
      walk_at "gs"
      refine k_stJ (fun σ' H' => Hc = H' ∧ σ' = [some (.ref a), some (.ref d), some (.ref pl), some wv, some (.int w), some (.int p.1), some (.int p.2), some (.int (p.2 / 2)), some (.int (p.2 / 2))]) (fun nx' kN => ?_) (fun σ' H' z => ?_)
      · refine k_asg2 ?_
        walk_at "gs"
        refine k_I ⟨by decide, by decide⟩ ?_
        walk_at "gs"
        exact kN _ _ ⟨rfl, rfl⟩
      · obtain ⟨rfl, rfl⟩ := z
        have hpos := asc.pos p (List.mem_of_getElem? hpi)
        have off : ∀ q ∈ hs.take i, q.1 ≠ p.1 := fun q hq e => by
          obtain ⟨j, hj, hjq⟩ := List.mem_take_iff_getElem.mp hq
          have := List.pairwise_iff_getElem.mp gapS j i (by omega) hil (by omega)
          rw [hjq, (List.getElem?_eq_some_iff.mp hpi).2] at this
          omega
        have hmem : p.1 ∈ turnsK ks (hs.take i) ↔ p.1 ∈ ks := turnsK_off off
        have hL : L p.1 = decide (p.1 ∈ turnsK ks (hs.take i)) := by
          show decide (p.1 ∈ ks) = _
          simp [hmem]
        have hkl : (turnsK ks (hs.take i)).length ≤ ks.length + i := Nat.le_trans (turnsK_len _ _) (by rw [List.length_take]; omega)
        have tk : turnsK ks (hs.take (i + 1)) = turnK (turnsK ks (hs.take i)) p := by
          rw [List.take_succ, hpi, Option.toList_some, turnsK_snoc]
        generalize hK : turnsK ks (hs.take i) = kz at edc hmem hL hkl tk
        refine k_seq (k_stJ (fun σ' H' => But d H H' ∧ H' d = some (.dK ((turnK kz p).map entB)) ∧ (∀ b, b ≠ d → H' b = Hc b) ∧ σ' = [some (.ref a), some (.ref d), some (.ref pl), some wv, some (.int w), some (.int p.1), some (.int p.2), some (.int (sL L p)), some (.int (sR L p))]) (fun nx' kN => ?_) (fun σ' H3 z => ?_))
        · walk_at "gs"
          refine k_I (by decide) ?_
          walk_at "gs"
          refine ⟨_, rfl, ?_⟩
          by_cases hodd : p.2 % 2 = 1
          · rw [if_pos (by simp [hodd])]
            walk_at "gs"
            refine k_din ?_
            walk_at "gs"
            refine ⟨d, _, rfl, DGet.k (k := .inl p.1) edc, ?_⟩
            rw [valV_entB]
            walk_at "gs"
            by_cases hin : p.1 ∈ kz
            · have hLt : L p.1 = true := by rw [hL]; simp [hin]
              rw [if_pos (by simp [hin])]
              walk_at "gs"
              refine ⟨_, _, rfl, rfl, ?_⟩
              walk_at "gs"
              refine k_ddel ?_
              walk_at "gs"
              refine ⟨d, _, .inl p.1, rfl, edc, rfl, by rw [valV_entB]; simp [hin], ?_⟩
              rw [dropK_entB]
              refine kN _ _ ⟨bc.trans But.put, ?_, fun b nb => upd_ne nb, ?_⟩
              · rw [upd_same, turnK, if_pos hodd, if_pos hin]
              · rw [sL, sR, if_pos ⟨hodd, hLt⟩, if_neg (by rw [hLt]; simp)]
                rfl
            · have hLf : L p.1 = false := by rw [hL]; simp [hin]
              rw [if_neg (by simp [hin])]
              walk_at "gs"
              refine ⟨_, _, rfl, rfl, ?_⟩
              walk_at "gs"
              refine ⟨d, _, rfl, DPut.k (k := .inl p.1) edc (by rw [List.length_map, sizeLine_eq]; omega), ?_⟩
              rw [putK_entB hin]
              refine kN _ _ ⟨bc.trans But.put, ?_, fun b nb => upd_ne nb, ?_⟩
              · rw [upd_same, turnK, if_pos hodd, if_neg hin]
              · rw [sL, sR, if_neg (by rw [hLf]; simp), if_pos ⟨hodd, hLf⟩]
                rfl
          · rw [if_neg (by simp; omega)]
            walk_at "gs"
            refine kN _ _ ⟨bc, ?_, fun b nb => rfl, ?_⟩
            · rw [turnK, if_neg hodd]
              exact edc
            · rw [sL, sR, if_neg (fun z => hodd z.1), if_neg (fun z => hodd z.1)]
        · obtain ⟨b3, ed3, same3, rfl⟩ := z
          have el3 : H3 pl = some (.lst (ts.map V.ref)) := (same3 pl npd).trans el
          have hts3 : Paired (PrI H H3) ts out := pairs_mono (fun t q h => ⟨h.1, (same3 t (fun z => by rw [z] at h; rw [h.1] at ed; cases ed)).trans h.2⟩) hts
          have hdrop : hs.drop i = p :: hs.drop (i + 1) := by rw [List.drop_eq_getElem_cons hil]; congr 1; exact (List.getElem?_eq_some_iff.mp hpi).2
          rw [hdrop, List.map_cons] at hout
          have l0 := sL_nonneg (L := L) (p := p) (by omega)
          have r0 := sR_nonneg (L := L) (p := p) (by omega)
          have few : (sentF L hs).length ≤ 6000001 := Nat.le_trans (mrg_len _ _ _) (by rw [List.length_map]; omega)
          have fresh : ∀ {Hx : Hp} {b : Addr}, But d H Hx → Hx d ≠ none → Hx b = none → H b = none := fun {Hx b} bb nd nb => by
            cases e : H b with
            | none => rfl
            | some o =>
              by_cases hbd : b = d
              · rw [hbd] at nb
                exact absurd nb nd
              · rw [bb _ _ hbd e] at nb
                cases nb
          have nd3 : H3 d ≠ none := by rw [ed3]; simp
          refine k_seq (k_stJ (fun σ' H' => ∃ ts2 out2 tl, But d H H' ∧ H' d = some (.dK ((turnK kz p).map entB)) ∧ H' pl = some (.lst (ts2.map V.ref)) ∧ Paired (PrI H H') ts2 out2 ∧ out2 ++ (pc (p.1 - 1) tl ++ mrg ((hs.drop (i + 1)).map (trip L)) (p.1 + 1) (sR L p)) = sentF L hs ∧
            σ' = [some (.ref a), some (.ref d), some (.ref pl), some wv, some (.int w), some (.int p.1), some (.int p.2), some (.int tl), some (.int (sR L p))]) (fun nx' kN => ?_) (fun σ' H5 z => ?_))
          · walk_at "gs"
            refine k_eq (by rcases hwv with ⟨rfl, _⟩ | rfl <;> rfl) ?_
            walk_at "gs"
            by_cases hw0 : w = 0
            · rw [show mrg (trip L p :: (hs.drop (i + 1)).map (trip L)) wa w = pc (p.1 - 1) (sL L p) ++ mrg ((hs.drop (i + 1)).map (trip L)) (p.1 + 1) (sR L p) by rw [hw0]; exact mrg_cons0 _ _ _ _ _] at hout
              by_cases hc : wv = .int (p.1 - 1)
              · rw [if_pos (by simp [hc])]
                walk_at "gs"
                refine ⟨_, _, rfl, rfl, ?_⟩
                walk_at "gs"
                exact kN _ _ ⟨ts, out, sL L p + w, b3, ed3, el3, hts3, (by rw [hw0, Int.add_zero]; exact hout), rfl⟩
              · rw [if_neg (by simp [hc])]
                walk_at "gs"
                refine ⟨_, rfl, ?_⟩
                rw [if_neg (by simp [hw0])]
                walk_at "gs"
                exact kN _ _ ⟨ts, out, _, b3, ed3, el3, hts3, hout, rfl⟩
            · obtain rfl : wv = .int wa := by
                rcases hwv with ⟨_, e⟩ | e
                · exact absurd e hw0
                · exact e
              by_cases hc : wa = p.1 - 1
              · subst hc
                rw [show mrg (trip L p :: (hs.drop (i + 1)).map (trip L)) (p.1 - 1) w = _ from mrg_at _ _ _ _ _] at hout
                rw [if_pos (by simp)]
                walk_at "gs"
                refine ⟨_, _, rfl, rfl, ?_⟩
                walk_at "gs"
                exact kN _ _ ⟨ts, out, _, b3, ed3, el3, hts3, hout, rfl⟩
              · rw [show mrg (trip L p :: (hs.drop (i + 1)).map (trip L)) wa w = pc wa w ++ (pc (p.1 - 1) (sL L p) ++ mrg ((hs.drop (i + 1)).map (trip L)) (p.1 + 1) (sR L p)) from mrg_off hc, pc, if_neg hw0] at hout
                rw [if_neg (by simp [hc])]
                walk_at "gs"
                refine ⟨_, rfl, ?_⟩
                rw [if_pos (by simp [hw0])]
                walk_at "gs"
                refine ⟨.inl ⟨rfl, _, .inl (.inl el3)⟩, ?_⟩
                walk_at "gs"
                refine ⟨small64 (by simp), fun pb hpb => ?_⟩
                generalize hU : upd _ pb _ = H4
                obtain ⟨s4, e4⟩ := upd_facts hU hpb
                clear hU
                walk_at "gs"
                have el4 := s4 _ _ el3
                refine k_app el4 (by rw [List.length_map, pairs_len hts3]; exact (have := congrArg List.length hout; by simp only [List.length_append, List.length_cons] at this; rw [sizeLine_eq]; omega)) ?_
                walk_at "gs"
                refine kN _ _ ⟨ts ++ [pb], out ++ [(wa, w)], _, (b3.trans (But.of s4)).over hpl, ?_, ?_, snocI (fresh b3 nd3 hpb) hts3 s4 hpb e4 el4, ?_, rfl⟩
                · rw [upd_ne (Ne.symm npd)]
                  exact s4 _ _ ed3
                · rw [upd_same, List.map_append]
                  rfl
                · rw [List.append_assoc]
                  exact hout
          · obtain ⟨ts2, out2, tl, b5, ed5, el5, hts5, hout5, rfl⟩ := z
            have nd5 : H5 d ≠ none := by rw [ed5]; simp
            have fin : ∀ {H6 : Hp} {ts6 : List Addr} {out6 : List (Int × Int)}, But d H H6 → H6 d = some (.dK ((turnK kz p).map entB)) → H6 pl = some (.lst (ts6.map V.ref)) → Paired (PrI H H6) ts6 out6 → out6 ++ mrg ((hs.drop (i + 1)).map (trip L)) (p.1 + 1) (sR L p) = sentF L hs →
                But d H H6 ∧ H6 d = some (.dK ((turnsK ks (hs.take (i + 1))).map entB)) ∧ ∃ ts out wv wa w x5 x6 x7 x8, H6 pl = some (.lst (ts.map V.ref)) ∧ Paired (PrI H H6) ts out ∧ (wv = .non ∧ w = 0 ∨ wv = .int wa) ∧ 0 ≤ w ∧ out ++ mrg ((hs.drop (i + 1)).map (trip L)) wa w = sentF L hs ∧
                  ([some (.ref a), some (.ref d), some (.ref pl), some (.int (p.1 + 1)), some (.int (sR L p)), some (.int p.1), some (.int p.2), some (.int tl), some (.int (sR L p))] : L2.St) = ([some (.ref a), some (.ref d), some (.ref pl), some wv, some (.int w), x5, x6, x7, x8] : L2.St) :=
              fun h1 h2 h3 h4 h5 => ⟨h1, by rw [tk]; exact h2, _, _, .int (p.1 + 1), p.1 + 1, sR L p, _, _, _, _, h3, h4, .inr rfl, r0, h5, rfl⟩
            walk_at "gs"
            refine ⟨_, rfl, ?_⟩
            by_cases ht0 : tl = 0
            · rw [if_neg (by simp [ht0])]
              walk_at "gs"
              rw [ht0, pc, if_pos rfl] at hout5
              exact fin b5 ed5 el5 hts5 hout5
            · rw [if_pos (by simp [ht0])]
              rw [pc, if_neg ht0] at hout5
              walk_at "gs"
              refine ⟨.inl ⟨rfl, _, .inl (.inl el5)⟩, ?_⟩
              walk_at "gs"
              refine ⟨small64 (by simp), fun pb hpb => ?_⟩
              generalize hU : upd _ pb _ = H4
              obtain ⟨s4, e4⟩ := upd_facts hU hpb
              clear hU
              walk_at "gs"
              have el4 := s4 _ _ el5
              refine k_app el4 (by rw [List.length_map, pairs_len hts5]; exact (have := congrArg List.length hout5; by simp only [List.length_append, List.length_cons] at this; rw [sizeLine_eq]; omega)) ?_
              walk_at "gs"
              refine fin ((b5.trans (But.of s4)).over hpl) ?_ ?_ (snocI (fresh b5 nd5 hpb) hts5 s4 hpb e4 el4) ?_
              · rw [upd_ne (Ne.symm npd)]
                exact s4 _ _ ed5
              · rw [upd_same, List.map_append]
                rfl
              · rw [List.append_assoc]
                exact hout5
    · obtain ⟨bc, edc, ts, out, wv, wa, w, x5, x6, x7, x8, el, hts, hwv, w0, hout, rfl⟩ := z
      have hxl := pairs_len hp
      rw [hxl, List.take_length] at edc
      rw [hxl, List.drop_length] at hout
      rw [List.map_nil, mrg] at hout
      walk_at "gs"
      refine ⟨_, rfl, ?_⟩
      by_cases hw0 : w = 0
      · rw [if_neg (by simp [hw0])]
        rw [hw0, pc, if_pos rfl, List.append_nil] at hout
        walk_at "gs"
        exact q _ pl ts bc edc hpl el (hout ▸ hts)
      · obtain rfl : wv = .int wa := by
          rcases hwv with ⟨_, e⟩ | e
          · exact absurd e hw0
          · exact e
        rw [if_pos (by simp [hw0])]
        rw [pc, if_neg hw0] at hout
        walk_at "gs"
        refine ⟨.inl ⟨rfl, _, .inl (.inl el)⟩, ?_⟩
        walk_at "gs"
        refine ⟨small64 (by simp), fun pb hpb => ?_⟩
        generalize hU : upd _ pb _ = H4
        obtain ⟨s4, e4⟩ := upd_facts hU hpb
        clear hU
        walk_at "gs"
        have el4 := s4 _ _ el
        have few : (sentF L hs).length ≤ 6000001 := Nat.le_trans (mrg_len _ _ _) (by rw [List.length_map]; omega)
        refine k_app el4 (by rw [List.length_map, pairs_len hts]; exact (have := congrArg List.length hout; by simp only [List.length_append, List.length_cons] at this; rw [sizeLine_eq]; omega)) ?_
        walk_at "gs"
        have nb : H pb = none := by
          cases e : H pb with
          | none => rfl
          | some o =>
            by_cases hbd : pb = d
            · rw [hbd, edc] at hpb
              cases hpb
            · rw [bc _ _ hbd e] at hpb
              cases hpb
        refine q _ pl (ts ++ [pb]) ((bc.trans (But.of s4)).over hpl) ?_ hpl ?_ (hout ▸ snocI nb hts s4 hpb e4 el4)
        · rw [upd_ne (Ne.symm npd)]
          exact s4 _ _ edc
        · rw [upd_same, List.map_append]
          rfl
end
end K45

namespace K45
open PySem PySem.Spec PyProof.Rows L2 Nd
abbrev s_are_lefts : Stmt := top 14
theorem sc_are_lefts : FnScope ["value", "spot"] ["value"] (defScope s_are_lefts) := ⟨rfl, rfl, rfl, by decide +kernel, rfl, by decide +kernel, by decide +kernel⟩
abbrev s_need_lefts : Stmt := top 15
theorem sc_need_lefts : FnScope ["value"] ["value"] (defScope s_need_lefts) := ⟨rfl, rfl, rfl, by decide +kernel, rfl, by decide +kernel, by decide +kernel⟩
section
variable {P : Program} {w : World} {K : PySem.W.Frag} {mg : Str → Option Value} {base : Heap}
theorem ok_are_lefts {f : Addr} {fd : FuncData} (F : Fun K "are_lefts" "are_lefts" s_are_lefts f fd) (T : TxtC mg) (C_is_within : Cal P w K mg base CX0 2 "is_within" spWithin) : FnG P w K mg base CX0 3 f fd ["value"] spAreLefts := by
  refine okG0 F sc_are_lefts (fun vs H Q E h => ?_) (fun cdv A outer s H vs Q E hG hr h => ?_)
  · obtain ⟨r, v, d, rfl, _⟩ := h
    rfl
  · obtain ⟨r, v, d, rfl, hd, hl, q⟩ := h
    refine ⟨_, (pss_cons (ps_if (PW.pt (pw_or (pt_not (pt_val (pe_callB (id := "isinstance") call_isiT (by rfl) T.m_isinstance (by decide +kernel) (pa_cons (pv 0) (pa_cons (pe_tup (pa_cons (pe_bltn (v := .ty "list") (u := .type "list") (by rfl) T.m_list (by decide +kernel) rfl) (pa_cons (pe_bltn (v := .ty "tuple") (u := .type "tuple") (by rfl) T.m_tuple (by decide +kernel) rfl) pa_nil))) pa_nil))))) (pw_or1 (pt_cmpR op_gt (pe_callB (id := "len") call_len_seq (by rfl) T.m_len PySem.boot_len (pa_cons (pv 0) pa_nil)) (C8.pe_gc rfl T.c_MOST_LEFTS) (nomark _))))) (pss_one (ps_ret pe_bl)) pss_nil)
      (pss_cons (ps_if (pt_not (pt_val (pe_callB (id := "all") (cr_all rfl) (by rfl) T.m_all (by decide +kernel) (pa_cons (pe_lc (own := [("spot", 1)]) (g := gName 1) (tt := tYes) rfl sc_are_lefts.nd (pi_any (pv 0)) (blkOk_by (own := [("spot", 1)]) (N := ["value", "spot"]) (sc := defScope s_are_lefts) (by decide +kernel)) (fun _ _ _ _ _ => pg_name (i := 1) sc_are_lefts.nd rfl (Or.inl rfl)) (fun _ _ _ _ _ => pts_nil) (fun _ _ _ _ _ => (pe_f C_is_within hG (hr.mono (by decide)) (by rfl) pass0 (pa_cons (pv 1) (pa_cons (pe_un un_neg (C8.pe_gc rfl T.c_FARTHEST)) (pa_cons (C8.pe_gc rfl T.c_FARTHEST) pa_nil)))))) pa_nil)))) (pss_one (ps_ret pe_bl)) pss_nil)
      (pss_one (ps_ret (pe_cmpR op_eq (pe_callB (id := "len") call_lenS (by rfl) T.m_len PySem.boot_len (pa_cons (pe_callTy (cr_setC rfl) (by rfl) T.m_set (by decide +kernel) (pa_cons (pv 0) pa_nil)) pa_nil)) (pe_callB (id := "len") call_len_seq (by rfl) T.m_len PySem.boot_len (pa_cons (pv 0) pa_nil)) (nomark _)))))), ?_⟩
    try dsimp only [cxOf, Cx.nox, Cx.wish]
    walk_at "go"
    refine ⟨by show 2 ≤ sizeLine; decide, fun p hp => ?_⟩
    have s1 : Same H (upd H p (.tup [.ty "list", .ty "tuple"])) := Same.new hp
    walk_at "go"
    refine k_isi2 (hd.same s1) upd_same (by decide) (by decide) ?_
    walk_at "go"
    generalize upd H p (.tup [.ty "list", .ty "tuple"]) = H1 at s1 ⊢
    cases hi : itemsD d with
    | none =>
      rw [show (isD "list" d || isD "tuple" d) = false by rw [isD_items, hi]; rfl]
      refine iteT ?_
      refine iteT ?_
      walk_at "go"
      have q' := q _ s1
      rw [show leftsD d = false by simp [leftsD, hi]] at q'
      exact q'
    | some ds =>
      rw [show (isD "list" d || isD "tuple" d) = true by rw [isD_items, hi]; rfl]
      obtain ⟨a, xs, rfl, na, ea, hall⟩ := (hd.same s1).items hi
      have hlen := hall.length
      have hz := hl ds hi
      refine iteF ?_
      walk_at "go"
      refine ⟨a, xs, rfl, seqA ea, ?_⟩
      walk_at "go"
      have q0 := q H1 s1
      rw [show leftsD d = (decide (ds.length ≤ 400) && (ds.all leftD && decide ((ds.map spotD).Nodup))) by simp [leftsD, hi]] at q q0
      refine ite2 (fun h60 => ?_) (fun h60 => ?_)
      · have h60' := of_decide_eq_true h60
        walk_at "go"
        rw [decide_eq_false (show ¬ ds.length ≤ 400 by omega), Bool.false_and] at q0
        exact q0
      · have h60' : xs.length ≤ 400 := by
          have : ¬ (400 : Int) < (xs.length : Int) := fun z => h60 (decide_eq_true z)
          omega
        rw [decide_eq_true (show ds.length ≤ 400 by omega)] at q
        simp only [Bool.true_and] at q
        clear q0
        walk_at "go"
        refine ⟨a, xs, rfl, seqA ea, fun J G W hG => ?_⟩
        refine lcIn_W W (fun _ => true) (fun i => .bl (leftD (ds.getD i .none))) (fun H' s => hG H' fun o e => s _ _ e) (by omega) (fun x => rfl) (fun i x H2 hx s2 => ⟨fun QT k => k _ (Same.refl _), fun _ H3 s3 QE k => ?_⟩) (fun p' H' np s3 hp' => ?_)
        · obtain ⟨d', hd', hx'⟩ := hall.get hx
          walk_at "go"
          refine ⟨r, x, d', some (-1000000), some 1000000, rfl, hx'.same (s2.trans s3), fun H4 s4 => ?_⟩
          have := k H4 s4
          rw [List.getD_eq_getElem?_getD, hd'] at this
          exact this
        · have e2 : given xs.length (fun _ => true) (fun i => V.bl (leftD (ds.getD i .none))) = (ds.map leftD).map V.bl := by
            refine given_all (by simp [hlen]) fun i x hi => ?_
            simp only [List.getElem?_map, Option.map_map] at hi
            obtain ⟨d', h1, h2⟩ := Option.map_eq_some_iff.mp hi
            rw [List.getD_eq_getElem?_getD, h1]
            exact h2
          rw [e2] at hp'
          walk_at "go"
          refine ⟨p', ds.map leftD, rfl, .inl (.inl hp'), ?_⟩
          walk_at "go"
          rw [List.all_map, show (id ∘ leftD) = leftD from rfl]
          cases hb : ds.all leftD with
          | false =>
            refine iteT ?_
            walk_at "go"
            have := q _ (s1.trans s3)
            rw [hb, Bool.false_and] at this
            exact this
          | true =>
            refine iteF ?_
            simp only [hb, Bool.true_and] at q
            obtain rfl := drAll_lefts hall hb
            have ea3 : SqA K H' a _ := (seqA ea).stay fun o e => s3 _ _ e
            walk_at "go"
            have hl2 : (ds.map spotD).length ≤ 400 := by rw [List.length_map]; rw [List.length_map, List.length_map] at h60'; exact h60'
            refine ⟨a, ds.map spotD, rfl, ea3, by omega, fun ps c c1 c2 hps => ?_⟩
            generalize hU : upd H' ps _ = H4
            obtain ⟨s4, eps⟩ := upd_facts hU hps
            clear hU
            walk_at "go"
            have hcl : c ≤ (ds.map spotD).length := by
              by_cases h : (ds.map spotD).Nodup
              · exact Nat.le_of_eq (c1 h)
              · exact Nat.le_of_lt (c2 h)
            refine ⟨ps, _, _, rfl, eps, ?_, ?_⟩
            · have : scanBound = 4096 := rfl
              omega
            walk_at "go"
            refine ⟨a, _, rfl, ea3.stay fun o e => s4 _ _ e, ?_⟩
            walk_at "go"
            have := q _ (s1.trans (s3.trans s4))
            rw [show decide (V.int (c : Int) = V.int (((ds.map spotD).map V.int).length : Int)) = decide ((ds.map spotD).Nodup) from decide_eq_decide.mpr ?_]
            · exact this
            · rw [V.int.injEq, List.length_map (f := V.int)]
              by_cases h : (ds.map spotD).Nodup
              · rw [c1 h]
                simp [h]
              · have := c2 h
                simp only [h, iff_false]
                omega
theorem ok_need_lefts {f : Addr} {fd : FuncData} (F : Fun K "need_lefts" "need_lefts" s_need_lefts f fd) (C_are_lefts : Cal P w K mg base CX0 3 "are_lefts" spAreLefts) : FnG P w K mg base CX0 4 f fd ["value"] spNeedLefts := by
  refine okG0 F sc_need_lefts (fun vs H Q E h => ?_) (fun cdv A outer s H vs Q E hG hr h => ?_)
  · obtain ⟨r, v, ks, rfl, _⟩ := h
    rfl
  · obtain ⟨r, v, ks, rfl, hv, q⟩ := h
    refine ⟨_, (pss_one (ps_if (pt_not (pt_val (pe_f C_are_lefts hG (hr.mono (by decide)) (by rfl) pass0 (pa_cons (pv 0) pa_nil)))) (pss_one ps_never) pss_nil)), ?_⟩
    try dsimp only [cxOf, Cx.nox, Cx.wish]
    obtain ⟨d, hd, hl, hw, _⟩ := hv.dr
    walk_at "go"
    refine ⟨r, v, d, rfl, hd, hl, fun H' s1 => ?_⟩
    walk_at "go"
    rw [hw]
    refine iteF ?_
    walk_at "go"
    exact q _ s1
end
end K45

namespace K45
open PySem PySem.Spec PyProof.Rows L2 Nd
abbrev s__need_field : Stmt := top 25
theorem sc__need_field : FnScope ["low", "high", "ticks"] ["low", "high", "ticks"] (defScope s__need_field) := ⟨rfl, rfl, rfl, by decide +kernel, rfl, by decide +kernel, by decide +kernel⟩
section
variable {P : Program} {w : World} {K : PySem.W.Frag} {mg : Str → Option Value} {base : Heap}
theorem ok_need_field {f : Addr} {fd : FuncData} (F : Fun K "_need_field" "_need_field" s__need_field f fd) (T : TxtC mg) (C_need_integer : Cal P w K mg base CX0 3 "need_integer" spNeed) : FnG P w K mg base CX0 4 f fd ["low", "high", "ticks"] spNeedField := by
  refine okG0 F sc__need_field (fun vs H Q E h => ?_) (fun cdv A outer s H vs Q E hG hr h => ?_)
  · obtain ⟨lo, hi, t, rfl, _⟩ := h
    rfl
  · obtain ⟨lo, hi, t, rfl, h1, h2, h3, h4, ht, q⟩ := h
    refine ⟨_, (pss_cons (ps_expr (pe_f C_need_integer hG (hr.mono (by decide)) (by rfl) pass0 (pa_cons (pv 0) (pa_cons pe_str (pa_cons (pe_un un_neg (C8.pe_gc rfl T.c_FARTHEST_LOW)) (pa_cons (C8.pe_gc rfl T.c_FARTHEST_LOW) pa_nil))))))
      (pss_cons (ps_expr (pe_f C_need_integer hG (hr.mono (by decide)) (by rfl) pass0 (pa_cons (pv 1) (pa_cons pe_str (pa_cons (pv 0) (pa_cons (pe_op op_add (pv 0) (C8.pe_gc rfl T.c_MOST_WIDE)) pa_nil))))))
      (pss_one (ps_expr (pe_f C_need_integer hG (hr.mono (by decide)) (by rfl) pass0 (pa_cons (pv 2) (pa_cons pe_str (pa_cons pe_int (pa_cons (C8.pe_gc rfl T.c_MOST_TICKS) pa_nil))))))))), ?_⟩
    try dsimp only [cxOf, Cx.nox, Cx.wish]
    generalize hσ0 : L2.start _ _ = σ0
    obtain rfl : σ0 = ([some (.int lo), some (.int hi), some (.int (t : Int))] : L2.St) := by rw [← hσ0]; rfl
    clear hσ0
    walk_at "gl"
    refine ⟨0, .int lo, _, .int lo, some (-999900), some 999900, rfl, .int _, by simp [withinD, lowD, highD]; omega, fun H1 s1 => ?_⟩
    walk_at "gl"
    refine ⟨0, .int hi, _, .int hi, some lo, some (lo + 80), rfl, .int _, by simp [withinD, lowD, highD]; omega, fun H2 s2 => ?_⟩
    walk_at "gl"
    refine ⟨0, .int (t : Int), _, .int (t : Int), some 0, some 10, rfl, .int _, by simp [withinD, lowD, highD]; omega, fun H3 s3 => ?_⟩
    walk_at "gl"
    exact q _ (s1.trans (s2.trans s3))
end
end K45

namespace K45
open PySem PySem.Spec PyProof.Rows L2 Nd
abbrev s__law_lefts : Stmt := top 31
theorem sc__law_lefts : FnScope ["genie", "found", "turn", "spot"] ["genie"] (defScope s__law_lefts) := ⟨rfl, rfl, rfl, by decide +kernel, rfl, by decide +kernel, by decide +kernel⟩
section
variable {P : Program} {w : World} {K : PySem.W.Frag} {mg : Str → Option Value} {base : Heap}
theorem ok_leftsN {f : Addr} {fd : FuncData} (F : Fun K "_law_lefts" "_law_lefts" s__law_lefts f fd) (T : TxtC mg) (C__law_rub : Cal P w K mg base CX0 1 "_law_rub" spDraw) : FnG P w K mg base CX0 3 f fd ["genie"] spLeftsN := by
  refine okG0 F sc__law_lefts (fun vs H Q E h => ?_) (fun cdv A outer s H vs Q E hG hr h => ?_)
  · obtain ⟨r, n, rfl, _⟩ := h
    rfl
  · obtain ⟨r, n, rfl, R, hn, q⟩ := h
    refine ⟨_, (pss_cons (ps_set (i := 1) sc__law_lefts.nd rfl (.inl rfl) (pe_lst pa_nil))
      (pss_cons (ps_for PassesOwn.never rfl (pi_range1 rfl T.m_range (pa_cons (pe_f C__law_rub hG (hr.mono (by decide)) (by rfl) pass0 (pa_cons (pv 0) (pa_cons pe_int pa_nil))) pa_nil)) (pg_name (i := 2) sc__law_lefts.nd rfl (.inl rfl)) (pss_cons (ps_set (i := 3) sc__law_lefts.nd rfl (.inl rfl) (pe_op op_sub (pe_f C__law_rub hG (hr.mono (by decide)) (by rfl) pass0 (pa_cons (pv 0) (pa_cons pe_int pa_nil))) pe_int))
      (pss_one (ps_set (i := 1) sc__law_lefts.nd rfl (.inl rfl) (pe_ifExp (pt_cmpR op_in_seq (pv 3) (pv 1) (by rfl)) (pv 1) (pe_op op_cat (pv 1) (pe_lst (pa_cons (pv 3) pa_nil))))))))
      (pss_one (ps_ret (pv 1))))), ?_⟩
    try dsimp only [cxOf, Cx.nox, Cx.wish]
    generalize hσ0 : L2.start _ _ = σ0
    obtain rfl : σ0 = ([some (.ref r), none, none, none] : L2.St) := by rw [← hσ0]; rfl
    clear hσ0
    walk_at "gl"
    refine ⟨small64 (by simp), fun p1 hp1 => ?_⟩
    generalize hU : upd _ p1 _ = H1
    obtain ⟨s1, e1⟩ := upd_facts hU hp1
    clear hU
    have R1 := R.same s1
    walk_at "gl"
    refine ⟨r, n, 7, rfl, R1, by omega, by omega, by omega, fun H2 v2 g2 R2 a2 b2 => ?_⟩
    walk_at "gl"
    refine ⟨by omega, by omega, ?_⟩
    refine forIn_R (fun i σ' Hc => Gr r H Hc ∧ Rid r (n + 1 + i) Hc ∧ ∃ p ks x2 x3, σ' = [some (.ref r), some (.ref p), x2, x3] ∧ p ≠ r ∧ Hc p = some (.lst (ks.map V.int)) ∧ ks.Nodup ∧ ks.length ≤ i ∧ ∀ k ∈ ks, -9 ≤ k ∧ k ≤ 9)
      ⟨(Gr.same s1).trans g2, R2, p1, [], _, _, rfl, R.ne hp1, g2.all _ _ (R.ne hp1) e1, .nil, Nat.le_refl _, fun k hk => nomatch hk⟩ (fun i σ' Hc hi hP => ?_) (fun σ' Hc hP => ?_)
    · obtain ⟨gc, Rc, p, ks, x2, x3, rfl, npr, ep, hnd, hl, hb⟩ := hP
      have hi7 : i < 7 := by omega
      walk_at "gl"
      refine ⟨r, _, 19, rfl, Rc, by omega, by decide, by decide, fun H3 v3 g3 R3 a3 b3 => ?_⟩
      walk_at "gl"
      have ep3 := g3.all _ _ npr ep
      refine k_ife ?_
      walk_at "gl"
      refine ⟨p, _, rfl, .inl (.inl (.inl ep3)), rfl, by simp [flatV], ?_⟩
      walk_at "gl"
      by_cases hin : v3 - 9 ∈ ks
      · refine ite2 (fun _ => ?_) (fun z => absurd ?_ z)
        · walk_at "gl"
          exact ⟨gc.trans g3, R3, p, ks, _, _, rfl, npr, ep3, hnd, by omega, hb⟩
        · rw [if_neg (by decide), inV_int]
          exact decide_eq_true hin
      · refine ite2 (fun z => ?_) (fun _ => ?_)
        · rw [if_neg (by decide), inV_int] at z
          exact absurd (of_decide_eq_true z) hin
        · walk_at "gl"
          refine ⟨small64 (by simp), fun pn hpn => ?_⟩
          generalize hU : upd _ pn _ = H4
          obtain ⟨s4, e4⟩ := upd_facts hU hpn
          clear hU
          refine k_cat (s4 _ _ ep3) e4 (by rw [List.length_map]; exact Nat.le_trans (Nat.add_le_add_right (Nat.le_trans hl (Nat.le_of_lt hi7)) 1) (by decide)) fun pc hpc => ?_
          generalize hU : upd H4 pc _ = H5
          obtain ⟨s5, e5⟩ := upd_facts hU hpc
          clear hU
          walk_at "gl"
          have s45 := s4.trans s5
          refine ⟨gc.trans (g3.trans (Gr.same s45)), R3.same s45, pc, ks ++ [v3 - 9], _, _, rfl, (R3.same s4).ne hpc, by rw [e5, List.map_append]; rfl, ?_, by rw [List.length_append]; exact Nat.add_le_add_right hl 1, fun k hk => ?_⟩
          · rw [List.nodup_append]
            exact ⟨hnd, by simp, fun x hx y hy e => hin (by simp only [List.mem_singleton] at hy; rw [← hy, ← e]; exact hx)⟩
          · rcases List.mem_append.mp hk with h | h
            · exact hb k h
            · rw [List.mem_singleton.mp h]
              omega
    · obtain ⟨gc, Rc, p, ks, x2, x3, rfl, npr, ep, hnd, hl, hb⟩ := hP
      walk_at "gl"
      exact q Hc p ks gc (Rc.mono (by omega)) ep ⟨⟨p, rfl, npr, .inl ep⟩, by omega, hnd, fun k hk => by have := hb k hk; omega⟩ (by omega) hb
end
end K45

namespace K45
open PySem PySem.Spec PyProof.Rows L2 Nd
abbrev s__law_played : Stmt := top 32
theorem sc__law_played : FnScope ["heaps", "lefts", "ticks", "spot", "many", "here", "shown", "found", "tick", "odds", "later", "side", "each"] ["heaps", "lefts", "ticks"] (defScope s__law_played) := ⟨rfl, rfl, rfl, by decide +kernel, rfl, by decide +kernel, by decide +kernel⟩
section
variable {P : Program} {w : World} {K : PySem.W.Frag} {mg : Str → Option Value} {base : Heap}
theorem ok_played {f : Addr} {fd : FuncData} (F : Fun K "_law_played" "_law_played" s__law_played f fd) (T : TxtC mg) : FnG P w K mg base CX0 1 f fd ["heaps", "lefts", "ticks"] spPlayed := by
  refine okG0 F sc__law_played (fun vs H Q E h => ?_) (fun cdv A outer s H vs Q E hG hr h => ?_)
  · obtain ⟨r, v, x, hs, ks, t, rfl, _⟩ := h
    rfl
  · obtain ⟨r, v, x, hs, ks, t, rfl, hv, ok, hx, ht, q⟩ := h
    refine ⟨_, (pss_cons (ps_par3 (i := 5) (j := 6) (l := 7) (by rfl) sc__law_played.nd rfl rfl rfl (by decide) (by decide) (by decide) rfl rfl rfl (pa_cons (pe_callTy (call_dictP rfl) (by rfl) T.m_dict (by decide +kernel) (pa_cons (pe_lc (own := [("spot", 3), ("many", 4)]) (g := (gAny K 2 (gCons (gName 3) (gCons (gName 4) gNil)))) (tt := tYes) rfl sc__law_played.nd (pi_any (pv 0)) (blkOk_by (own := [("spot", 3), ("many", 4)]) (N := ["heaps", "lefts", "ticks", "spot", "many", "here", "shown", "found", "tick", "odds", "later", "side", "each"]) (sc := defScope s__law_played) (by decide +kernel)) (fun _ _ _ _ _ => (pg_any (by rfl) (pgs_cons (pg_name (i := 3) sc__law_played.nd rfl (.inl rfl)) (pgs_cons (pg_name (i := 4) sc__law_played.nd rfl (.inl rfl)) pgs_nil)))) (fun _ _ _ _ _ => pts_nil) (fun _ _ _ _ _ => (pe_tup (pa_cons (pv 3) (pa_cons (pv 4) pa_nil))))) pa_nil)) (pa_cons (pe_callTy (call_listA rfl) (by rfl) T.m_list (by decide +kernel) (pa_cons (pv 1) pa_nil)) (pa_cons (pe_lst pa_nil) pa_nil))) (by rfl))
      (pss_cons (ps_for PassesOwn.never rfl (pi_range1 rfl T.m_range (pa_cons (pv 2) pa_nil)) (pg_name (i := 8) sc__law_played.nd rfl (.inl rfl)) (pss_cons (ps_par (i := 9) (j := 10) (by rfl) sc__law_played.nd rfl rfl (by decide) rfl rfl (pa_cons (pe_lst pa_nil) (pa_cons pe_dnewK pa_nil)) (by rfl))
      (pss_cons (ps_for PassesOwn.never rfl (pi_list (pe_callB (id := "sorted") (cr_sortedD rfl) (by rfl) T.m_sorted (by decide +kernel) (pa_cons (pv 5) pa_nil))) (pg_name (i := 3) sc__law_played.nd rfl (.inr rfl)) (pss_cons (ps_par (i := 4) (j := 11) (by rfl) sc__law_played.nd rfl rfl (by decide) rfl rfl (pa_cons (pe_dget (hu_of hr) (pv 5) (pv 3) (fun _ _ => rfl)) (pa_cons (pe_ifExp (pt_cmpR op_in_seq (pv 3) (pv 6) (by rfl)) (pe_un un_neg pe_int) pe_int) pa_nil)) (by rfl))
      (pss_cons (ps_dput (hu_of hr) (pv 10) (pe_op op_add (pv 3) (pv 11)) (pe_op op_sub (pe_op op_add (pe_dget2 (hu_of hr) (pv 10) (pe_op op_add (pv 3) (pv 11)) pe_int ⟨by rfl, by rfl, by rfl, by rfl⟩) (pv 4)) (pe_op op_fdiv (pv 4) pe_int)) rfl)
      (pss_cons (ps_dput (hu_of hr) (pv 10) (pe_op op_sub (pv 3) (pv 11)) (pe_op op_add (pe_dget2 (hu_of hr) (pv 10) (pe_op op_sub (pv 3) (pv 11)) pe_int ⟨by rfl, by rfl, by rfl, by rfl⟩) (pe_op op_fdiv (pv 4) pe_int)) rfl)
      (pss_one (ps_if (pt_cmpR op_eq (pe_op op_mod (pe_callTy call_int1 (by rfl) T.m_int (by decide +kernel) (pa_cons (pv 4) pa_nil)) pe_int) pe_int (nomark _)) (pss_cons (ps_expr (pe_bm PySem.F.plainAttrs_list PySem.F.slot_list_append PySem.F.type_list_append mt_append (pv 9) (pa_cons (pe_tup (pa_cons (pv 3) (pa_cons (pv 11) pa_nil))) pa_nil)))
      (pss_one (ps_set (i := 6) sc__law_played.nd rfl (.inl rfl) (pe_op op_cat (pe_lc (own := [("each", 12)]) (g := gName 12) rfl sc__law_played.nd (pi_list (pv 6)) (blkOk_by (own := [("each", 12)]) (N := ["heaps", "lefts", "ticks", "spot", "many", "here", "shown", "found", "tick", "odds", "later", "side", "each"]) (sc := defScope s__law_played) (by decide +kernel)) (fun _ _ _ _ _ => pg_name (i := 12) sc__law_played.nd rfl (Or.inl rfl)) (fun _ _ _ _ _ => pts_one (pt_cmpR op_ne (pv 12) (pv 3) (nomark _))) (fun _ _ _ _ _ => (pv 12))) (pe_op op_rep (pe_lst (pa_cons (pv 3) pa_nil)) (pe_callTy call_int1 (by rfl) T.m_int (by decide +kernel) (pa_cons (pe_cmpR op_eq (pv 11) pe_int (nomark _)) pa_nil))))))) pss_nil))))))
      (pss_cons (ps_expr (pe_bm PySem.F.plainAttrs_list PySem.F.slot_list_append PySem.F.type_list_append mt_append (pv 7) (pa_cons (pe_tup (pa_cons (pv 5) (pa_cons (pv 9) pa_nil))) pa_nil)))
      (pss_one (ps_set (i := 5) sc__law_played.nd rfl (.inl rfl) (pe_callTy (call_dictP rfl) (by rfl) T.m_dict (by decide +kernel) (pa_cons (pe_lock (pe_lc (own := [("spot", 3), ("many", 4)]) (g := (gAny K 2 (gCons (gName 3) (gCons (gName 4) gNil)))) rfl sc__law_played.nd (pi_items (pv 10)) (blkOk_by (own := [("spot", 3), ("many", 4)]) (N := ["heaps", "lefts", "ticks", "spot", "many", "here", "shown", "found", "tick", "odds", "later", "side", "each"]) (sc := defScope s__law_played) (by decide +kernel)) (fun _ _ _ _ _ => (pg_any (by rfl) (pgs_cons (pg_name (i := 3) sc__law_played.nd rfl (.inl rfl)) (pgs_cons (pg_name (i := 4) sc__law_played.nd rfl (.inl rfl)) pgs_nil)))) (fun _ _ _ _ _ => pts_one (pt_cmpR op_gt (pv 4) pe_int (nomark _))) (fun _ _ _ _ _ => (pe_tup (pa_cons (pv 3) (pa_cons (pv 4) pa_nil)))))) pa_nil))))))))
      (pss_one (ps_ret (pe_op op_cat (pv 7) (pe_lst (pa_cons (pe_tup (pa_cons (pv 5) (pa_cons (pe_lst pa_nil) pa_nil))) pa_nil))))))), ?_⟩
    try dsimp only [cxOf, Cx.nox, Cx.wish]
    obtain ⟨a, xs, rfl, na, ea, hall⟩ := hv.ex
    obtain ⟨b, rfl, nb, eb⟩ := hx.ex
    have hlen := pairs_len hall
    have h60 := ok.few
    generalize hσ0 : L2.start _ _ = σ0
    obtain rfl : σ0 = ([some (.ref a), some (.ref b), some (.int (t : Int)), none, none, none, none, none, none, none, none, none, none] : L2.St) := by rw [← hσ0]; rfl
    clear hσ0
    walk_at "gs"
    refine ⟨a, xs, rfl, seqA ea, fun J G Wk hG => ?_⟩
    refine lcIn_prT Wk (fun p => p) (fun H4 s => hG H4 fun o e => s _ _ e) hall (by omega) (fun x y => rfl) (fun m p H2 hp s2 QE k => ?_) (fun pl H1 ts npl s1 el hts => ?_)
    · walk_at "gs"
      refine ⟨small64 (by simp), fun pn hpn => ?_⟩
      generalize hU : upd _ pn _ = H3
      obtain ⟨s3, e3⟩ := upd_facts hU hpn
      clear hU
      exact k _ _ s3 hpn e3
    · rw [List.map_id'] at hts
      walk_at "gs"
      refine ⟨pl, ts, hs.map entI, rfl, .inl (.inl el), pairs_mapR (fun t p h => .inl (.inl h.2)) hts, fun ph hph => ?_⟩
      rw [mergeK_nd _ _ (ents_nd ok.nd), List.nil_append]
      generalize hU : upd H1 ph _ = H2
      obtain ⟨s2, e2⟩ := upd_facts hU hph
      clear hU
      have s12 := s1.trans s2
      have nph : H ph = none := s1.free hph
      clear hts el hph
      walk_at "gs"
      refine ⟨b, ks.map V.int, rfl, seqA (seqTo eb fun u => s12 _ u), fun pb hpb => ?_⟩
      generalize hU : upd H2 pb _ = H3
      obtain ⟨s3, e3⟩ := upd_facts hU hpb
      clear hU
      walk_at "gs"
      refine ⟨small64 (by simp), fun pf hpf => ?_⟩
      generalize hU : upd _ pf _ = H4
      obtain ⟨s4, e4⟩ := upd_facts hU hpf
      clear hU
      walk_at "gs"
      have npf : H pf = none := (s12.trans s3).free hpf
      have s04 := s12.trans (s3.trans s4)
      refine ⟨by omega, by omega, ?_⟩
      refine forIn_R (fun i σ' Hc => Same H Hc ∧ ∃ pa pb qs kk bs x3 x4 x8 x9 x10 x11 x12, σ' = [some (.ref a), some (.ref b), some (.int (t : Int)), x3, x4, some (.ref pa), some (.ref pb), some (.ref pf), x8, x9, x10, x11, x12] ∧ H pa = none ∧ Hc pa = some (.dK (qs.map entI)) ∧ Hc pb = some (.lst (kk.map V.int)) ∧ Gone hs ks i qs kk ∧ kk.Nodup ∧
          Hc pf = some (.lst (bs.map V.ref)) ∧ pb ≠ pf ∧ Paired (fun b n => PlayX pf H Hc hs ks b n) bs (List.range i))
        ⟨s04, ph, pb, hs, ks, [], _, _, _, _, _, _, _, rfl, nph, s4 _ _ (s3 _ _ e2), s4 _ _ e3, Gone.start, hx.nd, e4, (ne_of_none e3 hpf), .nil⟩ (fun i σ' Hc hi hP => ?_) (fun σ' Hc hP => ?_)
      · obtain ⟨sc, pa, pb2, qs, kk, bs, x3, x4, x8, x9, x10, x11, x12, rfl, na1, ea1, eb1, gn, nk, ef, nbf, hbs⟩ := hP
        have hi' : i < t := by omega
        obtain ⟨fq, fp⟩ := gn.facts ok
        obtain ⟨l1, l2, l3, l4⟩ := gn.few ok hx (by omega) nk
        walk_at "gs"
        refine ⟨small64 (by simp), fun O hO => ?_⟩
        generalize hU : upd _ O _ = H5
        obtain ⟨s5, e5⟩ := upd_facts hU hO
        clear hU
        have hpO' := hO
        walk_at "gs"
        intro L hL
        generalize hU : upd H5 L _ = H6
        obtain ⟨s6, e6⟩ := upd_facts hU hL
        clear hU
        have s56 := s5.trans s6
        have nOL : O ≠ L := ne_of_none e5 hL
        walk_at "gs"
        simp only [List.set_cons_zero, List.set_cons_succ]
        walk_at "gs"
        have ea6 := s56 _ _ ea1
        have eb6 := s56 _ _ eb1
        have ef6 := s56 _ _ ef
        have eO6 := s6 _ _ e5
        refine ⟨pa, _, qs.map (·.1), rfl, .inl ea6, by rw [List.map_map, List.map_map]; rfl, fun ys ps hperm hsrt hps => ?_⟩
        obtain ⟨pS, sS⟩ := srt_perm fq hperm hsrt
        generalize hU : upd H6 ps _ = H7
        obtain ⟨s7, e7⟩ := upd_facts hU hps
        clear hU
        have ea7 := s7 _ _ ea6
        have eb7 := s7 _ _ eb6
        have ef7 := s7 _ _ ef6
        have eO7 := s7 _ _ eO6
        have eL7 := s7 _ _ e6
        have nn : ∀ {c : Addr} {u : HO}, Hc c = some u → c ≠ O ∧ c ≠ L := fun e => ⟨ne_of_none e hpO', ne_of_none (s5 _ _ e) hL⟩
        have npO : ps ≠ O := fun z => by rw [z, eO6] at hps; cases hps
        have npL : ps ≠ L := fun z => by rw [z, e6] at hps; cases hps
        have gS := gn.perm pS
        obtain ⟨fqS, fpS⟩ := gS.facts ok
        obtain ⟨m1, m2, m3, m4⟩ := gS.few ok hx (by omega) nk
        have hgo := fun hs' ls p1 a1 p2 => gS.srt (hs' := hs') (ls := ls) ok sS p1 a1 p2
        obtain ⟨qS, hqS⟩ : ∃ qS, qS = ys.map fun k => (k, Nd.cnt qs 0 k) := ⟨_, rfl⟩
        rw [← hqS] at pS sS gS fqS fpS m1 m3 hgo
        have hys : ys = qS.map (·.1) := by
          rw [hqS, List.map_map]
          exact (List.map_id _).symm
        have tot := gn.total ok
        walk_at "gs"
        refine ⟨⟨_, .inl (.inl e7)⟩, ?_⟩
        refine forIn_L (xs := ys.map V.int) (fun j σ' Hd => G2 L O H7 Hd ∧ (∃ l, Hd L = some (.dK l) ∧ Dn l (fun s => ((qS.take j).map (goesK (fun x => decide (x ∈ kk)) s)).sum) (-1000300) 1000300) ∧
          (∃ ts, Hd O = some (.lst (ts.map V.ref)) ∧ Paired (PrI H Hd) ts (oddsL (qS.take j) kk)) ∧
          ∃ pk kj x3 x4 x11 x12, Hd pk = some (.lst (kj.map V.int)) ∧ pk ≠ L ∧ pk ≠ O ∧ pk ≠ pf ∧ kj.Nodup ∧ (∀ k, k ∈ kj ↔ k ∈ turnsK kk (qS.take j)) ∧ σ' = [some (.ref a), some (.ref b), some (.int (t : Int)), x3, x4, some (.ref pa), some (.ref pk), some (.ref pf), some (.int (0 + (i : Int))), some (.ref O), some (.ref L), x11, x12])
          ⟨fun _ _ _ _ e => e, ⟨[], eL7, Dn.nil⟩, ⟨[], eO7, .nil⟩, pb2, kk, _, _, _, _, eb7, (nn eb1).2, (nn eb1).1, nbf, nk, fun k => Iff.rfl, rfl⟩ (fun j σ' Hd _ p => .inl (.inl (p.1 _ _ npL npO e7))) (fun j x σ' Hd hj p => ?_) (fun σ' Hd p => ?_)
        · obtain ⟨g1, ⟨l, el, dl⟩, ⟨ts, eo, hts⟩, pk, kj, x3, x4, x11, x12, ek, nkL, nkO, nkf, ndj, memj, rfl⟩ := p
          rw [List.getElem?_map] at hj
          obtain ⟨k, hk, rfl⟩ := Option.map_eq_some_iff.mp hj
          obtain ⟨p, hp⟩ : ∃ p, qS[j]? = some p := by
            rw [hys, List.getElem?_map] at hk
            obtain ⟨p, hp, _⟩ := Option.map_eq_some_iff.mp hk
            exact ⟨p, hp⟩
          obtain rfl : p.1 = k := by
            rw [hys, List.getElem?_map, hp] at hk
            exact Option.some.inj hk
          have hpc : Nd.cnt qs 0 p.1 = p.2 := by rw [← cnt_perm pS]; exact cnt_zero_at fqS (List.mem_of_getElem? hp)
          have eaD := g1 _ _ (nn ea1).2 (nn ea1).1 ea7
          walk_at "gs"
          refine k_dget ?_
          walk_at "gs"
          refine ⟨pa, .int p.2, rfl, ?_, ?_⟩
          · rw [← hpc, ← valV_at fq (hperm.mem_iff.mp (List.mem_of_getElem? hk))]
            exact DGet.k (k := .inl p.1) eaD
          walk_at "gs"
          obtain ⟨sd, hsd⟩ : ∃ sd : Int, sd = if p.1 ∈ kk then -1 else 1 := ⟨_, rfl⟩
          have hpj : p.1 ∈ kj ↔ p.1 ∈ kk := by
            rw [memj]
            refine turnsK_off fun p' hp' e => ?_
            obtain ⟨n, hn⟩ := List.mem_iff_getElem?.mp hp'
            rw [List.getElem?_take] at hn
            split at hn
            · have h1 : (qS.map (·.1))[n]? = some p.1 := by rw [List.getElem?_map, hn, ← e]; rfl
              have h2 : (qS.map (·.1))[j]? = some p.1 := by rw [List.getElem?_map, hp]; rfl
              have hjl := (List.getElem?_eq_some_iff.mp hp).1
              have := (List.getElem?_inj (by rw [List.length_map]; omega) fqS).mp (h1.trans h2.symm)
              omega
            · cases hn
          refine k_ifJ (fun v H' => H' = Hd ∧ v = .int sd) (fun Q' kQ => ?_) (fun vsd H8 z => ?_)
          · refine k_ife ?_
            walk_at "gs"
            refine ⟨pk, _, rfl, .inl (.inl (.inl ek)), rfl, by simp [flatV], ?_⟩
            rw [if_neg (by decide), inV_int]
            walk_at "gs"
            by_cases hin : p.1 ∈ kk
            · rw [if_pos (decide_eq_true (hpj.mpr hin))]
              walk_at "gs"
              exact kQ _ _ ⟨rfl, by rw [hsd, if_pos hin]⟩
            · rw [if_neg (by simp [mt hpj.mp hin])]
              walk_at "gs"
              exact kQ _ _ ⟨rfl, by rw [hsd, if_neg hin]⟩
          · obtain ⟨rfl, rfl⟩ := z
            walk_at "gs"
            simp only [List.set_cons_zero, List.set_cons_succ]
            walk_at "gs"
            have hsd1 : sd = 1 ∨ sd = -1 := by
              rw [hsd]
              split
              · exact .inr rfl
              · exact .inl rfl
            obtain ⟨b3, b4⟩ := m3 p (List.mem_of_getElem? hp)
            have ps1 : (0 : Int) < p.2 := by have := fpS p (List.mem_of_getElem? hp); omega
            refine ⟨.inl ⟨_, .inl el⟩, ?_⟩
            walk_at "gs"
            generalize hg0 : (fun s => ((qS.take j).map (goesK (fun x => decide (x ∈ kk)) s)).sum) = g at dl
            have hgs : ∀ s, ((qS.take j).map (goesK (fun x => decide (x ∈ kk)) s)).sum = g s := fun s => by rw [← hg0]
            refine ⟨_, DGet.k (k := .inl (p.1 + sd)) el, ?_⟩
            rw [dl.get]
            walk_at "gs"
            refine k_I ⟨by decide, by decide⟩ ?_
            walk_at "gs"
            have d2 := dl.put (g := fun s => if s = p.1 + sd then g (p.1 + sd) + p.2 - p.2 / 2 else g s) (p.1 + sd) (g (p.1 + sd) + p.2 - p.2 / 2) (by omega) (by omega) (fun _ => rfl)
            refine ⟨L, _, rfl, DPut.k (k := .inl (p.1 + sd)) el (Nat.lt_of_le_of_lt (dl.len 2000900 (by omega)) (by decide)), ?_⟩
            generalize hl2 : putK l (.inl (p.1 + sd)) _ = l2 at d2
            have el3 : (upd H8 L (.dK l2)) L = some (.dK l2) := upd_same
            have g3 : G2 L O H7 (upd H8 L (.dK l2)) := g1.trans G2.putL
            have ek3 : (upd H8 L (.dK l2)) pk = some (.lst (kj.map V.int)) := (upd_ne nkL).trans ek
            have eo3 : (upd H8 L (.dK l2)) O = some (.lst (ts.map V.ref)) := (upd_ne nOL).trans eo
            have hts3 : Paired (PrI H (upd H8 L (.dK l2))) ts (oddsL (qS.take j) kk) := pairs_mono (fun _ _ h => ⟨h.1, (upd_ne (fun z => by have := h.2; rw [z, el] at this; cases this)).trans h.2⟩) hts
            generalize upd H8 L (.dK l2) = Hm at el3 g3 ek3 eo3 hts3
            walk_at "gs"
            refine ⟨.inl ⟨_, .inl el3⟩, ?_⟩
            walk_at "gs"
            refine ⟨_, DGet.k (k := .inl (p.1 - sd)) el3, ?_⟩
            rw [d2.get]
            walk_at "gs"
            refine k_I ⟨by decide, by decide⟩ ?_
            walk_at "gs"
            have hstep : ∀ s, ((qS.take (j + 1)).map (goesK (fun x => decide (x ∈ kk)) s)).sum = if s = p.1 - sd then (if p.1 - sd = p.1 + sd then g (p.1 + sd) + p.2 - p.2 / 2 else g (p.1 - sd)) + p.2 / 2 else (if s = p.1 + sd then g (p.1 + sd) + p.2 - p.2 / 2 else g s) := fun s => by
              rw [List.take_succ, hp, Option.toList_some, List.map_append, List.sum_append, hgs]
              show g s + (goesK _ s p + 0) = _
              have h2 := Int.emod_two_eq p.2
              by_cases hin : p.1 ∈ kk
              · rw [if_pos hin] at hsd
                subst hsd
                have z1 : p.1 + -1 = p.1 - 1 := by omega
                have z2 : p.1 - -1 = p.1 + 1 := by omega
                have z3 : ¬ p.1 + 1 = p.1 - 1 := by omega
                have z4 : ¬ p.1 - 1 = p.1 + 1 := by omega
                simp only [goesK, at2, Nd.sL, Nd.sR, hin, decide_true, z1, z2]
                by_cases e1 : s = p.1 - 1
                · subst e1
                  rcases h2 with h | h <;> simp [h, z3, z4] <;> omega
                · by_cases e2 : s = p.1 + 1
                  · subst e2
                    rcases h2 with h | h <;> simp [h, z3, z4] <;> omega
                  · rcases h2 with h | h <;> simp [h, e1, e2] <;> omega
              · rw [if_neg hin] at hsd
                subst hsd
                have z3 : ¬ p.1 + 1 = p.1 - 1 := by omega
                have z4 : ¬ p.1 - 1 = p.1 + 1 := by omega
                simp only [goesK, at2, Nd.sL, Nd.sR, hin, decide_false]
                by_cases e1 : s = p.1 - 1
                · subst e1
                  rcases h2 with h | h <;> simp [h, z3, z4] <;> omega
                · by_cases e2 : s = p.1 + 1
                  · subst e2
                    rcases h2 with h | h <;> simp [h, z3, z4] <;> omega
                  · rcases h2 with h | h <;> simp [h, e1, e2] <;> omega
            have d3 := d2.put (g := fun s => ((qS.take (j + 1)).map (goesK (fun x => decide (x ∈ kk)) s)).sum) (p.1 - sd) _ (by omega) (by omega) hstep
            refine ⟨L, _, rfl, DPut.k (k := .inl (p.1 - sd)) el3 (Nat.lt_of_le_of_lt (d2.len 2000900 (by omega)) (by decide)), ?_⟩
            generalize hlv3 : putK l2 (.inl (p.1 - sd)) _ = lv3 at d3
            have el4 : (upd Hm L (.dK lv3)) L = some (.dK lv3) := upd_same
            have g4 : G2 L O H7 (upd Hm L (.dK lv3)) := g3.trans G2.putL
            have ek4 : (upd Hm L (.dK lv3)) pk = some (.lst (kj.map V.int)) := (upd_ne nkL).trans ek3
            have eo4 : (upd Hm L (.dK lv3)) O = some (.lst (ts.map V.ref)) := (upd_ne nOL).trans eo3
            have hts4 : Paired (PrI H (upd Hm L (.dK lv3))) ts (oddsL (qS.take j) kk) := pairs_mono (fun _ _ h => ⟨h.1, (upd_ne (fun z => by have := h.2; rw [z, el3] at this; cases this)).trans h.2⟩) hts3
            generalize upd Hm L (.dK lv3) = Hn at el4 g4 ek4 eo4 hts4
            walk_at "gs"
            refine k_I (by decide) ?_
            walk_at "gs"
            have hsn : qS.take (j + 1) = qS.take j ++ [p] := by rw [List.take_succ, hp]; rfl
            have hkl : kj.length ≤ 3000000 := by
              have hr := turnsK_range (lo := -1000200) (hi := 1000200) (hs := qS.take j) (ks := kk) (fun q hq => m3 q (List.mem_of_mem_take hq)) l4
              exact Nat.le_trans (nodup_range (lo := -1000200) (n := 2000401) ndj fun k hk => by have := hr k ((memj k).mp hk); omega) (by decide)
            refine ite2 (fun ho => ?_) (fun he => ?_)
            · have hodd : p.2 % 2 = 1 := V.int.inj (of_decide_eq_true ho)
              walk_at "gs"
              refine ⟨.inl ⟨rfl, _, .inl (.inl eo4)⟩, ?_⟩
              walk_at "gs"
              refine ⟨small64 (by simp), fun pn hpn => ?_⟩
              generalize hU : upd _ pn _ = Ha'
              obtain ⟨sa, ea'⟩ := upd_facts hU hpn
              clear hU
              walk_at "gs"
              have eo5 := sa _ _ eo4
              have hol : ts.length ≤ 3000000 := by
                rw [pairs_len hts4]
                unfold oddsL
                rw [List.length_map]
                exact Nat.le_trans (List.length_filter_le _ _) (by rw [List.length_take]; omega)
              refine k_app eo5 (by rw [List.length_map, sizeLine_eq]; omega) ?_
              have hts5 : Paired (PrI H (upd Ha' O (.lst (ts.map V.ref ++ [.ref pn])))) (ts ++ [pn]) (oddsL (qS.take (j + 1)) kk) := by
                rw [hsn, oddsL_snoc, if_pos hodd]
                have ntO : ∀ {c : Addr} {us : List V}, Ha' c = some (.tup us) → c ≠ O := fun e z => by rw [z, eo5] at e; cases e
                refine Paired.snoc (pairs_mono (fun _ _ h => ⟨h.1, (upd_ne (ntO (sa _ _ h.2))).trans (sa _ _ h.2)⟩) hts4) ⟨?_, (upd_ne (ntO ea')).trans (by rw [ea', hsd])⟩
                cases hH : H pn with
                | none => rfl
                | some u =>
                  have e1 := (s56.trans s7) _ _ (sc _ _ hH)
                  rw [g4 _ _ (nn (sc _ _ hH)).2 (nn (sc _ _ hH)).1 e1] at hpn
                  cases hpn
              have eo6 : (upd Ha' O (.lst (ts.map V.ref ++ [.ref pn]))) O = some (.lst ((ts ++ [pn]).map V.ref)) := by rw [upd_same, List.map_append]; rfl
              have el6 : (upd Ha' O (.lst (ts.map V.ref ++ [.ref pn]))) L = some (.dK lv3) := (upd_ne nOL.symm).trans (sa _ _ el4)
              have ek6 : (upd Ha' O (.lst (ts.map V.ref ++ [.ref pn]))) pk = some (.lst (kj.map V.int)) := (upd_ne nkO).trans (sa _ _ ek4)
              have g6 : G2 L O H7 (upd Ha' O (.lst (ts.map V.ref ++ [.ref pn]))) := (g4.trans (G2.same sa)).trans G2.putO
              generalize upd Ha' O (.lst (ts.map V.ref ++ [.ref pn])) = Hp' at hts5 eo6 el6 ek6 g6
              walk_at "gs"
              refine ⟨⟨_, .inl (.inl ek6)⟩, ?_⟩
              have Wk2 : Walk (Itl K pk) kj.length (fun H => SqL K H pk (kj.map V.int)) (YAt (kj.map V.int)) := by
                have := walk_list (K := K) (a := pk) (xs := kj.map V.int)
                rwa [List.length_map] at this
              refine lcIn_kF Wk2 (fun m H x H' y => ?_) (fun k => decide (k ≠ p.1)) (fun H4 s => .inl (.inl (s _ _ ek6))) (by omega) (fun x => rfl) (fun k Hq hk sq QE Z k1 k2 => ?_) (fun pq Hq npq sq eq => ?_)
              · obtain ⟨rfl, h⟩ := y
                rw [List.getElem?_map] at h
                obtain ⟨k', h1, h2⟩ := Option.map_eq_some_iff.mp h
                exact ⟨rfl, k', h1, h2.symm⟩
              · walk_at "gs"
                refine ite2 (fun h => ?_) (fun h => ?_)
                · walk_at "gs"
                  exact k1 (by simpa using h) _ (Same.refl _)
                · exact k2 (by simpa using h) _ (Same.refl _)
              · walk_at "gs"
                refine ⟨small64 (by simp), fun pm hpm => ?_⟩
                generalize hU : upd _ pm _ = Hr
                obtain ⟨sr, er⟩ := upd_facts hU hpm
                clear hU
                walk_at "gs"
                obtain ⟨n1, hn1, hn2⟩ : ∃ n : Nat, (if decide (V.int sd = V.int 1) = true then (1 : Int) else 0) = (n : Int) ∧ n = if p.1 ∈ kk then 0 else 1 := by
                  refine ⟨_, ?_, rfl⟩
                  rw [hsd]
                  by_cases hin : p.1 ∈ kk <;> simp [hin]
                rw [hn1]
                refine k_rep (n := n1) er (by rw [hn2]; split <;> decide) (by simp) fun px hpx => ?_
                generalize hU : upd Hr px _ = Hs'
                obtain ⟨ss, es⟩ := upd_facts hU hpx
                clear hU
                refine k_cat (ss _ _ (sr _ _ eq)) es (by rw [List.length_map, hn2]; exact Nat.le_trans (Nat.add_le_add (Nat.le_trans (List.length_filter_le _ _) hkl) (show (List.replicate (if p.1 ∈ kk then 0 else 1) [V.int p.1]).flatten.length ≤ 1 by split <;> simp)) (by decide)) fun pc hpc => ?_
                generalize hU : upd Hs' pc _ = Ht'
                obtain ⟨st, et⟩ := upd_facts hU hpc
                clear hU
                walk_at "gs"
                have spt : Same Hp' Ht' := sq.trans (sr.trans (ss.trans st))
                have hnk : (kj.filter (fun k => decide (k ≠ p.1)) ++ if p.1 ∈ kk then [] else [p.1]).Nodup := by
                  rw [List.nodup_append]
                  refine ⟨ndj.filter _, by split <;> simp, fun x hx y hy e => ?_⟩
                  subst e
                  have hx2 := of_decide_eq_true (List.mem_filter.mp hx).2
                  split at hy
                  · cases hy
                  · exact hx2 (List.mem_singleton.mp hy)
                have hE : (kj.filter fun k => decide (k ≠ p.1)).map V.int ++ (List.replicate n1 [V.int p.1]).flatten = (kj.filter (fun k => decide (k ≠ p.1)) ++ if p.1 ∈ kk then [] else [p.1]).map V.int := by
                  rw [List.map_append, hn2]
                  congr 1
                  split <;> rfl
                rw [hE] at et
                have gT := g6.trans (G2.same spt)
                have npn : ∀ {c : Addr} {u : HO}, Hs' c = some u → pc ≠ c := fun e z => by rw [z, e] at hpc; cases hpc
                have sps : Same Hp' Hs' := sq.trans (sr.trans ss)
                refine ⟨gT, ⟨lv3, spt _ _ el6, d3⟩, ⟨_, spt _ _ eo6, pairs_mono (fun _ _ h => ⟨h.1, spt _ _ h.2⟩) hts5⟩, pc, _, _, _, _, _, et, npn (sps _ _ el6), npn (sps _ _ eo6), ?_, hnk, fun k => ?_, rfl⟩
                · exact npn (sps _ _ (g6 _ _ (nn ef).2 (nn ef).1 ef7))
                · rw [hsn, turnsK_snoc, List.mem_append, List.mem_filter]
                  by_cases ek : k = p.1
                  · subst ek
                    rw [turnK_self, if_pos hodd, ← memj, hpj]
                    by_cases hin : p.1 ∈ kk <;> simp [hin]
                  · rw [turnK_other ek, memj]
                    by_cases hin : p.1 ∈ kk <;> simp [hin, ek]
            · walk_at "gs"
              have hev : ¬ p.2 % 2 = 1 := fun z => he (decide_eq_true (congrArg V.int z))
              refine ⟨g4, ⟨lv3, el4, d3⟩, ⟨ts, eo4, by rw [hsn, oddsL_snoc, if_neg hev, List.append_nil]; exact hts4⟩, pk, kj, _, _, _, _, ek4, nkL, nkO, nkf, ndj, fun k => ?_, rfl⟩
              rw [memj, hsn, turnsK_snoc, turnK, if_neg hev]
        · obtain ⟨g1, ⟨l, el, dl⟩, ⟨ts, eo, hts⟩, pk, kj, x3, x4, x11, x12, ek, nkL, nkO, nkf, ndj, memj, rfl⟩ := p
          have hlq : ys.length = qS.length := by rw [hys, List.length_map]
          rw [List.length_map, hlq, List.take_length] at dl hts memj
          have eaD := g1 _ _ (nn ea1).2 (nn ea1).1 ea7
          have efD := g1 _ _ (nn ef).2 (nn ef).1 ef7
          have sHd : Same H Hd := fun c u e => g1 _ _ (nn (sc _ _ e)).2 (nn (sc _ _ e)).1 ((s56.trans s7) _ _ (sc _ _ e))
          have nOH : H O = none := sc.free hO
          have nOf : O ≠ pf := (nn ef).1.symm
          have sCd : Same Hc Hd := fun c u e => g1 _ _ (nn e).2 (nn e).1 ((s56.trans s7) _ _ e)
          walk_at "gs"
          refine ⟨.inl ⟨rfl, _, .inl (.inl efD)⟩, ?_⟩
          walk_at "gs"
          refine ⟨small64 (by simp), fun pn hpn => ?_⟩
          generalize hU : upd _ pn _ = Hm
          obtain ⟨sm, em⟩ := upd_facts hU hpn
          clear hU
          walk_at "gs"
          have hbl : bs.length = i := by have := pairs_len hbs; rwa [List.length_range] at this
          refine k_app (sm _ _ efD) (by rw [List.length_map, hbl]; exact Nat.lt_trans hi' (Nat.lt_of_le_of_lt ht (by decide))) ?_
          have efm := sm _ _ efD
          have nf : ∀ {c : Addr} {u : HO}, c ≠ pf → Hm c = some u → (upd Hm pf (.lst (bs.map V.ref ++ [.ref pn]))) c = some u := fun n e => (upd_ne n).trans e
          have hbs2 : Paired (fun b n => PlayX pf H (upd Hm pf (.lst (bs.map V.ref ++ [.ref pn]))) hs ks b n) (bs ++ [pn]) (List.range (i + 1)) := by
            rw [List.range_succ]
            refine Paired.snoc (pairs_mono (fun _ _ h => (h.keep (fun c u _ e => (sCd.trans sm) _ _ e) ⟨_, ef⟩).keep (fun c u n e => nf n e) ⟨_, efm⟩) hbs) ⟨sHd.free hpn, pa, O, qs, kk, ts, nf (fun z => by rw [z, efD] at hpn; cases hpn) em, na1, nOH, nf (fun z => by rw [z, efD] at eaD; cases eaD) (sm _ _ eaD), gn, nf nOf (sm _ _ eo), nOf, _, pairs_mono (fun _ _ h => ⟨h.1, nf (fun z => by have := h.2; rw [z, efD] at this; cases this) (sm _ _ h.2)⟩) hts, fun hs' ls p1 a1 p2 => ?_⟩
            rw [hgo hs' ls p1 a1 p2]
            exact oddsL_congr (gn.mem p1 a1 p2)
          have ef9 : (upd Hm pf (.lst (bs.map V.ref ++ [.ref pn]))) pf = some (.lst ((bs ++ [pn]).map V.ref)) := by rw [upd_same, List.map_append]; rfl
          have el9 := nf (fun z => by rw [z, efD] at el; cases el) (sm _ _ el)
          have ek9 := nf nkf (sm _ _ ek)
          have s9 : Same H (upd Hm pf (.lst (bs.map V.ref ++ [.ref pn]))) := fun c u e => nf (ne_of_none e npf) (sm _ _ (sHd _ _ e))
          generalize upd Hm pf (.lst (bs.map V.ref ++ [.ref pn])) = H9 at hbs2 ef9 el9 ek9 s9
          clear nf hbs
          walk_at "gs"
          refine k_lockE el9 trivial fun od3 => ?_
          have gM : Gx L H9 (upd H9 L (.frz od3 (.dK l))) := Gx.put
          have eLM : (upd H9 L (.frz od3 (.dK l))) L = some (.frz od3 (.dK l)) := upd_same
          generalize upd H9 L (.frz od3 (.dK l)) = Hn at gM eLM
          walk_at "gs"
          refine ⟨L, od3, l, rfl, eLM, ?_⟩
          refine lcIn_itemsW posE eLM (Nat.le_trans (dl.len 2000900 (by omega)) (by decide)) (fun x y => rfl) (fun x y => rfl) (fun x y => rfl) (fun kv hkv H2 s2 QT k => ?_) (fun pq H2 ps2 npq s2 eq hps2 => ?_)
          · obtain ⟨k0, e0, b1, b2⟩ := dl.key kv hkv
            subst e0
            walk_at "gs"
            exact k _ (Same.refl _)
          · refine ⟨s2 _ _ eLM, ?_⟩
            have s5' : Same H9 (upd H2 L (.dK l)) := fun c u e => by
              by_cases z : c = L
              · subst z
                rw [upd_same]
                rw [el9] at e
                exact e
              · rw [upd_ne z]
                exact s2 _ _ (gM _ _ z e)
            have npL2 : pq ≠ L := fun z => by rw [z, eLM] at npq; cases npq
            have eq5 : (upd H2 L (.dK l)) pq = some (.lst (ps2.map V.ref)) := (upd_ne npL2).trans eq
            have hps5 : Paired (PairAt (upd H2 L (.dK l))) ps2 (l.filter posE) := pairs_mono (fun t kv h => (upd_ne fun z => by subst z; have := (s2 _ _ eLM).symm.trans h; cases this).trans h) hps2
            generalize upd H2 L (.dK l) = Hy at s5' eq5 hps5
            obtain ⟨rs, hrs, hrn, hrp, hrc⟩ := dl.posH fun k => goes_sum_nonneg fpS
            rw [hrs] at hps5
            walk_at "gs"
            refine ⟨pq, ps2, rs.map entI, rfl, .inl (.inl eq5), pairs_mono (fun t p h => .inl (.inl h)) hps5, fun pw hpw => ?_⟩
            rw [mergeK_nd _ _ (ents_nd hrn), List.nil_append]
            generalize hU : upd Hy pw _ = Hz
            obtain ⟨sz, ez⟩ := upd_facts hU hpw
            clear hU
            walk_at "gs"
            have s9z := s5'.trans sz
            refine ⟨s9.trans s9z, pw, pk, rs, kj, bs ++ [pn], _, _, _, _, _, _, _, rfl, (s9.trans s5').free hpw, ez, s9z _ _ ek9, gS.step hrn hrp hrc memj, ndj, s9z _ _ ef9, nkf, pairs_mono (fun _ _ h => h.keep (fun c u _ e => s9z _ _ e) ⟨_, ef9⟩) hbs2⟩
      · obtain ⟨sc, pa, pb2, qs, kk, bs, x3, x4, x8, x9, x10, x11, x12, rfl, na1, ea1, eb1, gn, nk, ef, nbf, hbs⟩ := hP
        walk_at "gs"
        refine ⟨small64 (by simp), fun pe hpe => ?_⟩
        generalize hU : upd _ pe _ = H5
        obtain ⟨s5, e5⟩ := upd_facts hU hpe
        clear hU
        walk_at "gs"
        refine ⟨small64 (by simp), fun pm hpm => ?_⟩
        generalize hU : upd _ pm _ = H6
        obtain ⟨s6, e6⟩ := upd_facts hU hpm
        clear hU
        walk_at "gs"
        refine ⟨small64 (by simp), fun pl2 hpl2 => ?_⟩
        generalize hU : upd _ pl2 _ = H7
        obtain ⟨s7, e7⟩ := upd_facts hU hpl2
        clear hU
        have s57 := s5.trans (s6.trans s7)
        have hbl : bs.length = t := by have := pairs_len hbs; rwa [List.length_range, Int.toNat_natCast] at this
        refine k_cat (s57 _ _ ef) e7 (by rw [List.length_map, hbl]; exact Nat.le_trans (Nat.add_le_add_right ht 1) (by decide)) fun pc hpc => ?_
        generalize hU : upd H7 pc _ = H8
        obtain ⟨s8, e8⟩ := upd_facts hU hpc
        clear hU
        have s58 := s57.trans s8
        rw [Int.toNat_natCast] at gn hbs
        refine q H8 pc bs pm (sc.trans s58) ((sc.trans s57).free hpc) (by rw [e8, List.map_append]; rfl) (pairs_mono (fun _ _ h => (h.keep (fun c u _ e => s58 _ _ e) ⟨_, ef⟩).at) hbs) ⟨(sc.trans s5).free hpm, pa, pe, qs, kk, s8 _ _ (s7 _ _ e6), na1, s58 _ _ ea1, gn, s8 _ _ (s7 _ _ (s6 _ _ e5))⟩
end
end K45

namespace K45
open PySem PySem.Spec PyProof.Rows L2 Nd
abbrev s_granting_heaps : Stmt := top 24
theorem sc_granting_heaps : FnScope ["lefts", "wished", "colour", "windows", "start", "chips", "spot", "hands", "tick", "low", "high", "odd", "right", "at", "many"] ["lefts", "wished", "colour", "windows"] (defScope s_granting_heaps) := ⟨rfl, rfl, rfl, by decide +kernel, rfl, by decide +kernel, by decide +kernel⟩
section
variable {P : Program} {w : World} {K : PySem.W.Frag} {mg : Str → Option Value} {base : Heap}
theorem ok_granting {f : Addr} {fd : FuncData} (F : Fun K "granting_heaps" "granting_heaps" s_granting_heaps f fd) (T : TxtC mg) (C_sent_on : Cal P w K mg base CX0 1 "sent_on" spSent) : FnG P w K mg base CX0 2 f fd ["lefts", "wished", "colour", "windows"] spGrant := by
  refine okG0 F sc_granting_heaps (fun vs H Q E h => ?_) (fun cdv A outer s H vs Q E hG hr h => ?_)
  · obtain ⟨r, x, d, wv, ks, ws, col, lo, hi, t, rfl, _⟩ := h
    rfl
  · obtain ⟨r, x, d, wv, ks, ws, col, lo, hi, t, rfl, hx, ed, c0, c1, ht, hwin, hlim, q⟩ := h
    refine ⟨_, (pss_cons (ps_set (i := 4) sc_granting_heaps.nd rfl (.inr rfl) pe_dnewK)
      (pss_cons (ps_set (i := 5) sc_granting_heaps.nd rfl (.inl rfl) pe_dnewK)
      (pss_cons (ps_setDc (i := 7) (own := [("spot", 6)]) (g := gName 6) (tt := tYes) rfl sc_granting_heaps.nd rfl rfl (sw_trueD rfl rfl rfl (by decide +kernel)) (pi_any (pv 0)) (blkOk_by (own := [("spot", 6)]) (N := ["lefts", "wished", "colour", "windows", "start", "chips", "spot", "hands", "tick", "low", "high", "odd", "right", "at", "many"]) (sc := defScope s_granting_heaps) (by decide +kernel)) (fun _ _ _ _ _ => pg_name (i := 6) sc_granting_heaps.nd rfl (Or.inl rfl)) (fun _ _ _ _ _ => pts_nil) (fun _ _ _ _ _ => (pv 6)) (fun _ _ _ _ _ => pe_bl))
      (pss_cons (ps_for PassesOwn.never rfl (pi_enum (by rfl) T.m_enumerate (pa_cons (pv 3) pa_nil)) (pg_tup (by rfl) (pgs_cons (pg_name (i := 8) sc_granting_heaps.nd rfl (.inl rfl)) (pgs_cons (pg_tup (by rfl) (pgs_cons (pg_name (i := 9) sc_granting_heaps.nd rfl (.inl rfl)) (pgs_cons (pg_name (i := 10) sc_granting_heaps.nd rfl (.inl rfl)) pgs_nil))) pgs_nil))) (pss_cons (ps_for PassesOwn.never rfl (pi_range3 rfl T.m_range (pa_cons (pe_op op_add (pv 9) (pe_op op_mod (pe_op op_add (pe_op op_add (pv 9) (pv 8)) (pv 2)) pe_int)) (pa_cons (pe_op op_add (pv 10) pe_int) (pa_cons pe_int pa_nil)))) (pg_name (i := 6) sc_granting_heaps.nd rfl (.inl rfl)) (pss_cons (ps_set (i := 11) sc_granting_heaps.nd rfl (.inl rfl) (pe_cmpR op_eq (pe_op op_mod (pe_dget2 (hu_of hr) (pv 5) (pv 6) pe_int ⟨by rfl, by rfl, by rfl, by rfl⟩) pe_int) pe_int (nomark _)))
      (pss_one (ps_if (pt_cmpR op_ne (pv 11) (pe_cmp (pc_din (hu_of hr) (pe_tup (pa_cons (pv 6) (pa_cons (pv 8) pa_nil))) (pv 1))) (nomark _)) (pss_cons (ps_dput (hu_of hr) (pv 4) (pe_op op_add (pv 6) (pv 8)) (pe_op op_add (pe_dget2 (hu_of hr) (pv 4) (pe_op op_add (pv 6) (pv 8)) pe_int ⟨by rfl, by rfl, by rfl, by rfl⟩) (pe_op op_shlW pe_int (pv 8))) rfl)
      (pss_one (ps_for PassesOwn.never rfl (pi_range1 rfl T.m_range (pa_cons (pe_op op_add (pv 8) pe_int) pa_nil)) (pg_name (i := 12) sc_granting_heaps.nd rfl (.inl rfl)) (pss_cons (ps_set (i := 13) sc_granting_heaps.nd rfl (.inl rfl) (pe_op op_add (pv 6) (pe_op op_mul pe_int (pv 12))))
      (pss_one (ps_dput (hu_of hr) (pv 5) (pv 13) (pe_op op_add (pe_dget2 (hu_of hr) (pv 5) (pv 13) pe_int ⟨by rfl, by rfl, by rfl, by rfl⟩) (pe_callBfun cr_comb (by rfl) T.m_comb (pa_cons (pv 8) (pa_cons (pv 12) pa_nil)))) rfl)))))) pss_nil))))
      (pss_one (ps_setDc (i := 5) (own := [("spot", 6), ("many", 14)]) (g := (gTup K 2 (gCons (gName 6) (gCons (gName 14) gNil)))) (tt := tYes) rfl sc_granting_heaps.nd rfl rfl (sw_trueD rfl rfl rfl (by decide +kernel)) (pi_list (pe_f C_sent_on hG (hr.mono (by decide)) (by rfl) pass0 (pa_cons (pe_callB (id := "sorted") (cr_sortedKI rfl) (by rfl) T.m_sorted (by decide +kernel) (pa_cons (pe_bm0 PySem.F.plainAttrs_dict PySem.F.slot_dict_items PySem.F.type_dict_items mt_itemsK (pv 5)) pa_nil)) (pa_cons (pv 7) pa_nil)))) (blkOk_by (own := [("spot", 6), ("many", 14)]) (N := ["lefts", "wished", "colour", "windows", "start", "chips", "spot", "hands", "tick", "low", "high", "odd", "right", "at", "many"]) (sc := defScope s_granting_heaps) (by decide +kernel)) (fun _ _ _ _ _ => (pg_tup (by rfl) (pgs_cons (pg_name (i := 6) sc_granting_heaps.nd rfl (.inl rfl)) (pgs_cons (pg_name (i := 14) sc_granting_heaps.nd rfl (.inl rfl)) pgs_nil)))) (fun _ _ _ _ _ => pts_nil) (fun _ _ _ _ _ => (pv 6)) (fun _ _ _ _ _ => (pv 14))))))
      (pss_one (ps_ret (pe_callTy call_tupleP (by rfl) T.m_tuple (by decide +kernel) (pa_cons (pe_lc (own := [("spot", 6)]) (g := gName 6) (tt := tYes) rfl sc_granting_heaps.nd (pi_list (pe_callB (id := "sorted") (cr_sortedD rfl) (by rfl) T.m_sorted (by decide +kernel) (pa_cons (pv 4) pa_nil))) (blkOk_by (own := [("spot", 6)]) (N := ["lefts", "wished", "colour", "windows", "start", "chips", "spot", "hands", "tick", "low", "high", "odd", "right", "at", "many"]) (sc := defScope s_granting_heaps) (by decide +kernel)) (fun _ _ _ _ _ => pg_name (i := 6) sc_granting_heaps.nd rfl (Or.inl rfl)) (fun _ _ _ _ _ => pts_nil) (fun _ _ _ _ _ => (pe_tup (pa_cons (pv 6) (pa_cons (pe_dget (hu_of hr) (pv 4) (pv 6) (fun _ _ => rfl)) pa_nil))))) pa_nil)))))))), ?_⟩
    try dsimp only [cxOf, Cx.nox, Cx.wish]
    generalize hσ0 : L2.start _ _ = σ0
    obtain rfl : σ0 = ([some (x), some (.ref d), some (.int col), some (.ref wv), none, none, none, none, none, none, none, none, none, none, none] : L2.St) := by rw [← hσ0]; rfl
    clear hσ0
    walk_at "gs"
    intro st nst
    generalize hU : upd H st _ = H1
    obtain ⟨s1, e1⟩ := upd_facts hU nst
    clear hU
    walk_at "gs"
    intro c0' nc0
    generalize hU : upd H1 c0' _ = H2
    obtain ⟨s2, e2⟩ := upd_facts hU nc0
    clear hU
    walk_at "gs"
    walk_at "gl"
    have s12 := s1.trans s2
    obtain ⟨b, rfl, nb, eb⟩ := hx.ex
    have lks : (ks.map V.int).length = ks.length := List.length_map _
    refine ⟨b, ks.map V.int, rfl, seqA (seqTo eb fun u => s12 _ u), fun J G Wk hG => ?_⟩
    rw [lks] at Wk
    walk_at "gl"
    refine Nd.dcIn_lefts Wk (fun H' s => hG H' fun o e => s _ _ e) hx.nd (Nat.le_trans hx.few (by decide)) (fun x => rfl) (fun x => rfl) fun hd H3 nhd s3 e3 => ?_
    walk_at "gl"
    have s13 := s12.trans s3
    obtain ⟨tw, etw, ltw, hwt⟩ := hwin
    have hdst : hd ≠ st := fun z => by rw [z, s2 _ _ e1] at nhd; cases nhd
    have hdc : hd ≠ c0' := fun z => by rw [z, e2] at nhd; cases nhd
    have cst : c0' ≠ st := fun z => by rw [z, e1] at nc0; cases nc0
    refine ⟨wv, _, rfl, .inl (.inl (s13 _ _ etw)), ?_⟩
    have ltv : (tw.map V.ref).length = t := by rw [List.length_map, ltw]
    refine forIn_it walk_enum (fun i σ' Hc => Same H Hc ∧ ∃ ch qs kk ss x6 x8 x9 x10 x11 x12 x13 x14, σ' = [some (.ref b), some (.ref d), some (.int col), some (.ref wv), some (.ref st), some (.ref ch), x6, some (.ref hd), x8, x9, x10, x11, x12, x13, x14] ∧ H ch = none ∧ ch ≠ st ∧ ch ≠ hd ∧ Hc ch = some (.dK (qs.map entI)) ∧ Hc st = some (.dK (ss.map entI)) ∧ Hc hd = some (.dK (kk.map entB)) ∧ GrI ks ws col lo hi i (lo i) qs kk ss ∧ Nd.cnt ss 0 = gAll ks ws col lo hi i)
      ⟨s13, c0', [], ks, [], _, _, _, _, _, _, _, _, rfl, s1.free nc0, cst, hdc.symm, s3 _ _ e2, s3 _ _ (s2 _ _ e1), e3, GrI.start hx.nd (fun k hk => by have := hx.ok k hk; omega), rfl⟩ (fun i σ' Hc _ z => .inl (.inl (z.1 _ _ etw))) (fun i y σ' Hc Hc' hi0 z w' => ?_) (fun σ' Hc z => ?_)
    · obtain ⟨sc, ch, qs, kk, ss, x6, x8, x9, x10, x11, x12, x13, x14, rfl, nch, cst, chd, ech, est, ehd, g, gf⟩ := z
      rw [ltv] at hi0
      obtain ⟨T0, a0, b0, rfl, hT, rfl, ha, hb⟩ := w'
      obtain rfl : a0 = .int (i : Int) := (Option.some.inj ha).symm
      replace hb : (tw.map V.ref)[i]? = some b0 := hb
      rw [List.getElem?_map] at hb
      obtain ⟨bw, hbw, rfl⟩ := Option.map_eq_some_iff.mp hb
      have ebw := sc _ _ (hwt i bw hbw)
      obtain ⟨l0, l1, l2, l3⟩ := hlim i hi0
      generalize hU : upd Hc T0 _ = Hd
      obtain ⟨sT, eT⟩ := upd_facts hU hT
      clear hU
      refine k_gtup (.inl (.inl eT)) rfl ?_
      refine k_gcons (k_gname (k_gcons ?_))
      refine k_gtup (.inl (.inl (sT _ _ ebw))) rfl ?_
      walk_at "gl"
      refine k_iRng3 ?_
      walk_at "gl"
      refine k_I (by decide) ?_
      walk_at "gl"
      obtain ⟨x0, hx0⟩ : ∃ x0, x0 = lo i + (lo i + (i : Int) + col) % 2 := ⟨_, rfl⟩
      have hx0' : gX0 col lo i = x0 := hx0.symm
      rw [← hx0]
      refine ⟨_, _, _, _, rfl, rgC_two (i := x0) (j := hi i + 1) (by omega) (by omega) (by omega) (by omega), ?_⟩
      have scd := sc.trans sT
      have l60 : lo i ≤ x0 ∧ x0 ≤ lo i + 1 ∧ (x0 + i) % 2 = col := by omega
      have g0 : GrI ks ws col lo hi i x0 qs kk ss := g.skip l60.1 fun s h1 h2 h3 h4 h5 => by omega
      refine forIn_it walk_rangeC (fun m σ' He => Same H He ∧ ∃ qs ss x6 x11 x12 x13 x14, σ' = [some (.ref b), some (.ref d), some (.int col), some (.ref wv), some (.ref st), some (.ref ch), x6, some (.ref hd), some (.int (i : Int)), some (.int (lo i)), some (.int (hi i)), x11, x12, x13, x14] ∧ He ch = some (.dK (qs.map entI)) ∧ He st = some (.dK (ss.map entI)) ∧ He hd = some (.dK (kk.map entB)) ∧ GrI ks ws col lo hi i (x0 + 2 * m) qs kk ss ∧ Nd.cnt ss 0 = gRow ks ws col lo i (gAll ks ws col lo hi i) m)
        ⟨scd, qs, ss, _, _, _, _, _, rfl, sT _ _ ech, sT _ _ est, sT _ _ ehd, by rw [show x0 + 2 * ((0 : Nat) : Int) = x0 by omega]; exact g0, gf⟩ (fun m σ' He _ _ => trivial) (fun m y σ' He He' hm z w' => ?_) (fun σ' He z => ?_)
      · obtain ⟨se, qs, ss, x6, x11, x12, x13, x14, rfl, ech, est, ehd, g, gf⟩ := z
        obtain ⟨rfl, rfl⟩ := w'
        obtain ⟨x, hx1⟩ : ∃ x, x = x0 + 2 * (m : Int) := ⟨_, rfl⟩
        dsimp only
        rw [show x0 + (m : Int) * 2 = x by omega]
        rw [← hx1] at g
        have hgx : gRow ks ws col lo i (gAll ks ws col lo hi i) (m + 1) = gStep ks ws i x (Nd.cnt ss 0) := by
          show gStep ks ws i (gX0 col lo i + 2 * (m : Int)) _ = _
          rw [hx0', ← hx1, gf]
        have hpar : (itF i (Nd.cnt ss 0, fun k => decide (k ∈ ks))).1 x = Nd.cnt qs 0 x := (g.fa x).symm
        rw [show x0 + 2 * ((m + 1 : Nat) : Int) = x + 2 by omega]
        have hxx : lo i ≤ x ∧ x ≤ hi i ∧ (x + i) % 2 = col := by omega
        walk_at "gl"
        refine ⟨.inl ⟨_, .inl ech⟩, ?_⟩
        walk_at "gl"
        refine ⟨_, DGet.k (k := .inl x) ech, ?_⟩
        rw [valV_cnt g.qn]
        walk_at "gl"
        refine k_I (by decide) ?_
        walk_at "gl"
        refine ⟨small64 (by simp), fun pT hpT => ?_⟩
        generalize hU : upd _ pT _ = Hf
        obtain ⟨sf, ef⟩ := upd_facts hU hpT
        clear hU
        walk_at "gl"
        refine ⟨d, _, rfl, .inr ⟨_, plW (x, (i : Int)), pT, .inl (sf _ _ (se _ _ ed)), rfl, ef, rfl⟩, ?_⟩
        rw [valV_entW]
        walk_at "gl"
        have sg := se.trans sf
        have ech2 := sf _ _ ech
        have est2 := sf _ _ est
        have ehd2 := sf _ _ ehd
        refine ite2 (fun hne => ?_) (fun heq => ?_)
        · have hw : ¬ (Nd.cnt qs 0 x % 2 = 1 ↔ (x, (i : Int)) ∈ ws) := fun z => by
            simp [z] at hne
          walk_at "gl"
          refine ⟨.inl ⟨_, .inl est2⟩, ?_⟩
          walk_at "gl"
          refine ⟨_, DGet.k (k := .inl (x + i)) est2, ?_⟩
          rw [valV_cnt g.sn]
          walk_at "gl"
          refine k_I (show CShl 1 (i : Int) from shl_ok (n := 2) (by decide) (by omega)) ?_
          rw [Int.toNat_natCast, Int.one_mul]
          walk_at "gl"
          have lss : ss.length ≤ 2100000 := by
            have := nodup_range (lo := -1000200) (n := 2100000) g.sn fun y hy => by
              obtain ⟨p, hp, rfl⟩ := List.mem_map.mp hy
              obtain ⟨_, _, _, _, n, hn, h5, h6, _⟩ := g.sp p hp
              have := hlim n (by omega)
              omega
            rwa [List.length_map] at this
          refine ⟨st, _, rfl, DPut.k (k := .inl (x + i)) est2 (Nat.lt_of_le_of_lt (Nat.le_trans (Nat.le_of_eq (List.length_map _)) lss) (by decide)), ?_⟩
          obtain ⟨ss', hs1, hs2, hs3, hs4⟩ := putI g.sn (x + i) (Nd.cnt ss 0 (x + i) + 2 ^ i)
          rw [hs1]
          have ech3 : (upd Hf st (.dK (ss'.map entI))) ch = some (.dK (qs.map entI)) := (upd_ne cst).trans ech2
          have ehd3 : (upd Hf st (.dK (ss'.map entI))) hd = some (.dK (kk.map entB)) := (upd_ne hdst).trans ehd2
          have est3 : (upd Hf st (.dK (ss'.map entI))) st = some (.dK (ss'.map entI)) := upd_same
          have sg3 : Same H (upd Hf st (.dK (ss'.map entI))) := fun c u e => (upd_ne (ne_of_none e nst)).trans (sg c u e)
          generalize upd Hf st (.dK (ss'.map entI)) = Hg at ech3 ehd3 est3 sg3
          walk_at "gl"
          refine ⟨by omega, by omega, ?_⟩
          have hqp : ∀ p ∈ qs, 1 ≤ p.2 := fun p hp => (g.qp p hp).1
          refine forIn_R (fun m2 σ' Hx => Same H Hx ∧ ∃ qm x11 x12 x13 x14, σ' = [some (.ref b), some (.ref d), some (.int col), some (.ref wv), some (.ref st), some (.ref ch), some (.int x), some (.ref hd), some (.int (i : Int)), some (.int (lo i)), some (.int (hi i)), x11, x12, x13, x14] ∧ Hx ch = some (.dK (qm.map entI)) ∧ Hx st = some (.dK (ss'.map entI)) ∧ Hx hd = some (.dK (kk.map entB)) ∧ RtI qs qm i x m2)
            ⟨sg3, qs, _, _, _, _, rfl, ech3, est3, ehd3, RtI.start g.qn hqp i x⟩ (fun m2 σ' Hx hm2 z => ?_) (fun σ' Hx z => ?_)
          · obtain ⟨sx, qm, x11, x12, x13, x14, rfl, ech4, est4, ehd4, rt⟩ := z
            have hmi : m2 ≤ i := by omega
            walk_at "gl"
            refine k_I (.inl ⟨by decide, by decide⟩) ?_
            rw [Int.zero_add]
            walk_at "gl"
            refine ⟨.inl ⟨_, .inl ech4⟩, ?_⟩
            walk_at "gl"
            refine ⟨_, DGet.k (k := .inl (x + 2 * (m2 : Int))) ech4, ?_⟩
            rw [valV_cnt rt.nd]
            walk_at "gl"
            refine Nd.k_comb (n := i) (k := m2) (by omega) ?_
            walk_at "gl"
            refine ⟨ch, _, rfl, DPut.k (k := .inl (x + 2 * (m2 : Int))) ech4 (Nat.lt_of_le_of_lt (Nat.le_trans (Nat.le_of_eq (List.length_map _)) (rt.len (fun p hp => by have := g.qp p hp; omega) (by omega) (by omega))) (by decide)), ?_⟩
            obtain ⟨qn, hq1, rt2⟩ := rt.put hmi hqp
            rw [hq1]
            exact ⟨fun c u e => (upd_ne (ne_of_none e nch)).trans (sx c u e), qn, _, _, _, _, rfl, upd_same, (upd_ne cst.symm).trans est4, (upd_ne chd.symm).trans ehd4, rt2⟩
          · obtain ⟨sx, qm, x11, x12, x13, x14, rfl, ech4, est4, ehd4, rt⟩ := z
            walk_at "gl"
            rw [show ((i : Int) + 1).toNat = i + 1 by omega] at rt
            exact ⟨sx, qm, ss', _, _, _, _, _, rfl, ech4, est4, ehd4, g.add hxx (by omega) (by omega) hw hs2 hs3 hs4 rt.nd rt.pos rt.done, by
              rw [hgx]
              exact funext fun j => (hs4 j).trans (gStep_no (by rw [hpar]; exact hw) j).symm⟩
        · have hw : (Nd.cnt qs 0 x % 2 = 1 ↔ (x, (i : Int)) ∈ ws) := by
            by_cases z1 : Nd.cnt qs 0 x % 2 = 1 <;> by_cases z2 : (x, (i : Int)) ∈ ws <;> simp [z1, z2] at heq ⊢
          walk_at "gl"
          exact ⟨sg, qs, ss, _, _, _, _, _, rfl, ech2, est2, ehd2, g.skip (by omega) fun s h1 h2 h3 h4 h5 => by
            obtain rfl : s = x := by omega
            exact hw, by rw [hgx, gStep_yes (by rw [hpar]; exact hw)]⟩
      · obtain ⟨se, qs, ss, x6, x11, x12, x13, x14, rfl, ech, est, ehd, g, gf⟩ := z
        walk_at "gl"
        refine Nd.k_bm0 ?_
        walk_at "gl"
        refine ⟨.inr (.inr (.inl ⟨rfl, .inl ⟨_, ech⟩⟩)), ch, _, rfl, rfl, ech, fun pv hpv => ?_⟩
        generalize hU : upd He pv _ = Hf
        obtain ⟨sf, ef⟩ := upd_facts hU hpv
        clear hU
        walk_at "gl"
        refine ⟨pv, ch, qs, rfl, ef, sf _ _ ech, fun Hg pl tl hs2 sg npl epl htl perm lex => ?_⟩
        have asc := g.asc perm lex
        have sfg := sf.trans sg
        have hhd : Hs hd Hg (.ref pl) hs2 := ⟨⟨pl, _, rfl, (fun z => by rw [z, sf _ _ ehd] at npl; cases npl), .inl epl, pairs_mapL (fun t p h => ⟨t, rfl, (fun z => by have h1 := h.1; rw [z, sf _ _ ehd] at h1; cases h1), .inl h.2⟩) htl⟩⟩
        have lq : hs2.length ≤ 2100000 := by
          rw [perm.length_eq]
          have := nodup_range (lo := -1000400) (n := 2100000) g.qn fun y hy => by
            obtain ⟨p, hp, rfl⟩ := List.mem_map.mp hy
            have := g.qp p hp
            omega
          rwa [List.length_map] at this
        have lkk : kk.length ≤ 2100000 := nodup_range (lo := -1000400) (n := 2100000) g.kn fun y hy => by
          have := g.kb y hy
          omega
        walk_at "gl"
        refine ⟨hd, .ref pl, hs2, kk, rfl, hhd, sfg _ _ ehd, asc, g.kn, by omega, by omega, fun Hh ps2 ts3 bh ehd2 nps eps hps => ?_⟩
        walk_at "gl"
        refine ⟨⟨_, .inl (.inl eps)⟩, ?_⟩
        have hA : Asc (sentF (fun s => decide (s ∈ kk)) hs2) := asc.sent
        have hIB : InB (1000300 + i) (hs2, kk) := ⟨asc, g.kn, fun q hq => by have := g.qp q (perm.mem_iff.mp hq); omega, fun k hk => by have := g.kb k hk; omega⟩
        have lnew : (sentF (fun s => decide (s ∈ kk)) hs2).length ≤ 10000000 := by
          have h1 := hIB.stp
          have := InB.hlen (B := 1000300 + i + 1) (by rw [show ((1000300 + i + 1 : Nat) : Int) = 1000300 + (i : Int) + 1 by omega]; exact h1)
          exact Nat.le_trans this (by omega)
        refine Nd.dcIn_prs eps hps (asc_nodup hA) lnew (fun _ _ => rfl) (fun _ _ => rfl) (fun _ _ => rfl) fun d2 Hi nd2 s2i e2i => ?_
        have hfin : hi i < x0 + 2 * (((hi i + 1 - x0 + 1) / 2).toNat : Int) := by omega
        have nH : ∀ {c : Addr} {u : HO}, H c = some u → c ≠ hd := fun e => ne_of_none e (s12.free nhd)
        have sH : Same H Hh := fun c u e => bh c u (nH e) (sfg c u (se c u e))
        refine k_gname ⟨sH.trans s2i, d2, _, _, ss, _, _, _, _, _, _, _, _, rfl, sH.free nd2, ?_, ?_, e2i, s2i _ _ (bh _ _ hdst.symm (sfg _ _ est)), s2i _ _ ehd2, g.tick hfin perm asc, by
          show _ = gRow ks ws col lo i (gAll ks ws col lo hi i) ((hi i + 1 - gX0 col lo i + 1) / 2).toNat
          rw [hx0']
          exact gf⟩
        · exact fun z => by rw [z, bh _ _ hdst.symm (sfg _ _ est)] at nd2; cases nd2
        · exact fun z => by rw [z, ehd2] at nd2; cases nd2
    · obtain ⟨sc, ch, qs, kk, ss, x6, x8, x9, x10, x11, x12, x13, x14, rfl, nch, cst, chd, ech, est, ehd, g, gf⟩ := z
      rw [ltv] at g gf
      walk_at "gl"
      have key1 : (ss.map entI).map (·.1) = (ss.map (·.1)).map Sum.inl := by rw [List.map_map, List.map_map]; rfl
      refine ⟨st, ss.map entI, ss.map (·.1), rfl, .inl est, key1, fun ys pl perm srt npl => ?_⟩
      generalize hU : upd Hc pl _ = Hd
      obtain ⟨sd, ed2⟩ := upd_facts hU npl
      clear hU
      walk_at "gl"
      refine ⟨⟨_, .inl (.inl ed2)⟩, ?_⟩
      have lss : ss.length ≤ 2100000 := by
        have := nodup_range (lo := -1000200) (n := 2100000) g.sn fun y hy => by
          obtain ⟨p, hp, rfl⟩ := List.mem_map.mp hy
          obtain ⟨_, _, h4, _, n, hn, h5, h6, h7⟩ := g.sp p hp
          have hnt : n ≠ t := fun z => by
            have := h7 z
            subst z
            omega
          have := hlim n (by omega)
          omega
        rwa [List.length_map] at this
      have lys : ys.length ≤ 2100000 := by rw [perm.length_eq, List.length_map]; exact lss
      refine Nd.lcIn_ksTw (fun k => Nd.cnt ss 0 k) ed2 (by omega) (fun x => rfl) (fun k He hk se QE kk2 => ?_) (fun pp He ts np se ep hts => ?_)
      · walk_at "gl"
        have hk2 : k ∈ ss.map (·.1) := perm.mem_iff.mp hk
        refine Nd.k_dget ?_
        walk_at "gl"
        refine ⟨st, _, rfl, by rw [← valV_at g.sn hk2]; exact DGet.k (k := .inl k) (se _ _ (sd _ _ est)), ?_⟩
        walk_at "gl"
        refine ⟨small64 (by simp), fun pn hpn => ?_⟩
        generalize hU : upd _ pn _ = Hf
        obtain ⟨sf, ef⟩ := upd_facts hU hpn
        clear hU
        exact kk2 _ _ sf hpn ef
      · walk_at "gl"
        refine ⟨pp, ts.map V.ref, rfl, .inl (.inl ep), fun l ob hob hl => ?_⟩
        generalize hU : upd He l _ = Hf
        obtain ⟨sf, ef⟩ := upd_facts hU hl
        clear hU
        have sH := sc.trans (sd.trans se)
        exact q Hf l ts _ (sH.trans sf) (sH.free hl) ⟨ob, hob, ef⟩ (pairs_mono (fun a b h => ⟨(sc.trans sd).free h.1, sf _ _ h.2⟩) hts) (g.grants gf perm srt)
end
end K45

namespace K45
open PySem PySem.Spec PyProof.Rows L2 Nd
abbrev s__are_unlike_pairs : Stmt := top 26
theorem sc__are_unlike_pairs : FnScope ["value", "one", "other", "pair"] ["value"] (defScope s__are_unlike_pairs) := ⟨rfl, rfl, rfl, by decide +kernel, rfl, by decide +kernel, by decide +kernel⟩
abbrev s_need_wish : Stmt := top 23
theorem sc_need_wish : FnScope ["lefts", "wish", "colour", "low", "high", "ticks", "spot", "tick"] ["lefts", "wish", "colour", "low", "high", "ticks"] (defScope s_need_wish) := ⟨rfl, rfl, rfl, by decide +kernel, rfl, by decide +kernel, by decide +kernel⟩
abbrev s_start_for : Stmt := top 22
theorem sc_start_for : FnScope ["lefts", "wish", "colour", "low", "high", "ticks", "wished", "spot", "tick"] ["lefts", "wish", "colour", "low", "high", "ticks"] (defScope s_start_for) := ⟨rfl, rfl, rfl, by decide +kernel, rfl, by decide +kernel, by decide +kernel⟩
section
variable {P : Program} {w : World} {K : PySem.W.Frag} {mg : Str → Option Value} {base : Heap}
theorem ok_unlike {f : Addr} {fd : FuncData} (F : Fun K "_are_unlike_pairs" "_are_unlike_pairs" s__are_unlike_pairs f fd) (T : TxtC mg) (C_are_integers : Cal P w K mg base CX0 2 "are_integers" spAreInts) : FnG P w K mg base CX0 3 f fd ["value"] spUnlike := by
  refine okG0 F sc__are_unlike_pairs (fun vs H Q E h => ?_) (fun cdv A outer s H vs Q E hG hr h => ?_)
  · obtain ⟨r, v, d, rfl, _⟩ := h
    rfl
  · obtain ⟨r, v, d, rfl, hd, hl, h62, q⟩ := h
    refine ⟨_, (pss_cons (ps_if (PW.pt (pw_or (pt_not (pt_val (pe_callB (id := "isinstance") call_isiT (by rfl) T.m_isinstance (by decide +kernel) (pa_cons (pv 0) (pa_cons (pe_tup (pa_cons (pe_bltn (v := .ty "list") (u := .type "list") (by rfl) T.m_list (by decide +kernel) rfl) (pa_cons (pe_bltn (v := .ty "tuple") (u := .type "tuple") (by rfl) T.m_tuple (by decide +kernel) rfl) pa_nil))) pa_nil))))) (pw_or1 (pt_not (pt_val (pe_callB (id := "all") (cr_all rfl) (by rfl) T.m_all (by decide +kernel) (pa_cons (pe_lc (own := [("pair", 3)]) (g := gName 3) (tt := tYes) rfl sc__are_unlike_pairs.nd (pi_any (pv 0)) (blkOk_by (own := [("pair", 3)]) (N := ["value", "one", "other", "pair"]) (sc := defScope s__are_unlike_pairs) (by decide +kernel)) (fun _ _ _ _ _ => pg_name (i := 3) sc__are_unlike_pairs.nd rfl (Or.inl rfl)) (fun _ _ _ _ _ => pts_nil) (fun _ _ _ _ _ => (pe_f C_are_integers hG (hr.mono (by decide)) (by rfl) pass0 (pa_cons (pv 3) (pa_cons pe_int pa_nil))))) pa_nil))))))) (pss_one (ps_ret pe_bl)) pss_nil)
      (pss_one (ps_ret (pe_cmpR op_eq (pe_callB (id := "len") call_lenST (by rfl) T.m_len PySem.boot_len (pa_cons (pe_scT (O := OT P w) (Ad := AdP P w) (own := [("one", 1), ("other", 2)]) (g := (gAny K 2 (gCons (gName 1) (gCons (gName 2) gNil)))) (tt := tYes) setT_starts setT_adds hr.units rfl sc__are_unlike_pairs.nd (pi_any (pv 0)) (blkOk_by (own := [("one", 1), ("other", 2)]) (N := ["value", "one", "other", "pair"]) (sc := defScope s__are_unlike_pairs) (by decide +kernel)) (fun _ _ _ _ _ => (pg_any (by rfl) (pgs_cons (pg_name (i := 1) sc__are_unlike_pairs.nd rfl (.inl rfl)) (pgs_cons (pg_name (i := 2) sc__are_unlike_pairs.nd rfl (.inl rfl)) pgs_nil)))) (fun _ _ _ _ _ => pts_nil) (fun _ _ _ _ _ => (pe_tup (pa_cons (pv 1) (pa_cons (pv 2) pa_nil))))) pa_nil)) (pe_callB (id := "len") call_len_seq (by rfl) T.m_len PySem.boot_len (pa_cons (pv 0) pa_nil)) (nomark _))))), ?_⟩
    try dsimp only [cxOf, Cx.nox, Cx.wish]
    walk_at "go"
    refine ⟨by show 2 ≤ sizeLine; decide, fun p hp => ?_⟩
    have s1 : Same H (upd H p (.tup [.ty "list", .ty "tuple"])) := Same.new hp
    walk_at "go"
    refine k_isi2 (hd.same s1) upd_same (by decide) (by decide) ?_
    walk_at "go"
    generalize upd H p (.tup [.ty "list", .ty "tuple"]) = H1 at s1 ⊢
    cases hi : itemsD d with
    | none =>
      rw [show (isD "list" d || isD "tuple" d) = false by rw [isD_items, hi]; rfl]
      refine iteT ?_
      refine iteT ?_
      walk_at "go"
      have q' := q _ s1
      rw [show unlikeD d = false by simp [unlikeD, hi]] at q'
      exact q'
    | some ds =>
      rw [show (isD "list" d || isD "tuple" d) = true by rw [isD_items, hi]; rfl]
      obtain ⟨a, xs, rfl, na, ea, hall⟩ := (hd.same s1).items hi
      have hlen := hall.length
      have hz := hl.1 ds hi
      have h62' := h62 ds hi
      refine iteF ?_
      walk_at "go"
      rw [show unlikeD d = (ds.all int2D && decide ((ds.map plD).Nodup)) by simp only [unlikeD, hi]; rfl] at q
      refine ⟨a, xs, rfl, seqA ea, fun J G W hG => ?_⟩
      refine lcIn_W W (fun _ => true) (fun i => .bl (int2D (ds.getD i .none))) (fun H' s => hG H' fun o e => s _ _ e) (by omega) (fun x => rfl) (fun i x H2 hx s2 => ⟨fun QT k => k _ (Same.refl _), fun _ H3 s3 QE k => ?_⟩) (fun p' H' np s3 hp' => ?_)
      · obtain ⟨d', hd', hx'⟩ := hall.get hx
        walk_at "go"
        refine ⟨r, x, d', 2, rfl, hx'.same (s2.trans s3), hl.2 ds hi d' (List.mem_of_getElem? hd'), fun H4 s4 => ?_⟩
        have := k H4 s4
        rw [List.getD_eq_getElem?_getD, hd'] at this
        exact this
      · have e2 : given xs.length (fun _ => true) (fun i => V.bl (int2D (ds.getD i .none))) = (ds.map int2D).map V.bl := by
          refine given_all (by simp [hlen]) fun i x hi => ?_
          simp only [List.getElem?_map, Option.map_map] at hi
          obtain ⟨d', h1, h2⟩ := Option.map_eq_some_iff.mp hi
          rw [List.getD_eq_getElem?_getD, h1]
          exact h2
        rw [e2] at hp'
        walk_at "go"
        refine ⟨p', ds.map int2D, rfl, .inl (.inl hp'), ?_⟩
        walk_at "go"
        rw [List.all_map, show (id ∘ int2D) = int2D from rfl]
        cases hb : ds.all int2D with
        | false =>
          refine iteT ?_
          walk_at "go"
          have := q _ (s1.trans s3)
          rw [hb, Bool.false_and] at this
          exact this
        | true =>
          refine iteF ?_
          simp only [hb, Bool.true_and] at q
          have hall2 : ∀ i x, xs[i]? = some x → ∃ d' : PyData, ds[i]? = some d' ∧ PrA r H1 x (pairD d') := fun i x hx => by
            obtain ⟨d', hd', hx'⟩ := hall.get hx
            obtain ⟨u, y, e⟩ := two_ints (List.all_eq_true.mp hb d' (List.mem_of_getElem? hd'))
            exact ⟨d', hd', by rw [pairD_of e]; exact hx'.prA e⟩
          have ea3 : SqA K H' a xs := (seqA ea).stay fun o e => s3 _ _ e
          walk_at "go"
          refine ⟨a, xs, rfl, ea3, fun J G W hG => ?_⟩
          refine scIn_T W (ds.map plD) (by simp [hlen]) (by omega) (fun H4 s => hG H4 fun o e => s _ _ e) (fun i x H4 H5 k hk s4 y QE Z qe => ?_) (fun ps H4 L nps s4 eps hL hLl => ?_)
          · obtain ⟨rfl, hx⟩ := y
            obtain ⟨d', hd', hpr⟩ := hall2 i x hx
            rw [List.getElem?_map, hd'] at hk
            cases hk
            refine (hpr.same (s3.trans s4)).any ?_
            walk_at "go"
            rw [if_pos rfl]
            walk_at "go"
            refine ⟨small64 (by simp), fun pn hpn => ?_⟩
            generalize hU : upd _ pn _ = H6
            obtain ⟨s6, e6⟩ := upd_facts hU hpn
            clear hU
            exact qe _ _ s6 e6
          · walk_at "go"
            refine ⟨ps, L, rfl, eps, hL, ?_⟩
            walk_at "go"
            refine ⟨a, xs, rfl, ea3.stay fun o e => s4 _ _ e, ?_⟩
            walk_at "go"
            have := q _ (s1.trans (s3.trans s4))
            rw [show decide (V.int (L.length : Int) = V.int (xs.length : Int)) = decide ((ds.map plD).Nodup) from decide_eq_decide.mpr ?_]
            · exact this
            · have e1 := dcT_nodup (ds.map plD).reverse
              rw [List.length_reverse, List.length_map, (List.reverse_perm _).nodup_iff] at e1
              rw [← e1, V.int.injEq, hLl]
              omega
theorem ok_need_wish {f : Addr} {fd : FuncData} (F : Fun K "need_wish" "need_wish" s_need_wish f fd) (T : TxtC mg) (C_need_lefts : Cal P w K mg base CX0 4 "need_lefts" spNeedLefts) (C__are_unlike_pairs : Cal P w K mg base CX0 3 "_are_unlike_pairs" spUnlike) (C_need_integer : Cal P w K mg base CX0 3 "need_integer" spNeed)
    (C__need_field : Cal P w K mg base CX0 4 "_need_field" spNeedField) (C_is_within : Cal P w K mg base CX0 2 "is_within" spWithin) : FnG P w K mg base CX0 5 f fd ["lefts", "wish", "colour", "low", "high", "ticks"] spNeedWish := by
  refine okG0 F sc_need_wish (fun vs H Q E h => ?_) (fun cdv A outer s H vs Q E hG hr h => ?_)
  · obtain ⟨r, x, v, ks, ws, col, lo, hi, t, rfl, _⟩ := h
    rfl
  · obtain ⟨r, x, v, ks, ws, col, lo, hi, t, rfl, hx, hv, ⟨c0, c1, l0, l1, l2, l3, ht, nd, l62, hw⟩, q⟩ := h
    refine ⟨_, (pss_cons (ps_expr (pe_f C_need_lefts hG (hr.mono (by decide)) (by rfl) pass0 (pa_cons (pv 0) pa_nil)))
      (pss_cons (ps_if (pt_not (pt_val (pe_f C__are_unlike_pairs hG (hr.mono (by decide)) (by rfl) pass0 (pa_cons (pv 1) pa_nil)))) (pss_one ps_never) pss_nil)
      (pss_cons (ps_expr (pe_f C_need_integer hG (hr.mono (by decide)) (by rfl) pass0 (pa_cons (pv 2) (pa_cons pe_str (pa_cons pe_int (pa_cons pe_int pa_nil))))))
      (pss_cons (ps_expr (pe_f C__need_field hG (hr.mono (by decide)) (by rfl) pass0 (pa_cons (pv 3) (pa_cons (pv 4) (pa_cons (pv 5) pa_nil)))))
      (pss_cons (ps_for PassesOwn.never rfl (pi_any (pv 1)) (pg_any (by rfl) (pgs_cons (pg_name (i := 6) sc_need_wish.nd rfl (.inl rfl)) (pgs_cons (pg_name (i := 7) sc_need_wish.nd rfl (.inl rfl)) pgs_nil))) (pss_one (ps_if (PW.pt (pw_or (pt_not (pt_val (pe_f C_is_within hG (hr.mono (by decide)) (by rfl) pass0 (pa_cons (pv 6) (pa_cons (pv 3) (pa_cons (pv 4) pa_nil)))))) (pw_or1 (pt_not (pt_val (pe_f C_is_within hG (hr.mono (by decide)) (by rfl) pass0 (pa_cons (pv 7) (pa_cons pe_int (pa_cons (pe_op op_sub (pv 5) pe_int) pa_nil))))))))) (pss_one ps_never) pss_nil)))
      (pss_one (ps_if (pt_val (pe_callB (id := "any") (cr_any rfl) (by rfl) T.m_any (by decide +kernel) (pa_cons (pe_lc (own := [("spot", 6), ("tick", 7)]) (g := (gAny K 2 (gCons (gName 6) (gCons (gName 7) gNil)))) (tt := tYes) rfl sc_need_wish.nd (pi_any (pv 1)) (blkOk_by (own := [("spot", 6), ("tick", 7)]) (N := ["lefts", "wish", "colour", "low", "high", "ticks", "spot", "tick"]) (sc := defScope s_need_wish) (by decide +kernel)) (fun _ _ _ _ _ => (pg_any (by rfl) (pgs_cons (pg_name (i := 6) sc_need_wish.nd rfl (.inl rfl)) (pgs_cons (pg_name (i := 7) sc_need_wish.nd rfl (.inl rfl)) pgs_nil)))) (fun _ _ _ _ _ => pts_nil) (fun _ _ _ _ _ => (pe_cmpR op_ne (pe_op op_mod (pe_op op_add (pv 6) (pv 7)) pe_int) (pv 2) (nomark _)))) pa_nil))) (pss_one ps_never) pss_nil))))))), ?_⟩
    try dsimp only [cxOf, Cx.nox, Cx.wish]
    generalize hσ0 : L2.start _ _ = σ0
    obtain rfl : σ0 = ([some (x), some (v), some (.int col), some (.int lo), some (.int hi), some (.int (t : Int)), none, none] : L2.St) := by rw [← hσ0]; rfl
    clear hσ0
    obtain ⟨d, hd, hl, hl2, hu⟩ := hv.drW nd l62
    walk_at "gl"
    refine ⟨r, x, ks, rfl, hx, fun H1 s1 => ?_⟩
    walk_at "gl"
    refine ⟨r, v, d, rfl, hd.same s1, hl, hl2, fun H2 s2 => ?_⟩
    rw [hu]
    walk_at "gl"
    rw [if_neg (show ¬ (!true) = true by decide)]
    walk_at "gl"
    refine ⟨0, .int col, _, .int col, some 0, some 1, rfl, .int _, by simp [withinD, lowD, highD]; omega, fun H3 s3 => ?_⟩
    walk_at "gl"
    refine ⟨lo, hi, t, rfl, l0, l1, l2, l3, ht, fun H4 s4 => ?_⟩
    have s14 := s1.trans (s2.trans (s3.trans s4))
    walk_at "gl"
    obtain ⟨a, xs, rfl, na, ea, hp⟩ := (hv.same s14).ex
    have hlen := pairs_len hp
    refine ⟨a, xs, rfl, seqA ea, fun J G Wk hG => ?_⟩
    refine forIn_it Wk (fun m σ' Hc => Same H4 Hc ∧ ∃ x6 x7, σ' = [some x, some (.ref a), some (.int col), some (.int lo), some (.int hi), some (.int (t : Int)), x6, x7])
      ⟨Same.refl _, _, _, rfl⟩ (fun m σ' Hc _ z => hG Hc fun o e => z.1 _ _ e) (fun m y σ' Hc Hc' hm z w' => ?_) (fun σ' Hc z => ?_)
    · obtain ⟨sc, x6, x7, rfl⟩ := z
      obtain ⟨rfl, hy⟩ := w'
      obtain ⟨p, hp1, fp⟩ := Nd.paired_get hp hy
      obtain ⟨⟨b1, b2⟩, ⟨b3, b4⟩, b5⟩ := hw p (List.mem_of_getElem? hp1)
      refine (fp.same sc).any ?_
      walk_at "gl"
      refine Nd.k_tOr (Nd.k_tNot ?_)
      walk_at "gl"
      refine ⟨r, .int p.1, .int p.1, some lo, some hi, rfl, .int _, fun H5 s5 => ?_⟩
      rw [show withinD (.int p.1) (some lo) (some hi) = true by simp [withinD, lowD, highD]; omega]
      walk_at "gl"
      rw [if_neg (show ¬ (!true) = true by decide)]
      refine Nd.k_tNot ?_
      walk_at "gl"
      refine ⟨r, .int p.2, .int p.2, some 0, some ((t : Int) - 1), rfl, .int _, fun H6 s6 => ?_⟩
      rw [show withinD (.int p.2) (some 0) (some ((t : Int) - 1)) = true by simp [withinD, lowD, highD]; omega]
      walk_at "gl"
      rw [if_neg (show ¬ (!true) = true by decide)]
      walk_at "gl"
      exact ⟨sc.trans (s5.trans s6), _, _, rfl⟩
    · obtain ⟨sc, x6, x7, rfl⟩ := z
      walk_at "gl"
      obtain ⟨a, xs, e0, na, ea, hp⟩ := (hv.same (s14.trans sc)).ex
      cases e0
      refine ⟨a, xs, rfl, seqA ea, fun J G Wk hG => ?_⟩
      refine lcIn_prA Wk (fun _ => .bl false) (fun H' s => hG H' fun o e => s _ _ e) hp (by rw [pairs_len hp]; omega) (fun x y => rfl) (fun m p H5 hm s5 QE k => ?_) (fun pl H5 npl s5 epl => ?_)
      · obtain ⟨_, _, b5⟩ := hw p (List.mem_of_getElem? hm)
        walk_at "gl"
        refine k_I (by decide) ?_
        walk_at "gl"
        rw [b5, decide_eq_true rfl]
        exact k _ (Same.refl _)
      · walk_at "gl"
        refine ⟨pl, ws.map fun _ => false, rfl, .inl (.inl (by rw [epl, List.map_map]; rfl)), ?_⟩
        walk_at "gl"
        rw [show (ws.map fun _ => false).any id = false by simp]
        refine ite2 (fun z => nomatch z) (fun _ => ?_)
        walk_at "gl"
        exact q _ (s14.trans (sc.trans s5))
theorem ok_start_for {f : Addr} {fd : FuncData} (F : Fun K "start_for" "start_for" s_start_for f fd) (T : TxtC mg) (C_need_wish : Cal P w K mg base CX0 5 "need_wish" spNeedWish) (C_granting_heaps : Cal P w K mg base CX0 2 "granting_heaps" spGrant) : FnG P w K mg base CX0 6 f fd ["lefts", "wish", "colour", "low", "high", "ticks"] spStartFor := by
  refine okG0 F sc_start_for (fun vs H Q E h => ?_) (fun cdv A outer s H vs Q E hG hr h => ?_)
  · obtain ⟨r, x, v, ks, ws, col, lo, hi, t, rfl, _⟩ := h
    rfl
  · obtain ⟨r, x, v, ks, ws, col, lo, hi, t, rfl, hx, hv, wok, q⟩ := h
    refine ⟨_, (pss_cons (ps_expr (pe_f C_need_wish hG (hr.mono (by decide)) (by rfl) pass0 (pa_cons (pv 0) (pa_cons (pv 1) (pa_cons (pv 2) (pa_cons (pv 3) (pa_cons (pv 4) (pa_cons (pv 5) pa_nil))))))))
      (pss_cons (ps_setDcT (i := 6) (own := [("spot", 7), ("tick", 8)]) (g := (gAny K 2 (gCons (gName 7) (gCons (gName 8) gNil)))) (tt := tYes) hr.units rfl sc_start_for.nd rfl rfl (sw_trueD rfl rfl rfl (by decide +kernel)) (pi_any (pv 1)) (blkOk_by (own := [("spot", 7), ("tick", 8)]) (N := ["lefts", "wish", "colour", "low", "high", "ticks", "wished", "spot", "tick"]) (sc := defScope s_start_for) (by decide +kernel)) (fun _ _ _ _ _ => (pg_any (by rfl) (pgs_cons (pg_name (i := 7) sc_start_for.nd rfl (.inl rfl)) (pgs_cons (pg_name (i := 8) sc_start_for.nd rfl (.inl rfl)) pgs_nil)))) (fun _ _ _ _ _ => pts_nil) (fun _ _ _ _ _ => (pe_tup (pa_cons (pv 7) (pa_cons (pv 8) pa_nil)))) (fun _ _ _ _ _ => pe_bl))
      (pss_one (ps_ret (pe_f C_granting_heaps hG (hr.mono (by decide)) (by rfl) pass0 (pa_cons (pv 0) (pa_cons (pv 6) (pa_cons (pv 2) (pa_cons (pe_op op_rep (pe_lst (pa_cons (pe_tup (pa_cons (pv 3) (pa_cons (pv 4) pa_nil))) pa_nil)) (pv 5)) pa_nil))))))))), ?_⟩
    try dsimp only [cxOf, Cx.nox, Cx.wish]
    generalize hσ0 : L2.start _ _ = σ0
    obtain rfl : σ0 = ([some (x), some (v), some (.int col), some (.int lo), some (.int hi), some (.int (t : Int)), none, none, none] : L2.St) := by rw [← hσ0]; rfl
    clear hσ0
    walk_at "gl"
    refine ⟨r, x, v, ks, ws, col, lo, hi, t, rfl, hx, hv, wok, fun H1 s1 => ?_⟩
    obtain ⟨c0, c1, l0, l1, l2, l3, ht, nd, l62, hw⟩ := wok
    walk_at "gl"
    refine Nd.k_dcT ?_
    walk_at "gl"
    obtain ⟨a, xs, rfl, na, ea, hp⟩ := (hv.same s1).ex
    have hlen := pairs_len hp
    refine ⟨a, xs, rfl, seqA ea, fun J G Wk hG => ?_⟩
    refine Nd.dtIn_prs Wk (fun H' s => hG H' fun o e => s _ _ e) hp nd (by omega) (fun _ _ => rfl) (fun _ _ => rfl) (fun _ _ => rfl) fun dW H2 nd2 s2 e2 => ?_
    walk_at "gl"
    refine ⟨small64 (by simp), fun pt hpt => ?_⟩
    generalize hU : upd _ pt _ = H3
    obtain ⟨s3, e3⟩ := upd_facts hU hpt
    clear hU
    walk_at "gl"
    refine ⟨small64 (by simp), fun pl hpl => ?_⟩
    generalize hU : upd _ pl _ = H4
    obtain ⟨s4, e4⟩ := upd_facts hU hpl
    clear hU
    walk_at "gl"
    refine k_rep e4 (by omega) (by simp) fun p5 np5 => ?_
    generalize hU : upd H4 p5 _ = H5
    obtain ⟨s5, e5⟩ := upd_facts hU np5
    clear hU
    walk_at "gl"
    have s25 := s2.trans (s3.trans (s4.trans s5))
    have hfl : ∀ n : Nat, (List.replicate n [V.ref pt]).flatten = (List.replicate n pt).map V.ref := fun n => by
      rw [List.map_replicate]
      induction n with
      | zero => rfl
      | succ n ih => rw [List.replicate_succ, List.flatten_cons, List.replicate_succ, ih]; rfl
    refine ⟨r, x, dW, p5, ks, ws, col, fun _ => lo, fun _ => hi, t, rfl, hx.same (s1.trans s25), (s3.trans (s4.trans s5)) _ _ e2, c0, c1, by omega, ⟨List.replicate t pt, by rw [← hfl t]; exact e5, List.length_replicate, fun n b hb => ?_⟩, fun n hn => (by show -1000100 ≤ lo ∧ lo ≤ 1000100 ∧ -1000200 ≤ hi ∧ hi ≤ 1000100; omega), fun H' al ts ss s6 nal tal hts gr => ?_⟩
    · rw [List.getElem?_replicate] at hb
      split at hb
      · cases hb
        exact (s4.trans s5) _ _ e3
      · cases hb
    · walk_at "gl"
      have s15 := s1.trans s25
      exact q H' al ts ss (s15.trans s6) (s15.free nal) tal (pairs_mono (fun _ _ h => ⟨s15.free h.1, h.2⟩) hts) gr
end
end K45

namespace K45
open PySem PySem.Spec PyProof.Rows L2 Nd
abbrev s__law_are_heaps : Stmt := top 34
theorem sc__law_are_heaps : FnScope ["value", "colour", "pair"] ["value", "colour"] (defScope s__law_are_heaps) := ⟨rfl, rfl, rfl, by decide +kernel, rfl, by decide +kernel, by decide +kernel⟩
section
variable {P : Program} {w : World} {K : PySem.W.Frag} {mg : Str → Option Value} {base : Heap}
theorem ok_are_heapsL {f : Addr} {fd : FuncData} (F : Fun K "_law_are_heaps" "_law_are_heaps" s__law_are_heaps f fd) (T : TxtC mg) : FnG P w K mg base CX0 1 f fd ["value", "colour"] spAreHeapsL := by
  refine okG0 F sc__law_are_heaps (fun vs H Q E h => ?_) (fun cdv A outer s H vs Q E hG hr h => ?_)
  · obtain ⟨a, ts, ss, col, rfl, _⟩ := h
    rfl
  · obtain ⟨a, ts, ss, col, rfl, tq, hp, srt, few, hb, q⟩ := h
    refine ⟨_, (pss_cons (ps_if (PW.pt (pw_or (pt_not (pt_val (pe_callB (id := "isinstance") call_isi (by rfl) T.m_isinstance (by decide +kernel) (pa_cons (pv 0) (pa_cons (pe_bltn (v := .ty "tuple") (u := .type "tuple") (by rfl) T.m_tuple (by decide +kernel) rfl) pa_nil))))) (pw_or (pt_cmpR (op_neD hr.units) (pe_callTy (call_listA rfl) (by rfl) T.m_list (by decide +kernel) (pa_cons (pv 0) pa_nil)) (pe_callB (id := "sorted") cr_sortedTP (by rfl) T.m_sorted (by decide +kernel) (pa_cons (pv 0) pa_nil)) (nomark _)) (pw_or1 (pt_cmpR op_gt (pe_callB (id := "len") call_len_seq (by rfl) T.m_len PySem.boot_len (pa_cons (pv 0) pa_nil)) pe_int (nomark _)))))) (pss_one (ps_ret pe_bl)) pss_nil)
      (pss_cons (ps_for PassesOwn.never rfl (pi_tup (pv 0)) (pg_name (i := 2) sc__law_are_heaps.nd rfl (.inl rfl)) (pss_cons (ps_if (PW.pt (pw_or (pt_not (pt_val (pe_callB (id := "isinstance") call_isi (by rfl) T.m_isinstance (by decide +kernel) (pa_cons (pv 2) (pa_cons (pe_bltn (v := .ty "tuple") (u := .type "tuple") (by rfl) T.m_tuple (by decide +kernel) rfl) pa_nil))))) (pw_or (pt_cmpR op_ne (pe_callB (id := "len") call_len_seq (by rfl) T.m_len PySem.boot_len (pa_cons (pv 2) pa_nil)) pe_int (nomark _)) (pw_or (pt_val (pe_callB (id := "isinstance") call_isi (by rfl) T.m_isinstance (by decide +kernel) (pa_cons (pe_ix ix_tup (pv 2) pe_int (fun _ _ => rfl)) (pa_cons (pe_bltn (v := .ty "bool") (u := .type "bool") (by rfl) T.m_bool (by decide +kernel) rfl) pa_nil)))) (pw_or1 (pt_val (pe_callB (id := "isinstance") call_isi (by rfl) T.m_isinstance (by decide +kernel) (pa_cons (pe_ix ix_tup (pv 2) pe_int (fun _ _ => rfl)) (pa_cons (pe_bltn (v := .ty "bool") (u := .type "bool") (by rfl) T.m_bool (by decide +kernel) rfl) pa_nil))))))))) (pss_one (ps_ret pe_bl)) pss_nil)
      (pss_one (ps_if (PW.pt (pw_or (pt_not (pt_chain op_le op_le (pe_un un_neg pe_int) (pe_ix ix_tup (pv 2) pe_int (fun _ _ => rfl)) pe_int)) (pw_or (pt_not (pt_chain op_le op_le pe_int (pe_ix ix_tup (pv 2) pe_int (fun _ _ => rfl)) (pe_op op_pow pe_int pe_int))) (pw_or1 (pt_cmpR op_ne (pe_op op_mod (pe_callTy call_int1 (by rfl) T.m_int (by decide +kernel) (pa_cons (pe_ix ix_tup (pv 2) pe_int (fun _ _ => rfl)) pa_nil)) pe_int) (pv 1) (nomark _)))))) (pss_one (ps_ret pe_bl)) pss_nil))))
      (pss_one (ps_ret (pe_cmpR op_eq (pe_callB (id := "len") call_lenD (by rfl) T.m_len PySem.boot_len (pa_cons (pe_callTy (call_dictT rfl) (by rfl) T.m_dict (by decide +kernel) (pa_cons (pv 0) pa_nil)) pa_nil)) (pe_callB (id := "len") call_len_seq (by rfl) T.m_len PySem.boot_len (pa_cons (pv 0) pa_nil)) (nomark _)))))), ?_⟩
    try dsimp only [cxOf, Cx.nox, Cx.wish]
    generalize hσ0 : L2.start _ _ = σ0
    obtain rfl : σ0 = ([some (.ref a), some (.int col), none] : L2.St) := by rw [← hσ0]; rfl
    clear hσ0
    walk_at "gl"
    obtain ⟨r0, n0, nt⟩ : ∃ r0 : Addr, a ≠ r0 ∧ ∀ t ∈ ts, t ≠ r0 := off_addr a ts
    have tq2 : TupQ H a (ts.map V.ref) := .inr tq
    have hda : DrAll r0 H (ts.map V.ref) (ss.map pD) := by
      clear srt few hb tq tq2
      induction hp with
      | nil => exact .nil
      | cons h _ ih => exact .cons (.tup (nt _ List.mem_cons_self) (.inl h) (.cons (.int _) (.cons (.int _) .nil))) (ih fun t ht => nt t (List.mem_cons_of_mem _ ht))
    have hD : Dr r0 H (.ref a) (.tuple (ss.map pD)) := .tup n0 tq2 hda
    have hlt := pairs_len hp
    refine Nd.k_tOr (Nd.k_tNot ?_)
    walk_at "gl"
    refine k_isi hD (by decide) ?_
    walk_at "gl"
    rw [show isD "tuple" (.tuple (ss.map pD)) = true from rfl]
    rw [if_neg (show ¬ (!true) = true by decide)]
    refine Nd.k_tOr ?_
    walk_at "gl"
    refine ⟨a, _, rfl, .inr tq2.sq, fun pl npl => ?_⟩
    generalize hU : upd H pl _ = H1
    obtain ⟨s1, e1⟩ := upd_facts hU npl
    clear hU
    walk_at "gl"
    refine k_sortedTP (tq.to fun u e => s1 _ _ e).sq (pairs_mono (fun t p h => s1 _ _ h) hp) srt fun p2 np2 => ?_
    generalize hU : upd H1 p2 _ = H2
    obtain ⟨s2, e2⟩ := upd_facts hU np2
    clear hU
    have s12 := s1.trans s2
    have dps : DpAll K H2 (ts.map V.ref) (ss.map pD) := DrAll.dp (hda.same s12) (by
      clear hp srt few hb hda hD hlt
      induction ss with
      | nil => rfl
      | cons p l ih => simp [PyData.hasDictAll, PyData.hasDict, pD, ih])
    refine k_neD (.lst (.inl (.inl (s2 _ _ e1))) dps) (.lst (.inl (.inl e2)) dps) (sh_pDs ss) (sh_pDs ss) ?_
    rw [eqv_pDl]
    walk_at "gl"
    rw [if_neg (show ¬ (!true) = true by decide)]
    walk_at "gl"
    refine ⟨a, _, rfl, .inr (tq.to fun u e => s12 _ _ e).sq, ?_⟩
    walk_at "gl"
    rw [decide_eq_false (show ¬ (60 : Int) < ((ts.map V.ref).length : Int) by rw [List.length_map]; omega)]
    rw [if_neg (by decide)]
    walk_at "gl"
    refine ⟨⟨_, (tq.to fun u e => s12 _ _ e).sq⟩, ?_⟩
    refine forIn_it (walk_tup (xs := ts.map V.ref)) (fun m σ' Hc => Same H2 Hc ∧ ∃ x2, σ' = [some (.ref a), some (.int col), x2])
      ⟨Same.refl _, _, rfl⟩ (fun m σ' Hc _ z => (tq.to fun u e => (s12.trans z.1) _ _ e).sq) (fun m y σ' Hc Hc' hm z w' => ?_) (fun σ' Hc z => ?_)
    · obtain ⟨sc, x2, rfl⟩ := z
      obtain ⟨rfl, hy⟩ := w'
      rw [List.getElem?_map] at hy
      obtain ⟨t, ht, rfl⟩ := Option.map_eq_some_iff.mp hy
      obtain ⟨p, hp1, et⟩ := Nd.paired_get hp ht
      have et2 := sc _ _ (s12 _ _ et)
      have ob := hb p (List.mem_of_getElem? hp1)
      have ok := okHeap_of ob.1
      walk_at "gl"
      have hDt : Dr r0 Hc' (.ref t) (pD p) := .tup (nt t (List.mem_of_getElem? ht)) (.inl et2) (.cons (.int _) (.cons (.int _) .nil))
      refine Nd.k_tOr (Nd.k_tNot ?_)
      walk_at "gl"
      refine k_isi hDt (by decide) ?_
      walk_at "gl"
      rw [show isD "tuple" (pD p) = true from rfl, if_neg (show ¬ (!true) = true by decide)]
      refine Nd.k_tOr ?_
      walk_at "gl"
      refine ⟨t, _, rfl, .inr (.inl (.inl et2)), ?_⟩
      walk_at "gl"
      rw [decide_eq_true (show V.int (([V.int p.1, V.int p.2] : List V).length : Int) = V.int 2 from rfl), if_neg (show ¬ (!true) = true by decide)]
      refine Nd.k_tOr ?_
      walk_at "gl"
      refine k_ixT (.inl (.inl et2)) rfl ?_
      walk_at "gl"
      refine k_isi (r := r0) (.int p.1) (by decide) ?_
      walk_at "gl"
      rw [show isD "bool" (.int p.1) = false from rfl, if_neg (by decide)]
      walk_at "gl"
      refine k_ixT (.inl (.inl et2)) rfl ?_
      walk_at "gl"
      refine k_isi (r := r0) (.int p.2) (by decide) ?_
      walk_at "gl"
      rw [show isD "bool" (.int p.2) = false from rfl, if_neg (by decide)]
      walk_at "gl"
      refine Nd.k_tOr (Nd.k_tNot ?_)
      walk_at "gl"
      refine Nd.k_chain ?_
      walk_at "gl"
      refine k_ixT (.inl (.inl et2)) rfl ?_
      walk_at "gl"
      rw [decide_eq_true (show -1000000 ≤ p.1 from ok.1), if_pos rfl]
      walk_at "gl"
      rw [decide_eq_true (show p.1 ≤ 1000000 from ok.2.1), if_neg (show ¬ (!true) = true by decide)]
      refine Nd.k_tOr (Nd.k_tNot ?_)
      walk_at "gl"
      refine Nd.k_chain ?_
      walk_at "gl"
      refine k_ixT (.inl (.inl et2)) rfl ?_
      walk_at "gl"
      rw [decide_eq_true (show 1 ≤ p.2 from ok.2.2.1), if_pos rfl]
      walk_at "gl"
      refine k_I ⟨by decide, by decide, by decide⟩ ?_
      walk_at "gl"
      rw [decide_eq_true (show p.2 ≤ 10 ^ (60 : Int).toNat from ok.2.2.2), if_neg (show ¬ (!true) = true by decide)]
      walk_at "gl"
      refine k_ixT (.inl (.inl et2)) rfl ?_
      walk_at "gl"
      refine k_I (by decide) ?_
      walk_at "gl"
      rw [ob.2, decide_eq_true (show V.int col = V.int col from rfl), if_neg (show ¬ (!true) = true by decide)]
      walk_at "gl"
      exact ⟨sc, _, rfl⟩
    · obtain ⟨sc, x2, rfl⟩ := z
      walk_at "gl"
      have tqc := tq.to fun u e => (s12.trans sc) _ _ e
      have hpc := pairs_mono (fun t p h => (s12.trans sc) _ _ h) hp
      have snd : (ss.map (·.1)).Nodup := List.pairwise_map.mpr (srt.imp fun h => by omega)
      refine ⟨a, ts, ss.map entI, rfl, tqc, pairs_mapR (fun t p h => .inl (.inl h)) hpc, fun pd npd => ?_⟩
      rw [mergeK_nd _ _ (ents_nd snd), List.nil_append]
      generalize hU : upd Hc pd _ = H4
      obtain ⟨s4, e4⟩ := upd_facts hU npd
      clear hU
      walk_at "gl"
      refine ⟨pd, _, rfl, e4, ?_⟩
      walk_at "gl"
      refine ⟨a, _, rfl, .inr (tqc.to fun u e => s4 _ _ e).sq, ?_⟩
      walk_at "gl"
      rw [decide_eq_true (show V.int ((ss.map entI).length : Int) = V.int ((ts.map V.ref).length : Int) by rw [List.length_map, List.length_map, hlt])]
      exact q _ (s12.trans (sc.trans s4))
end
end K45

namespace K45
open PySem PySem.Spec PyProof.Rows L2 Nd
abbrev s__law_is_granted : Stmt := top 33
theorem sc__law_is_granted : FnScope ["heaps", "lefts", "wish", "low", "high", "ticks", "found", "tick", "here", "odds", "spot", "way", "pair"] ["heaps", "lefts", "wish", "low", "high", "ticks"] (defScope s__law_is_granted) := ⟨rfl, rfl, rfl, by decide +kernel, rfl, by decide +kernel, by decide +kernel⟩
section
variable {P : Program} {w : World} {K : PySem.W.Frag} {mg : Str → Option Value} {base : Heap}
theorem ok_granted {f : Addr} {fd : FuncData} (F : Fun K "_law_is_granted" "_law_is_granted" s__law_is_granted f fd) (T : TxtC mg) (C__law_played : Cal P w K mg base CX0 1 "_law_played" spPlayed) : FnG P w K mg base CX0 2 f fd ["heaps", "lefts", "wish", "low", "high", "ticks"] spGrantedL := by
  refine okG0 F sc__law_is_granted (fun vs H Q E h => ?_) (fun cdv A outer s H vs Q E hG hr h => ?_)
  · obtain ⟨r, v, x, aw, tw, hs, ks, ws, lo, hi, t, rfl, _⟩ := h
    rfl
  · obtain ⟨r, v, x, aw, tw, hs, ks, ws, lo, hi, t, rfl, hv, ok, hx, t60, eaw, hpw, hgr, q⟩ := h
    refine ⟨_, (pss_cons (ps_set (i := 6) sc__law_is_granted.nd rfl (.inl rfl) (pe_lst pa_nil))
      (pss_cons (ps_for PassesOwn.never rfl (pi_enum (by rfl) T.m_enumerate (pa_cons (pe_slice sl_list (pe_f C__law_played hG (hr.mono (by decide)) (by rfl) pass0 (pa_cons (pv 0) (pa_cons (pv 1) (pa_cons (pv 5) pa_nil)))) po_none (po_some (pe_un un_neg pe_int))) pa_nil)) (pg_tup (by rfl) (pgs_cons (pg_name (i := 7) sc__law_is_granted.nd rfl (.inr rfl)) (pgs_cons (pg_tup (by rfl) (pgs_cons (pg_name (i := 8) sc__law_is_granted.nd rfl (.inl rfl)) (pgs_cons (pg_name (i := 9) sc__law_is_granted.nd rfl (.inl rfl)) pgs_nil))) pgs_nil))) (pss_one (ps_set (i := 6) sc__law_is_granted.nd rfl (.inl rfl) (pe_op op_cat (pv 6) (pe_lc (own := [("spot", 10), ("way", 11)]) (g := (gAny K 2 (gCons (gName 10) (gCons (gName 11) gNil)))) rfl sc__law_is_granted.nd (pi_any (pv 9)) (blkOk_by (own := [("spot", 10), ("way", 11)]) (N := ["heaps", "lefts", "wish", "low", "high", "ticks", "found", "tick", "here", "odds", "spot", "way", "pair"]) (sc := defScope s__law_is_granted) (by decide +kernel)) (fun _ _ _ _ _ => (pg_any (by rfl) (pgs_cons (pg_name (i := 10) sc__law_is_granted.nd rfl (.inl rfl)) (pgs_cons (pg_name (i := 11) sc__law_is_granted.nd rfl (.inl rfl)) pgs_nil)))) (fun _ _ _ _ _ => pts_one (pt_chain op_le op_le (pv 3) (pv 10) (pv 4))) (fun _ _ _ _ _ => (pe_tup (pa_cons (pv 10) (pa_cons (pv 7) pa_nil)))))))))
      (pss_one (ps_ret (pe_cmpR (op_eqD hr.units) (pe_callB (id := "sorted") cr_sortedPO (by rfl) T.m_sorted (by decide +kernel) (pa_cons (pv 6) pa_nil)) (pe_callB (id := "sorted") cr_sortedPO (by rfl) T.m_sorted (by decide +kernel) (pa_cons (pe_lc (own := [("pair", 12)]) (g := gName 12) (tt := tYes) rfl sc__law_is_granted.nd (pi_list (pv 2)) (blkOk_by (own := [("pair", 12)]) (N := ["heaps", "lefts", "wish", "low", "high", "ticks", "found", "tick", "here", "odds", "spot", "way", "pair"]) (sc := defScope s__law_is_granted) (by decide +kernel)) (fun _ _ _ _ _ => pg_name (i := 12) sc__law_is_granted.nd rfl (Or.inl rfl)) (fun _ _ _ _ _ => pts_nil) (fun _ _ _ _ _ => (pe_callTy (show CallR _ (.type "tuple") (rTupA K) from call_tuple_of) (by rfl) T.m_tuple (by decide +kernel) (pa_cons (pv 12) pa_nil)))) pa_nil)) (nomark _)))))), ?_⟩
    try dsimp only [cxOf, Cx.nox, Cx.wish]
    generalize hσ0 : L2.start _ _ = σ0
    obtain rfl : σ0 = ([some (v), some (x), some (.ref aw), some (.int lo), some (.int hi), some (.int (t : Int)), none, none, none, none, none, none, none] : L2.St) := by rw [← hσ0]; rfl
    clear hσ0
    walk_at "gl"
    refine ⟨small64 (by simp), fun pf0 hpf0 => ?_⟩
    generalize hU : upd _ pf0 _ = H1
    obtain ⟨s1, e1⟩ := upd_facts hU hpf0
    clear hU
    walk_at "gl"
    obtain ⟨hs0, q0, as0⟩ := asc_ex ok
    obtain ⟨Fr, hFr⟩ : ∃ Fr : Nat → List (Int × Int), Fr = fun n => oddsL (its n (hs0, ks)).1 (its n (hs0, ks)).2 := ⟨_, rfl⟩
    have few := ok.few
    have lF : ∀ n, n < t → (Fr n).length ≤ 660 := fun n hn => by
      have l1 := its_len (L := ks) as0 n
      have l2 : hs0.length = hs.length := q0.length_eq
      have l3 : hs0.length * (n + 1) ≤ 60 * 11 := Nat.mul_le_mul (by omega) (by omega)
      rw [hFr]
      exact Nat.le_trans oddsL_len (Nat.le_trans l1 l3)
    refine ⟨r, v, x, hs, ks, t, rfl, hv.same s1, ok, hx.same s1, by omega, fun Ha pa bs za sa npa ea hbs _ => ?_⟩
    walk_at "gl"
    refine k_slL (.inl (.inl ea)) fun pb hpb => ?_
    rw [show cutV ((bs ++ [za]).map V.ref) none (some (-1)) = bs.map V.ref by rw [List.map_append]; exact cut_last _ _]
    generalize hU : upd Ha pb _ = Hb
    obtain ⟨sb, eb⟩ := upd_facts hU hpb
    clear hU
    have hrow := play_rows hbs sb q0 as0 (F := Fr) fun n => by rw [hFr]
    have sab := sa.trans sb
    have eDb : Hb pf0 = some (.lst []) := sab _ _ e1
    walk_at "gl"
    refine ⟨pb, _, rfl, .inl (.inl eb), ?_⟩
    refine forIn_it walk_enum (fun m σ' Hc => Same Hb Hc ∧ (∃ pf ts, Hc pf = some (.lst (ts.map V.ref)) ∧ Paired (PrI H1 Hc) ts (foundL Fr lo hi m) ∧ ∃ x7 x8 x9 x10 x11 x12, σ' = [some v, some x, some (.ref aw), some (.int lo), some (.int hi), some (.int (t : Int)), some (.ref pf), x7, x8, x9, x10, x11, x12]))
      ⟨Same.refl _, pf0, [], eDb, .nil, _, _, _, _, _, _, rfl⟩ (fun m σ' Hc _ z => .inl (.inl (z.1 _ _ eb))) (fun m y σ' Hc Hc' hm z w => ?_) (fun σ' Hc z => ?_)
    · obtain ⟨s1', pf, ts, epf, hts, x7, x8, x9, x10, x11, x12, rfl⟩ := z
      obtain ⟨T0, a0, b0, rfl, hT0, rfl, ha, hb⟩ := w
      obtain rfl := Option.some.inj ha
      replace hb : (bs.map V.ref)[m]? = some b0 := hb
      rw [List.getElem?_map] at hb
      obtain ⟨b, hb1, rfl⟩ := Option.map_eq_some_iff.mp hb
      obtain ⟨m', hm', d, o, ts', eb1, eb2, hts'⟩ := Nd.paired_get hrow hb1
      have hbl : bs.length = t := by have := pairs_len hrow; rwa [List.length_range] at this
      rw [List.length_map, hbl] at hm
      rw [List.getElem?_range hm] at hm'
      obtain rfl := Option.some.inj hm'
      have sT : Same Hc (upd Hc T0 (.tup [.int (m : Int), .ref b])) := Same.new hT0
      have eT : (upd Hc T0 (.tup [.int (m : Int), .ref b])) T0 = some (.tup [.int (m : Int), .ref b]) := upd_same
      generalize upd Hc T0 (.tup [.int (m : Int), .ref b]) = He at sT eT
      have s1e := s1'.trans sT
      have epf2 := sT _ _ epf
      refine k_gtup (.inl (.inl eT)) rfl ?_
      walk_at "gl"
      refine k_gtup (.inl (.inl (s1e _ _ eb1))) rfl ?_
      walk_at "gl"
      refine ⟨o, _, rfl, .inl (.inl (.inl (s1e _ _ eb2))), fun J G Wk hG => ?_⟩
      obtain ⟨r1, _, nt1⟩ := off_addr o ts'
      have hl2 : ts'.length ≤ 660 := by
        rw [pairs_len hts']
        exact (lF m hm)
      refine lcIn_prFT (r := r1) Wk (fun p => decide (lo ≤ p.1 ∧ p.1 ≤ hi)) (fun p => (p.1, (m : Int))) (fun H' s => hG H' fun o e => s _ _ e) (pairs_mapL (F := fun (t : Addr) (p : Int × Int) => t ≠ r1 ∧ He t = some (.tup [.int p.1, .int p.2])) (fun t p h => ⟨t, rfl, h.1, .inl h.2⟩) (pairs_monoM (fun t p ht h => ⟨nt1 t ht, s1e _ _ h.2⟩) hts')) (by rw [List.length_map]; omega) (fun x y => rfl) (fun p H' hp s' QE Z k1 k2 => ?_) (fun pq H' ts2 npq s' eq hts2 => ?_)
      · walk_at "gl"
        refine k_chain ?_
        walk_at "gl"
        refine ite2 (fun z1 => ?_) (fun z1 => ?_)
        · walk_at "gl"
          refine ite2 (fun z2 => ?_) (fun z2 => ?_)
          · walk_at "gl"
            refine ⟨small64 (by simp), fun pn hpn => ?_⟩
            generalize hU : upd _ pn _ = H8
            obtain ⟨s8, e8⟩ := upd_facts hU hpn
            clear hU
            exact k1 (decide_eq_true ⟨of_decide_eq_true z1, of_decide_eq_true z2⟩) _ _ s8 hpn e8
          · exact k2 (decide_eq_false fun z => z2 (decide_eq_true z.2)) _ (Same.refl _)
        · walk_at "gl"
          rw [if_neg (by decide)]
          exact k2 (decide_eq_false fun z => z1 (decide_eq_true z.1)) _ (Same.refl _)
      · walk_at "gl"
        have hl1 : ts.length ≤ 10 * 660 := by
          rw [pairs_len hts]
          exact Nat.le_trans (foundL_len (B := 660) fun n hn => (lF n (by omega))) (Nat.mul_le_mul_right _ (by omega))
        have hl3 : ts2.length ≤ 660 := by
          rw [pairs_len hts2, List.length_map]
          exact Nat.le_trans (List.length_filter_le _ _) (lF m hm)
        refine k_cat (s' _ _ epf2) eq (by rw [List.length_map, List.length_map]; exact Nat.le_trans (Nat.add_le_add hl1 hl3) (by decide)) fun pc hpc => ?_
        generalize hU : upd H' pc _ = H9
        obtain ⟨s9, e9⟩ := upd_facts hU hpc
        clear hU
        walk_at "gl"
        have s19 := s1e.trans (s'.trans s9)
        refine ⟨s19, pc, ts ++ ts2, by rw [e9, List.map_append], ?_, _, _, _, _, _, _, rfl⟩
        rw [foundL_succ]
        have szb : Same H1 He := sab.trans s1e
        exact pairs_append (pairs_mono (fun _ _ h => ⟨h.1, (sT.trans (s'.trans s9)) _ _ h.2⟩) hts) (pairs_mono (fun _ _ h => ⟨szb.free h.1, s9 _ _ h.2⟩) hts2)
    · obtain ⟨s1', pf, ts, epf, hts, x7, x8, x9, x10, x11, x12, rfl⟩ := z
      walk_at "gl"
      have hbl : bs.length = t := by have := pairs_len hrow; rwa [List.length_range] at this
      rw [List.length_map, hbl] at hts
      refine k_sortedPL epf hts fun ps ts' ps' hps perm srt hpr => ?_
      generalize hU : upd Hc ps _ = H8
      obtain ⟨s8, e8⟩ := upd_facts hU hps
      clear hU
      walk_at "gl"
      have sH8 : Same H H8 := s1.trans (sab.trans (s1'.trans s8))
      have eaw8 := sH8 _ _ eaw
      have hgr0 := hgr hs0 ks q0 as0 (List.Perm.refl _)
      rw [← hFr] at hgr0
      have lws : ws.length ≤ 10 * 660 := by
        rw [← hgr0.length_eq]
        exact Nat.le_trans (foundL_len (B := 660) fun n hn => lF n hn) (Nat.mul_le_mul_right _ t60)
      have ltw := pairs_len hpw
      refine ⟨⟨_, .inl (.inl eaw8)⟩, ?_⟩
      refine lcIn_L (fun _ => true) (fun i => (tw.map V.ref).getD i .non) (.inl (.inl eaw8)) (by rw [List.length_map]; omega) (fun x => rfl) (fun i y H2 hi s2 => ⟨fun QT k => k _ (Same.refl _), fun _ H3 s3 QE k => ?_⟩) (fun p' H' np s3 hp' => ?_)
      · have hi' := hi
        rw [List.getElem?_map] at hi
        obtain ⟨b, hb, rfl⟩ := Option.map_eq_some_iff.mp hi
        obtain ⟨p, hp, eb⟩ := Nd.paired_get hpw hb
        walk_at "gl"
        refine ⟨b, _, rfl, .inr ⟨.inl (.inl ((s2.trans s3) _ _ (sH8 _ _ eb))), ?_⟩⟩
        walk_at "gl"
        have := k _ (Same.refl _)
        rw [List.getD_eq_getElem?_getD, hi'] at this
        exact this
      · rw [given_all (xs := tw.map V.ref) rfl (fun i x hi => by rw [List.getD_eq_getElem?_getD, hi]; rfl)] at hp'
        walk_at "gl"
        have hpw2 : Paired (PrI (fun _ => none) H') tw ws := pairs_mono (fun t p h => ⟨rfl, (sH8.trans s3) _ _ h⟩) hpw
        refine k_sortedPL hp' hpw2 fun p3 ts3 ps3 np3 perm3 srt3 hpr3 => ?_
        generalize hU : upd H' p3 _ = H9
        obtain ⟨s9, e9⟩ := upd_facts hU np3
        clear hU
        have hps : ps3 = ps' := lex_uniq (perm3.trans hgr0.symm) perm srt3 srt
        subst hps
        refine k_eqD (.lst (.inl (.inl ((s3.trans s9) _ _ e8))) (prs_dpI (pairs_mono (fun _ _ h => ⟨h.1, (s8.trans (s3.trans s9)) _ _ h.2⟩) hpr))) (.lst (.inl (.inl e9)) (prs_dpI (pairs_mono (fun _ _ h => ⟨h.1, s9 _ _ h.2⟩) hpr3))) (sh_pDs _) (sh_pDs _) ?_
        rw [eqv_pDl]
        exact q _ (sH8.trans (s3.trans s9))
end
end K45

namespace K45
open PySem PySem.Spec PyProof.Rows L2 Nd
abbrev s__law_wish : Stmt := top 35
theorem sc__law_wish : FnScope ["genie", "colour", "low", "high", "ticks", "some", "few", "tick", "found", "at", "pair", "spot"] ["genie", "colour", "low", "high", "ticks"] (defScope s__law_wish) := ⟨rfl, rfl, rfl, by decide +kernel, rfl, by decide +kernel, by decide +kernel⟩
section
variable {P : Program} {w : World} {K : PySem.W.Frag} {mg : Str → Option Value} {base : Heap}
theorem ok_wish {f : Addr} {fd : FuncData} (F : Fun K "_law_wish" "_law_wish" s__law_wish f fd) (T : TxtC mg) (C__law_rub : Cal P w K mg base CX0 1 "_law_rub" spDraw) (C__law_pick : Cal P w K mg base CX0 2 "_law_pick" spPick) : FnG P w K mg base CX0 3 f fd ["genie", "colour", "low", "high", "ticks"] spWish := by
  refine okG0 F sc__law_wish (fun vs H Q E h => ?_) (fun cdv A outer s H vs Q E hG hr h => ?_)
  · obtain ⟨r, N, col, lo, hi, t, wd, rfl, _⟩ := h
    rfl
  · obtain ⟨r, N, col, lo, hi, t, wd, rfl, R, hN, l0, l1, l2, l3, w60, t10, q⟩ := h
    refine ⟨_, (pss_cons (ps_asg (pe_tup (pa_cons (pe_lst pa_nil) (pa_cons (pe_f C__law_pick hG (hr.mono (by decide)) (by rfl) pass0 (pa_cons (pv 0) (pa_cons (pe_lst (pa_cons pe_int (pa_cons pe_int (pa_cons pe_int (pa_cons pe_int (pa_cons pe_int pa_nil)))))) pa_nil))) pa_nil))) (pg_tup (by rfl) (pgs_cons (pg_name (i := 5) sc__law_wish.nd rfl (.inl rfl)) (pgs_cons (pg_name (i := 6) sc__law_wish.nd rfl (.inr rfl)) pgs_nil))))
      (pss_cons (ps_for PassesOwn.never rfl (pi_range1 rfl T.m_range (pa_cons (pv 4) pa_nil)) (pg_name (i := 7) sc__law_wish.nd rfl (.inr rfl)) (pss_one (ps_set (i := 5) sc__law_wish.nd rfl (.inl rfl) (pe_op op_cat (pv 5) (pe_lc (own := [("spot", 11)]) (g := gName 11) rfl sc__law_wish.nd (pi_range2 rfl T.m_range (pa_cons (pv 2) (pa_cons (pe_op op_add (pv 3) pe_int) pa_nil))) (blkOk_by (own := [("spot", 11)]) (N := ["genie", "colour", "low", "high", "ticks", "some", "few", "tick", "found", "at", "pair", "spot"]) (sc := defScope s__law_wish) (by decide +kernel)) (fun _ _ _ _ _ => pg_name (i := 11) sc__law_wish.nd rfl (Or.inl rfl)) (fun _ _ _ _ _ => pts_one (pt_cmpR op_eq (pe_op op_mod (pe_callTy call_int1 (by rfl) T.m_int (by decide +kernel) (pa_cons (pe_op op_add (pe_op op_add (pv 11) (pv 7)) (pv 1)) pa_nil)) pe_int) pe_int (nomark _))) (fun _ _ _ _ _ => (pe_tup (pa_cons (pv 11) (pa_cons (pv 7) pa_nil)))))))))
      (pss_cons (ps_setLc (i := 8) (own := [("pair", 10)]) (g := gName 10) rfl sc__law_wish.nd rfl rfl (sw_true rfl rfl rfl (by decide +kernel)) (pi_list (pv 5)) (blkOk_by (own := [("pair", 10)]) (N := ["genie", "colour", "low", "high", "ticks", "some", "few", "tick", "found", "at", "pair", "spot"]) (sc := defScope s__law_wish) (by decide +kernel)) (fun _ _ _ _ _ => pg_name (i := 10) sc__law_wish.nd rfl (Or.inl rfl)) (fun _ _ _ _ _ => pts_one (pt_cmpR op_eq (pe_f C__law_rub hG (hr.mono (by decide)) (by rfl) pass0 (pa_cons (pv 0) (pa_cons (pv 6) pa_nil))) pe_int (nomark _))) (fun _ _ _ _ _ => (pv 10)))
      (pss_cons (ps_set (i := 9) sc__law_wish.nd rfl (.inl rfl) (pe_f C__law_rub hG (hr.mono (by decide)) (by rfl) pass0 (pa_cons (pv 0) (pa_cons (pe_op op_add (pe_callB (id := "len") call_len_seq (by rfl) T.m_len PySem.boot_len (pa_cons (pv 8) pa_nil)) pe_int) pa_nil))))
      (pss_one (ps_ret (pe_op op_cat (pe_revL (pe_slice sl_list (pv 8) (po_some (pv 9)) po_none)) (pe_slice sl_list (pv 8) po_none (po_some (pv 9)))))))))), ?_⟩
    try dsimp only [cxOf, Cx.nox, Cx.wish]
    generalize hσ0 : L2.start _ _ = σ0
    obtain rfl : σ0 = ([some (.ref r), some (.int col), some (.int lo), some (.int hi), some (.int (t : Int)), none, none, none, none, none, none, none] : L2.St) := by rw [← hσ0]; rfl
    clear hσ0
    walk_at "gl"
    refine ⟨small64 (by simp), fun pe hpe => ?_⟩
    generalize hU : upd _ pe _ = H1
    obtain ⟨s1, e1⟩ := upd_facts hU hpe
    clear hU
    walk_at "gl"
    refine ⟨small64 (by simp), fun p1 hp1 => ?_⟩
    generalize hU : upd _ p1 _ = H2
    obtain ⟨s2, e2⟩ := upd_facts hU hp1
    clear hU
    walk_at "gl"
    have R1 := R.same s1
    have R2 := R1.same s2
    refine ⟨r, p1, _, _, rfl, R2, by omega, R1.ne hp1, e2, by simp, by simp, fun H3 fv g3 R3 hfv => ?_⟩
    obtain ⟨fw, rfl, f1, f9⟩ : ∃ x : Nat, fv = .int (x : Int) ∧ 1 ≤ x ∧ x ≤ 9 := by
      simp only [List.mem_cons, List.not_mem_nil, or_false] at hfv
      rcases hfv with rfl | rfl | rfl | rfl | rfl
      · exact ⟨2, rfl, by decide, by decide⟩
      · exact ⟨2, rfl, by decide, by decide⟩
      · exact ⟨3, rfl, by decide, by decide⟩
      · exact ⟨9, rfl, by decide, by decide⟩
      · exact ⟨1, rfl, by decide, by decide⟩
    have npe : pe ≠ r := R.ne hpe
    have e3 := g3.all _ _ npe (s2 _ _ e1)
    walk_at "gl"
    refine ⟨small64 (by simp), fun pz hpz => ?_⟩
    generalize hU : upd _ pz _ = H4
    obtain ⟨s4, e4⟩ := upd_facts hU hpz
    clear hU
    refine k_gtup (.inl (.inl e4)) rfl ?_
    replace e3 := s4 _ _ e3
    have R4 := R3.same s4
    walk_at "gl"
    refine ⟨by omega, by omega, ?_⟩
    refine forIn_R (fun m σ' Hc => Same H4 Hc ∧ (∃ pf ts, Hc pf = some (.lst (ts.map V.ref)) ∧ pf ≠ r ∧ Paired (fun (b : Addr) (p : Int × Int) => b ≠ r ∧ Hc b = some (.tup [.int p.1, .int p.2])) ts (wishesL lo hi col m) ∧ ∃ x7 x8 x9 x10 x11, σ' = [some (.ref r), some (.int col), some (.int lo), some (.int hi), some (.int (t : Int)), some (.ref pf), some (.int (fw : Int)), x7, x8, x9, x10, x11]))
      ⟨Same.refl _, pe, [], e3, npe, .nil, _, _, _, _, _, rfl⟩ (fun m σ' Hc hm z => ?_) (fun σ' Hc z => ?_)
    · obtain ⟨sc, pf, ts, epf, npf, hts, x7, x8, x9, x10, x11, rfl⟩ := z
      have hm' : m < t := by omega
      have Rc := R4.same sc
      walk_at "gl"
      refine ⟨⟨by omega, by omega, by omega, by omega⟩, ?_⟩
      refine lcIn_rgP (fun i : Nat => decide ((lo + (i : Int) + m + col) % 2 = 0)) (fun i : Nat => (lo + (i : Int), (m : Int))) (by omega) (fun x => rfl) (fun i H5 hi s5 QE Z k1 k2 => ?_) (fun pq H5 ts2 npq s5 epq hts2 => ?_)
      · walk_at "gl"
        rw [Int.zero_add]
        refine k_I (by decide) ?_
        walk_at "gl"
        refine ite2 (fun z => ?_) (fun z => ?_)
        · walk_at "gl"
          refine ⟨small64 (by simp), fun pn hpn => ?_⟩
          generalize hU : upd _ pn _ = H6
          obtain ⟨s6, e6⟩ := upd_facts hU hpn
          clear hU
          exact k1 (by simpa using z) _ _ s6 hpn (by simpa using e6)
        · exact k2 (by simpa using z) _ (Same.refl _)
      · have hl1 : ts.length ≤ 10 * 60 := by
          rw [pairs_len hts]
          exact Nat.le_trans (wishesL_len l3 m) (Nat.mul_le_mul (by omega) w60)
        have hl2 : ts2.length ≤ 60 := by
          have h1 : (wishL lo hi col m).length ≤ wd := wishL_len l3
          rw [pairs_len hts2]
          exact Nat.le_trans h1 w60
        refine k_cat (s5 _ _ epf) epq (by rw [List.length_map, List.length_map]; exact Nat.le_trans (Nat.add_le_add hl1 hl2) (by decide)) fun pc hpc => ?_
        generalize hU : upd H5 pc _ = H6
        obtain ⟨s6, e6⟩ := upd_facts hU hpc
        clear hU
        walk_at "gl"
        have Rc5 := Rc.same s5
        refine ⟨sc.trans (s5.trans s6), pc, ts ++ ts2, by rw [e6, List.map_append], Rc5.ne hpc, ?_, _, _, _, _, _, rfl⟩
        rw [wishesL_succ]
        exact pairs_append (pairs_mono (fun _ _ h => ⟨h.1, (s5.trans s6) _ _ h.2⟩) hts) (pairs_mono (fun _ _ h => ⟨Rc.ne h.1, s6 _ _ h.2⟩) hts2)
    · obtain ⟨sc, pf, ts, epf, npf, hts, x7, x8, x9, x10, x11, rfl⟩ := z
      have Rc := R4.same sc
      walk_at "gl"
      refine ⟨⟨_, .inl (.inl epf)⟩, ?_⟩
      have hlt : ts.length ≤ t * wd := by
        rw [pairs_len hts]
        have := wishesL_len l3 (col := col) t
        simpa using this
      have htw : t * wd ≤ 10 * 60 := Nat.mul_le_mul t10 w60
      refine lcIn_rfK (N := N + 1) (kd := 1) Rc npf epf (by omega) (fun x => rfl) (fun m b H5 hb g5 R5 QE Z k1 k2 => ?_) (fun pq H5 us npq g5 R5 epq hus => ?_)
      · walk_at "gl"
        have hmt : m < ts.length := (List.getElem?_eq_some_iff.mp hb).1
        refine ⟨r, _, (fw : Int), rfl, R5, by omega, by omega, by omega, fun H6 k g6 R6 hk0 hk1 => ?_⟩
        walk_at "gl"
        refine ite2 (fun z => ?_) (fun z => ?_)
        · walk_at "gl"
          exact k1 _ g6 (R6.mono (by omega))
        · exact k2 _ g6 (R6.mono (by omega))
      · obtain ⟨ws, hws, sub⟩ := pairs_sub hts hus
        walk_at "gl"
        have npq2 : pq ≠ r := Rc.ne npq
        have hwsl : ws.length ≤ t * wd := by
          rw [← pairs_len hws]
          exact Nat.le_trans hus.length_le hlt
        have hul : us.length = ws.length := pairs_len hws
        refine ⟨pq, _, rfl, .inl (.inl (.inl epq)), ?_⟩
        walk_at "gl"
        refine ⟨r, _, _, rfl, R5, by omega, by rw [List.length_map]; omega, by rw [List.length_map]; omega, fun H6 k g6 R6 hk0 hk1 => ?_⟩
        rw [List.length_map] at hk1
        obtain ⟨at', hat⟩ : ∃ n : Nat, k = (n : Int) := ⟨k.toNat, by omega⟩
        subst hat
        have epq6 := g6.all _ _ npq2 epq
        have hws6 : Paired (fun (b : Addr) (p : Int × Int) => b ≠ r ∧ H6 b = some (.tup [.int p.1, .int p.2])) us ws := pairs_mono (fun _ _ h => ⟨h.1, g6.all _ _ h.1 (g5.all _ _ h.1 h.2)⟩) hws
        walk_at "gl"
        refine k_revL ?_
        walk_at "gl"
        refine k_slL (.inl (.inl epq6)) fun p6 np6 => ?_
        generalize hU : upd H6 p6 _ = H7
        obtain ⟨s7, e7⟩ := upd_facts hU np6
        clear hU
        refine ⟨p6, _, rfl, .inl (.inl e7), fun p7 np7 => ?_⟩
        generalize hU : upd H7 p7 _ = H8
        obtain ⟨s8, e8⟩ := upd_facts hU np7
        clear hU
        walk_at "gl"
        refine k_slL (.inl (.inl ((s7.trans s8) _ _ epq6))) fun p8 np8 => ?_
        generalize hU : upd H8 p8 _ = H9
        obtain ⟨s9, e9⟩ := upd_facts hU np8
        clear hU
        rw [cut_from] at e8
        rw [cut_nat] at e9
        rw [← List.map_drop, ← List.map_reverse] at e8
        rw [← List.map_take] at e9
        refine k_cat (s9 _ _ e8) e9 (by
          rw [List.length_map, List.length_map, List.length_reverse, List.length_drop, List.length_take, sizeLine_eq]
          omega) fun p9 np9 => ?_
        generalize hU : upd H9 p9 _ = Ha
        obtain ⟨sa, ea⟩ := upd_facts hU np9
        clear hU
        have s7a := s7.trans (s8.trans (s9.trans sa))
        have R9 := ((R6.same s7).same s8).same s9
        have hperm : ((ws.drop at').reverse ++ ws.take at').Perm ws := by
          refine (List.Perm.append_right _ (List.reverse_perm _)).trans ?_
          refine List.perm_append_comm.trans ?_
          rw [List.take_append_drop]
        have hpr : Paired (fun (b : Addr) (p : Int × Int) => b ≠ r ∧ Ha b = some (.tup [.int p.1, .int p.2])) ((us.drop at').reverse ++ us.take at') ((ws.drop at').reverse ++ ws.take at') := by
          have h0 := pairs_mono (G := fun (b : Addr) (p : Int × Int) => b ≠ r ∧ Ha b = some (.tup [.int p.1, .int p.2])) (fun _ _ h => ⟨h.1, s7a _ _ h.2⟩) hws6
          exact pairs_append (pairs_rev (pairs_drop at' h0)) (pairs_take at' h0)
        refine q Ha (.ref p9) ((ws.drop at').reverse ++ ws.take at') ?_ ((R9.same sa).mono (by omega)) ⟨p9, _, rfl, R9.ne np9, by rw [ea, List.map_append], hpr⟩ (hperm.nodup_iff.mpr ((wishesL_nodup _).sublist sub)) (by rw [hperm.length_eq]; exact hwsl) (fun p hp => by
          have := wishesL_mem (sub.subset (hperm.mem_iff.mp hp))
          omega)
        exact (((Gr.same (s1.trans s2)).trans g3).trans ((Gr.same (s4.trans sc)).trans g5)).trans (g6.trans (Gr.same s7a))
end
end K45

namespace K45
open PySem PySem.Spec PyProof.Rows L2 L2.DX Nd
abbrev s_law : Stmt := top 36
theorem sc_law : FnScope ["script", "genie", "turn", "colour", "ticks", "low", "high", "wish", "lefts", "kept", "told", "again", "spot", "pair"] ["script"] (defScope s_law) := ⟨rfl, rfl, rfl, by decide +kernel, rfl, by decide +kernel, by decide +kernel⟩
def spLaw (K : PySem.W.Frag) : Sp := fun vs H Q _ => ∃ (a : Addr) (ns : List Int), vs = [.ref a] ∧ SqL K H a (ns.map V.int) ∧ ns.length ≤ 63 ∧ ∀ H', Q (.bl true) H'
theorem rep_tup {W : Nat} {ds : List PyData} (h : ∀ d ∈ ds, TxW W d) (hw : (W + 10) * ds.length ≤ 149000) : Rp (.tuple ds) := by
  obtain ⟨b1, b2, b3, b4⟩ := txw_all h
  refine rep_of ?_ ?_ ?_ ?_
  · simp [PyData.showable, b1]
  · simp [PyData.depth]
    omega
  · simp [PyData.leavesShort, b3]
  · simp [PyData.weight]
    omega
section
variable {P : Program} {w : World} {K : PySem.W.Frag} {mg : Str → Option Value} {base : Heap}
theorem ok_law {f : Addr} {fd : FuncData} (F : Fun K "law" "law" s_law f fd) (T : TxtC mg)
    (C__law_genie : Cal P w K mg base CX0 1 "_law_genie" (spRiddle K)) (C__law_rub : Cal P w K mg base CX0 1 "_law_rub" spDraw) (C__law_pick : Cal P w K mg base CX0 2 "_law_pick" spPick) (C__law_wish : Cal P w K mg base CX0 3 "_law_wish" spWish) (C__law_lefts : Cal P w K mg base CX0 3 "_law_lefts" spLeftsN)
    (C__law_are_heaps : Cal P w K mg base CX0 1 "_law_are_heaps" spAreHeapsL) (C__law_is_granted : Cal P w K mg base CX0 2 "_law_is_granted" spGrantedL)
    (C_start_for : Cal P w K mg base CX0 6 "start_for" spStartFor) (CK_start_for_ticks_high_low_colour_wish_lefts : CalK P w K mg base CX0 6 "start_for" ["ticks", "high", "low", "colour", "wish", "lefts"] [5, 4, 3, 2, 1, 0] spStartFor) :
    FnG P w K mg base CX0 7 f fd ["script"] (spLaw K) := by
  refine okG0 F sc_law (fun vs H Q E h => ?_) (fun cdv A outer s H vs Q E hG hr h => ?_)
  · obtain ⟨a, ns, rfl, _⟩ := h
    rfl
  · obtain ⟨a, ns, rfl, hS, hlen, q⟩ := h
    refine ⟨_, (pss_cons (ps_set (i := 1) sc_law.nd rfl (.inr rfl) (pe_f C__law_genie hG (hr.mono (by decide)) (by rfl) pass0 (pa_cons (pv 0) pa_nil)))
      (pss_cons (ps_for PassesOwn.never rfl (pi_range1 rfl T.m_range (pa_cons pe_int pa_nil)) (pg_name (i := 2) sc_law.nd rfl (.inl rfl)) (pss_cons (ps_par3 (i := 3) (j := 4) (l := 5) (by rfl) sc_law.nd rfl rfl rfl (by decide) (by decide) (by decide) rfl rfl rfl (pa_cons (pe_f C__law_rub hG (hr.mono (by decide)) (by rfl) pass0 (pa_cons (pv 1) (pa_cons pe_int pa_nil))) (pa_cons (pe_f C__law_rub hG (hr.mono (by decide)) (by rfl) pass0 (pa_cons (pv 1) (pa_cons pe_int pa_nil))) (pa_cons (pe_f C__law_pick hG (hr.mono (by decide)) (by rfl) pass0 (pa_cons (pv 1) (pa_cons (pe_lst (pa_cons (pe_op op_sub (pe_f C__law_rub hG (hr.mono (by decide)) (by rfl) pass0 (pa_cons (pv 1) (pa_cons pe_int pa_nil))) pe_int) (pa_cons pe_int (pa_cons pe_int (pa_cons (pe_un un_neg pe_int) (pa_cons pe_int pa_nil)))))) pa_nil))) pa_nil))) (by rfl))
      (pss_cons (ps_set (i := 6) sc_law.nd rfl (.inl rfl) (pe_op op_add (pv 5) (pe_f C__law_pick hG (hr.mono (by decide)) (by rfl) pass0 (pa_cons (pv 1) (pa_cons (pe_lst (pa_cons (pe_f C__law_rub hG (hr.mono (by decide)) (by rfl) pass0 (pa_cons (pv 1) (pa_cons pe_int pa_nil))) (pa_cons pe_int (pa_cons pe_int pa_nil)))) pa_nil)))))
      (pss_cons (ps_par (i := 7) (j := 8) (by rfl) sc_law.nd rfl rfl (by decide) rfl rfl (pa_cons (pe_f C__law_wish hG (hr.mono (by decide)) (by rfl) pass0 (pa_cons (pv 1) (pa_cons (pv 3) (pa_cons (pv 5) (pa_cons (pv 6) (pa_cons (pv 4) pa_nil)))))) (pa_cons (pe_f C__law_lefts hG (hr.mono (by decide)) (by rfl) pass0 (pa_cons (pv 1) pa_nil)) pa_nil)) (by rfl))
      (pss_cons (ps_if (pt_cmpR op_eq (pe_f C__law_rub hG (hr.mono (by decide)) (by rfl) pass0 (pa_cons (pv 1) (pa_cons pe_int pa_nil))) pe_int (nomark _)) (pss_one (ps_setLc (i := 8) (own := [("spot", 12)]) (g := gName 12) rfl sc_law.nd rfl rfl (sw_true rfl rfl rfl (by decide +kernel)) (pi_range2 rfl T.m_range (pa_cons (pv 5) (pa_cons (pe_callB (id := "min") (call_min2 rfl) (by rfl) T.m_min (by decide +kernel) (pa_cons (pe_op op_add (pv 6) pe_int) (pa_cons pe_int pa_nil))) pa_nil))) (blkOk_by (own := [("spot", 12)]) (N := ["script", "genie", "turn", "colour", "ticks", "low", "high", "wish", "lefts", "kept", "told", "again", "spot", "pair"]) (sc := defScope s_law) (by decide +kernel)) (fun _ _ _ _ _ => pg_name (i := 12) sc_law.nd rfl (Or.inl rfl)) (fun _ _ _ _ _ => pts_one (pt_cmpR op_eq (pe_f C__law_rub hG (hr.mono (by decide)) (by rfl) pass0 (pa_cons (pv 1) (pa_cons pe_int pa_nil))) pe_int (nomark _))) (fun _ _ _ _ _ => (pv 12)))) pss_nil)
      (pss_cons (ps_par (i := 9) (j := 10) (by rfl) sc_law.nd rfl rfl (by decide) rfl rfl (pa_cons (pe_callB (id := "repr") (cr_repr hG hr) (by rfl) T.m_repr (by decide +kernel) (pa_cons (pe_lst (pa_cons (pv 7) (pa_cons (pv 8) pa_nil))) pa_nil)) (pa_cons (pe_f C_start_for hG (hr.mono (by decide)) (by rfl) pass0 (pa_cons (pv 8) (pa_cons (pv 7) (pa_cons (pv 3) (pa_cons (pv 5) (pa_cons (pv 6) (pa_cons (pv 4) pa_nil))))))) pa_nil)) (by rfl))
      (pss_cons (ps_if (PW.pt (pw_or (pt_not (pt_val (pe_f C__law_are_heaps hG (hr.mono (by decide)) (by rfl) pass0 (pa_cons (pv 10) (pa_cons (pv 3) pa_nil))))) (pw_or (pt_not (pt_val (pe_f C__law_is_granted hG (hr.mono (by decide)) (by rfl) pass0 (pa_cons (pv 10) (pa_cons (pv 8) (pa_cons (pv 7) (pa_cons (pv 5) (pa_cons (pv 6) (pa_cons (pv 4) pa_nil))))))))) (pw_or1 (pt_cmpR op_ne (pe_callB (id := "repr") (cr_repr hG hr) (by rfl) T.m_repr (by decide +kernel) (pa_cons (pe_lst (pa_cons (pv 7) (pa_cons (pv 8) pa_nil))) pa_nil)) (pv 9) (nomark _)))))) (pss_one (ps_ret pe_bl)) pss_nil)
      (pss_cons (ps_set (i := 11) sc_law.nd rfl (.inl rfl) (pe_kw CK_start_for_ticks_high_low_colour_wish_lefts hG (hr.mono (by decide)) (by rfl) pass0 (pk_cons (pv 4) (pk_cons (pv 6) (pk_cons (pv 5) (pk_cons (pv 3) (pk_cons (pe_callTy call_tuple_of (by rfl) T.m_tuple (by decide +kernel) (pa_cons (pe_lc (own := [("pair", 13)]) (g := gName 13) (tt := tYes) rfl sc_law.nd (pi_list (pv 7)) (blkOk_by (own := [("pair", 13)]) (N := ["script", "genie", "turn", "colour", "ticks", "low", "high", "wish", "lefts", "kept", "told", "again", "spot", "pair"]) (sc := defScope s_law) (by decide +kernel)) (fun _ _ _ _ _ => pg_name (i := 13) sc_law.nd rfl (Or.inl rfl)) (fun _ _ _ _ _ => pts_nil) (fun _ _ _ _ _ => (pe_callTy (show CallR _ (.type "list") (rListA K) from call_list_of) (by rfl) T.m_list (by decide +kernel) (pa_cons (pv 13) pa_nil)))) pa_nil)) (pk_cons (pe_callTy call_tuple_of (by rfl) T.m_tuple (by decide +kernel) (pa_cons (pv 8) pa_nil)) pk_nil))))))))
      (pss_one (ps_if (pt_cmpR op_ne (pe_callB (id := "repr") (cr_repr hG hr) (by rfl) T.m_repr (by decide +kernel) (pa_cons (pv 11) pa_nil)) (pe_callB (id := "repr") (cr_repr hG hr) (by rfl) T.m_repr (by decide +kernel) (pa_cons (pv 10) pa_nil)) (nomark _)) (pss_one (ps_ret pe_bl)) pss_nil))))))))))
      (pss_one (ps_ret pe_bl)))), ?_⟩
    try dsimp only [cxOf, Cx.nox, Cx.wish]
    generalize hσ0 : L2.start _ _ = σ0
    obtain rfl : σ0 = ([some (.ref a), none, none, none, none, none, none, none, none, none, none, none, none, none] : L2.St) := by rw [← hσ0]; rfl
    clear hσ0
    walk_at "gl"
    refine ⟨a, ns, rfl, hS, hlen, fun H1 r s1 nr R0 => ?_⟩
    walk_at "gl"
    refine ⟨by decide, by decide, ?_⟩
    refine forIn_R (fun i σ H' => Rid r (200 * i) H' ∧ ∃ x2 x3 x4 x5 x6 x7 x8 x9 x10 x11 x12 x13, σ = [some (.ref a), some (.ref r), x2, x3, x4, x5, x6, x7, x8, x9, x10, x11, x12, x13]) ⟨R0, _, _, _, _, _, _, _, _, _, _, _, _, rfl⟩ (fun i σ H2 hi hP => ?_) (fun σ H2 hP => ?_)
    · obtain ⟨R2, x2, x3, x4, x5, x6, x7, x8, x9, x10, x11, x12, x13, rfl⟩ := hP
      have hi' : i < 3 := hi
      walk_at "gl"
      refine ⟨r, _, 2, rfl, R2, by omega, by decide, by decide, fun H3 col g3 R3 c0 c1 => ?_⟩
      walk_at "gl"
      refine ⟨r, _, 7, rfl, R3, by omega, by decide, by decide, fun H4 v4 g4 R4 a4 b4 => ?_⟩
      obtain ⟨t, ht0, ht⟩ : ∃ t : Nat, v4 = (t : Int) ∧ t ≤ 6 := ⟨v4.toNat, by omega, by omega⟩
      subst ht0
      walk_at "gl"
      refine ⟨r, _, 9, rfl, R4, by omega, by decide, by decide, fun H5 v5 g5 R5 a5 b5 => ?_⟩
      walk_at "gl"
      refine ⟨small64 (by simp), fun p6 hp6 => ?_⟩
      generalize hU : upd _ p6 _ = H6
      obtain ⟨s6, e6⟩ := upd_facts hU hp6
      clear hU
      have R6 := R5.same s6
      walk_at "gl"
      refine ⟨r, p6, _, _, rfl, R6, by omega, R5.ne hp6, e6, by simp, by simp, fun H7 v7 g7 R7 hv7 => ?_⟩
      obtain ⟨lo, rfl, hlo1, hlo2⟩ : ∃ lo : Int, v7 = .int lo ∧ -999900 ≤ lo ∧ lo ≤ 999900 := by
        simp only [List.mem_cons, List.not_mem_nil, or_false] at hv7
        rcases hv7 with rfl | rfl | rfl | rfl | rfl
        · exact ⟨_, rfl, by omega, by omega⟩
        · exact ⟨_, rfl, by decide, by decide⟩
        · exact ⟨_, rfl, by decide, by decide⟩
        · exact ⟨_, rfl, by decide, by decide⟩
        · exact ⟨_, rfl, by decide, by decide⟩
      walk_at "gl"
      refine ⟨r, _, 9, rfl, R7, by omega, by decide, by decide, fun H8 v8 g8 R8 a8 b8 => ?_⟩
      walk_at "gl"
      refine ⟨small64 (by simp), fun p9 hp9 => ?_⟩
      generalize hU : upd _ p9 _ = H9
      obtain ⟨s9, e9⟩ := upd_facts hU hp9
      clear hU
      have R9 := R8.same s9
      walk_at "gl"
      refine ⟨r, p9, _, _, rfl, R9, by omega, R8.ne hp9, e9, by simp, by simp, fun HA vA gA RA hvA => ?_⟩
      obtain ⟨wd, rfl, hw1, hw2⟩ : ∃ wd : Int, vA = .int wd ∧ 0 ≤ wd ∧ wd ≤ 14 := by
        simp only [List.mem_cons, List.not_mem_nil, or_false] at hvA
        rcases hvA with rfl | rfl | rfl
        · exact ⟨_, rfl, by omega, by omega⟩
        · exact ⟨_, rfl, by decide, by decide⟩
        · exact ⟨_, rfl, by decide, by decide⟩
      obtain ⟨hi2, hhi⟩ : ∃ hi2 : Int, hi2 = lo + wd := ⟨_, rfl⟩
      have hh1 : lo ≤ hi2 := by omega
      have hh2 : hi2 ≤ lo + 14 := by omega
      clear hv7 hvA g3 g4 g5 g7 g8 gA s6 s9 e6 e9 hp6 hp9 R2 R3 R4 R5 R6 R7 R8 R9 a4 b4 a5 b5 a8 b8
      walk_at "gl"
      rw [← hhi]
      have htw : t * 8 ≤ 48 := by omega
      refine ⟨r, _, col, lo, hi2, t, 8, rfl, RA, by omega, by omega, by omega, hh1, by omega, by decide, by omega, fun HB wv ws gB RB hW ndw lws hwm => ?_⟩
      walk_at "gl"
      refine ⟨r, _, rfl, RB, by omega, fun HC lf ks gC RC elf hx lk hkr => ?_⟩
      replace hW := hW.gr gC
      walk_at "gl"
      refine ⟨r, _, 3, rfl, RC, by omega, by decide, by decide, fun HD vD gD RD aD bD => ?_⟩
      replace hW := hW.gr gD
      walk_at "gl"
      obtain ⟨_, elf', nlr, _⟩ := hx.ex
      cases elf'
      have elfD := gD.all _ _ nlr elf
      obtain ⟨aw, tw, rfl, naw, eaw, htw2⟩ := id hW
      have lk2 : ks.length ≤ 20 := by omega
      refine k_iteJ (fun σ' H' => Gr r HD H' ∧ Rid r (200 * i + 150) H' ∧ ∃ lf ks x9 x10 x11 x12 x13, σ' = [some (.ref a), some (.ref r), some (.int (0 + (i : Int))), some (.int col), some (.int (t : Int)), some (.int lo), some (.int hi2), some (.ref aw), some (.ref lf), x9, x10, x11, x12, x13] ∧ H' lf = some (.lst (ks.map V.int)) ∧ LfS r H' (.ref lf) ks ∧ ks.length ≤ 20 ∧ (∀ k ∈ ks, -1000000 ≤ k ∧ k ≤ 1000000)) (fun nx' hnx => ?_) (fun σ' HE hE => ?_)
      · refine ite2 (fun z => ?_) (fun z => ?_)
        · walk_at "gl"
          refine ⟨⟨by omega, by omega, by omega, by omega⟩, ?_⟩
          refine lcIn_rgK (kd := 1) RD (by omega) (fun x => rfl) (fun m H5 hm g5 R5 QE Z k1 k2 => ?_) (fun pq H5 ks5 npq g5 R5 epq nd5 hb5 hl5 => ?_)
          · walk_at "gl"
            refine ⟨r, _, 2, rfl, R5, by omega, by decide, by decide, fun H6 k g6 R6 hk0 hk1 => ?_⟩
            walk_at "gl"
            refine ite2 (fun z => ?_) (fun z => ?_)
            · walk_at "gl"
              exact k1 _ g6 (R6.mono (by omega))
            · exact k2 _ g6 (R6.mono (by omega))
          · walk_at "gl"
            have npq2 : pq ≠ r := RD.ne npq
            exact hnx _ _ ⟨g5, R5.mono (by omega), pq, ks5, _, _, _, _, _, rfl, epq, ⟨⟨pq, rfl, npq2, .inl epq⟩, by omega, nd5, fun k hk => by have := hb5 k hk; omega⟩, by omega, fun k hk => by have := hb5 k hk; omega⟩
        · walk_at "gl"
          exact hnx _ _ ⟨Gr.same (Same.refl _), RD.mono (by omega), lf, ks, _, _, _, _, _, rfl, elfD, hx.gr gD, lk2, fun k hk => by have := hkr k hk; omega⟩
      · obtain ⟨gE, RE, lf, ks, x9, x10, x11, x12, x13, rfl, elf, hx, lk, hkr⟩ := hE
        clear elfD
        have hWE := hW.gr gE
        walk_at "gl"
        refine ⟨small64 (by simp), fun pz hpz => ?_⟩
        generalize hU : upd _ pz _ = Hz
        obtain ⟨sz, ez⟩ := upd_facts hU hpz
        clear hU
        walk_at "gl"
        replace hWE := hWE.same sz
        replace hx := hx.same sz
        replace elf := sz _ _ elf
        have Rz := RE.same sz
        have hwD : ∀ d ∈ ws.map pD, TxW 90 d := fun d hd => by
          obtain ⟨p, hp, rfl⟩ := List.mem_map.mp hd
          have := hwm p hp
          exact txw_pt (by omega) (by omega)
        have hkD : ∀ d ∈ ks.map PyData.int, TxW 40 d := fun d hd => by
          obtain ⟨k, hk, rfl⟩ := List.mem_map.mp hd
          have := hkr k hk
          exact txw_intD (by omega)
        have rpH : Rp (.list [.list (ws.map pD), .list (ks.map PyData.int)]) := rep_hl hwD hkD (by rw [List.length_map, List.length_map]; omega)
        have dpH : ∀ {H' : Hp}, Nd.HTu r H' (.ref aw) ws → H' lf = some (.lst (ks.map V.int)) → ∀ p, H' p = some (.lst [.ref aw, .ref lf]) → Dp K H' (.ref p) (.list [.list (ws.map pD), .list (ks.map PyData.int)]) := fun {H'} h el p ep => by
          obtain ⟨a', ts', e', _, ea', hp'⟩ := h
          cases e'
          exact .lst (.inl (.inl ep)) (.cons (.lst (.inl (.inl ea')) (prs_dp hp')) (.cons (.lst (.inl (.inl el)) (dpInts ks)) .nil))
        refine k_repr (dpH hWE elf _ ez) rpH.1 rpH.2.1 rpH.2.2 ?_
        obtain ⟨kept, hkept⟩ : ∃ kept, kept = PyData.shown (.list [.list (ws.map pD), .list (ks.map PyData.int)]) := ⟨_, rfl⟩
        rw [← hkept]
        walk_at "gl"
        have wok : WishOk ws col lo hi2 t := ⟨c0, c1, hlo1, hlo2, hh1, by omega, by omega, ndw, by omega, fun p hp => by have := hwm p hp; omega⟩
        refine ⟨r, .ref lf, .ref aw, ks, ws, col, lo, hi2, t, rfl, hx, hWE.hs, wok, fun HF at2 ts ss sF nat2 ttl htl gr => ?_⟩
        walk_at "gl"
        obtain ⟨okS, lss, hss⟩ := gr.okHs hlo1 hlo2 (by omega) (by omega)
        have RF := Rz.same sF
        have hWF := hWE.same sF
        have hxF := hx.same sF
        have htl2 : Paired (fun (b : Addr) (p : Int × Int) => HF b = some (.tup [.int p.1, .int p.2])) ts ss := pairs_mono (fun _ _ h => h.2) htl
        have nat3 : at2 ≠ r := Rz.ne nat2
        have hSv : Hs r HF (.ref at2) ss := ⟨⟨at2, _, rfl, nat3, .inr (.inr ttl), pairs_mapL (fun b p h => ⟨b, rfl, Rz.ne h.1, .inl (.inl h.2)⟩) htl⟩⟩
        have hfound := gr.found ndw (fun p hp => by have := hwm p hp; omega)
        refine Nd.k_tOr (Nd.k_tNot ?_)
        walk_at "gl"
        refine ⟨at2, ts, ss, col, rfl, ttl, htl2, gr.asc, by omega, fun p hp => ⟨okS.ok p hp, (hss p hp).2⟩, fun HG sG => ?_⟩
        walk_at "gl"
        rw [if_neg (show ¬ (!true) = true by decide)]
        refine Nd.k_tOr (Nd.k_tNot ?_)
        walk_at "gl"
        obtain ⟨aw', tw3, e0, naw3, eaw3, htw3⟩ := id (hWF.same sG)
        cases e0
        refine ⟨r, .ref at2, .ref lf, aw, tw3, ss, ks, ws, lo, hi2, t, rfl, hSv.same sG, okS, hxF.same sG, by omega, eaw3, pairs_mono (fun _ _ h => h.2) htw3, hfound, fun HI sI => ?_⟩
        walk_at "gl"
        rw [if_neg (show ¬ (!true) = true by decide)]
        have sGI := sG.trans sI
        walk_at "gl"
        refine ⟨small64 (by simp), fun py hpy => ?_⟩
        generalize hU : upd _ py _ = Hy
        obtain ⟨sy, ey⟩ := upd_facts hU hpy
        clear hU
        have sGy := sGI.trans sy
        walk_at "gl"
        refine k_repr (dpH (hWF.same sGy) ((sF.trans sGy) _ _ elf) _ ey) rpH.1 rpH.2.1 rpH.2.2 ?_
        rw [← hkept]
        walk_at "gl"
        rw [decide_eq_true (show V.str kept = V.str kept from rfl), if_neg (show ¬ (!true) = true by decide)]
        walk_at "gl"
        have hWy := hWF.same sGy
        obtain ⟨aw', tw4, e0, naw4, eaw4, htw4⟩ := id hWy
        cases e0
        have Ry := RF.same sGy
        refine ⟨⟨_, .inl (.inl eaw4)⟩, ?_⟩
        refine lcIn_prL eaw4 (pairs_mono (fun _ _ h => h.2) htw4) (by omega) (fun x => rfl) (fun b p HJ sJ eb QE kk => ?_) (fun pq HJ bs npq sJ epq hbs => ?_)
        · walk_at "gl"
          refine ⟨b, _, rfl, .inr (.inl (.inl eb)), fun l hl => ?_⟩
          generalize hU : upd HJ l _ = HK
          obtain ⟨sK, eK⟩ := upd_facts hU hl
          clear hU
          exact kk _ _ sK hl eK
        · walk_at "gl"
          refine ⟨pq, _, rfl, .inl ⟨.inl (.inl epq), fun pw npw => ?_⟩⟩
          generalize hU : upd HJ pw _ = HK
          obtain ⟨sK, eK⟩ := upd_facts hU npw
          clear hU
          have elfK := ((sF.trans sGy).trans (sJ.trans sK)) _ _ elf
          walk_at "gl"
          refine ⟨lf, _, rfl, .inl ⟨.inl (.inl elfK), fun pl npl => ?_⟩⟩
          generalize hU : upd HK pl _ = HL
          obtain ⟨sL, eL⟩ := upd_facts hU npl
          clear hU
          walk_at "gl"
          have RJ := Ry.same sJ
          have RK := RJ.same sK
          have RL := RK.same sL
          have hv2 : Hs r HL (.ref pw) ws := ⟨⟨pw, _, rfl, RJ.ne npw, .inr (.inl (sL _ _ eK)), pairs_mapL (fun b p h => ⟨b, rfl, Ry.ne h.1, .inr ((sK.trans sL) _ _ h.2)⟩) hbs⟩⟩
          have hx2 : LfS r HL (.ref pl) ks := ⟨⟨pl, rfl, RK.ne npl, .inr (.inl eL)⟩, hx.few, hx.nd, hx.ok⟩
          refine ⟨r, .ref pl, .ref pw, ks, ws, col, lo, hi2, t, rfl, hx2, hv2, wok, fun HM at3 ts3 ss3 sM nat4 ttl3 htl3 gr3 => ?_⟩
          obtain rfl : ss3 = ss := grants_uniq gr3.asc gr.asc (fun p hp => (gr3.sp p hp).1) (fun p hp => (gr.sp p hp).1) (gr3.fn.trans gr.fn.symm)
          walk_at "gl"
          have hsD : ∀ d ∈ ss3.map pD, TxW 300 d := fun d hd => by
            obtain ⟨p, hp, rfl⟩ := List.mem_map.mp hd
            obtain ⟨b1, b2, b3, b4⟩ := okHeap_of (okS.ok p hp)
            exact txw_pD (by omega) (by omega)
          have rpT := rep_tup hsD (by rw [List.length_map]; omega)
          have sGM := sGy.trans (sJ.trans (sK.trans (sL.trans sM)))
          refine k_repr (.tup ttl3.sq (prs_dpI htl3)) rpT.1 rpT.2.1 rpT.2.2 ?_
          obtain ⟨tx, htx⟩ : ∃ tx, tx = PyData.shown (.tuple (ss3.map pD)) := ⟨_, rfl⟩
          rw [← htx]
          walk_at "gl"
          refine k_repr (.tup (ttl.to fun u e => sGM _ _ e).sq (prs_dpI (pairs_mono (fun _ _ h => ⟨h.1, sGM _ _ h.2⟩) htl))) rpT.1 rpT.2.1 rpT.2.2 ?_
          rw [← htx]
          walk_at "gl"
          rw [decide_eq_true (show V.str tx = V.str tx from rfl), if_neg (show ¬ (!true) = true by decide)]
          walk_at "gl"
          exact ⟨(RF.same sGM).mono (by omega), _, _, _, _, _, _, _, _, _, _, _, _, rfl⟩
    · obtain ⟨R2, x2, x3, x4, x5, x6, x7, x8, x9, x10, x11, x12, x13, rfl⟩ := hP
      walk_at "gl"
      exact q _
end
end K45

namespace K45
open PySem PySem.Spec PyProof.Rows L2 Nd LamX
theorem all_mk {l : PySem.W.OpenLaw} {w : World} {K : PySem.W.Frag} {h : Heap} {mg : Str → Option Value} {fa f0 f1 f2 f3 f4 f5 f6 f7 f8 f9 f10 f11 f12 f13 f14 f15 f16 f17 f18 f19 f20      : Addr} (X : K.In h) (G : h.Ns mainGlobals mg) (hfa : mg "law" = some (.ref fa))
    {od0 an0 od1 an1 od2 an2 od3 an3 od4 an4 od5 an5 od6 an6 od7 an7 od8 an8 od9 an9 od10 an10 od11 an11 od12 an12 od13 an13 od14 an14 od15 an15 od16 an16 od17 an17 od18 an18 od19 an19 od20 an20 : Option Addr} {sl0 sl1 sl2 sl3 sl4 sl5 sl6 sl7 sl8 sl9 sl10 sl11 sl12 sl13 sl14 sl15 sl16 sl17 sl18 sl19 sl20 : Array (Option Value)} {oc0 kV0 dc0 pm0 cd0 ct0 oc1 kV1 dc1 pm1 cd1 ct1 oc2 kV2 dc2 pm2 cd2 ct2 oc3 kV3 dc3 pm3 cd3 ct3 oc4 kV4 dc4 pm4 cd4 ct4 oc5 kV5 dc5 pm5 cd5 ct5 oc6 kV6 dc6 pm6 cd6 ct6 oc7 kV7 dc7 pm7 cd7 ct7 oc8 kV8 dc8 pm8 cd8 ct8 oc9 kV9 dc9 pm9 cd9 ct9 oc10 kV10 dc10 pm10 cd10 ct10 oc11 kV11 dc11 pm11 cd11 ct11 oc12 kV12 dc12 pm12 cd12 ct12 oc13 kV13 dc13 pm13 cd13 ct13 oc14 kV14 dc14 pm14 cd14 ct14 oc15 kV15 dc15 pm15 cd15 ct15 oc16 kV16 dc16 pm16 cd16 ct16 oc17 kV17 dc17 pm17 cd17 ct17 oc18 kV18 dc18 pm18 cd18 ct18 oc19 kV19 dc19 pm19 cd19 ct19 oc20 kV20 dc20 pm20 cd20 ct20 : Value}
    (a0 : PySem.W.nsIn K mainGlobals "is_integer" = some (some (.ref f0))) (l0 : K.lookup f0 = some ⟨oc0, od0, .func (PySem.W.fnOf "is_integer" "is_integer" (defArgs s_is_integer) (defBody s_is_integer) (defScope s_is_integer) .none kV0 dc0 pm0 an0 cd0 ct0), sl0⟩) (c0 : PySem.W.codeIn K cd0 "is_integer" = true) (k0 : PySem.W.keepIn K (.ref f0) = true)
    (a1 : PySem.W.nsIn K mainGlobals "is_within" = some (some (.ref f1))) (l1 : K.lookup f1 = some ⟨oc1, od1, .func (PySem.W.fnOf "is_within" "is_within" (defArgs s_is_within) (defBody s_is_within) (defScope s_is_within) .none kV1 dc1 pm1 an1 cd1 ct1), sl1⟩) (c1 : PySem.W.codeIn K cd1 "is_within" = true) (k1 : PySem.W.keepIn K (.ref f1) = true)
    (a2 : PySem.W.nsIn K mainGlobals "are_integers" = some (some (.ref f2))) (l2 : K.lookup f2 = some ⟨oc2, od2, .func (PySem.W.fnOf "are_integers" "are_integers" (defArgs s_are_integers) (defBody s_are_integers) (defScope s_are_integers) .none kV2 dc2 pm2 an2 cd2 ct2), sl2⟩) (c2 : PySem.W.codeIn K cd2 "are_integers" = true) (k2 : PySem.W.keepIn K (.ref f2) = true)
    (a3 : PySem.W.nsIn K mainGlobals "need_integer" = some (some (.ref f3))) (l3 : K.lookup f3 = some ⟨oc3, od3, .func (PySem.W.fnOf "need_integer" "need_integer" (defArgs s_need_integer) (defBody s_need_integer) (defScope s_need_integer) .none kV3 dc3 pm3 an3 cd3 ct3), sl3⟩) (c3 : PySem.W.codeIn K cd3 "need_integer" = true) (k3 : PySem.W.keepIn K (.ref f3) = true)
    (a4 : PySem.W.nsIn K mainGlobals "sent_on" = some (some (.ref f4))) (l4 : K.lookup f4 = some ⟨oc4, od4, .func (PySem.W.fnOf "sent_on" "sent_on" (defArgs s_sent_on) (defBody s_sent_on) (defScope s_sent_on) .none kV4 dc4 pm4 an4 cd4 ct4), sl4⟩) (c4 : PySem.W.codeIn K cd4 "sent_on" = true) (k4 : PySem.W.keepIn K (.ref f4) = true)
    (a5 : PySem.W.nsIn K mainGlobals "are_lefts" = some (some (.ref f5))) (l5 : K.lookup f5 = some ⟨oc5, od5, .func (PySem.W.fnOf "are_lefts" "are_lefts" (defArgs s_are_lefts) (defBody s_are_lefts) (defScope s_are_lefts) .none kV5 dc5 pm5 an5 cd5 ct5), sl5⟩) (c5 : PySem.W.codeIn K cd5 "are_lefts" = true) (k5 : PySem.W.keepIn K (.ref f5) = true)
    (a6 : PySem.W.nsIn K mainGlobals "need_lefts" = some (some (.ref f6))) (l6 : K.lookup f6 = some ⟨oc6, od6, .func (PySem.W.fnOf "need_lefts" "need_lefts" (defArgs s_need_lefts) (defBody s_need_lefts) (defScope s_need_lefts) .none kV6 dc6 pm6 an6 cd6 ct6), sl6⟩) (c6 : PySem.W.codeIn K cd6 "need_lefts" = true) (k6 : PySem.W.keepIn K (.ref f6) = true)
    (a7 : PySem.W.nsIn K mainGlobals "_need_field" = some (some (.ref f7))) (l7 : K.lookup f7 = some ⟨oc7, od7, .func (PySem.W.fnOf "_need_field" "_need_field" (defArgs s__need_field) (defBody s__need_field) (defScope s__need_field) .none kV7 dc7 pm7 an7 cd7 ct7), sl7⟩) (c7 : PySem.W.codeIn K cd7 "_need_field" = true) (k7 : PySem.W.keepIn K (.ref f7) = true)
    (a8 : PySem.W.nsIn K mainGlobals "_law_genie" = some (some (.ref f8))) (l8 : K.lookup f8 = some ⟨oc8, od8, .func (PySem.W.fnOf "_law_genie" "_law_genie" (defArgs s__law_genie) (defBody s__law_genie) (defScope s__law_genie) .none kV8 dc8 pm8 an8 cd8 ct8), sl8⟩) (c8 : PySem.W.codeIn K cd8 "_law_genie" = true) (k8 : PySem.W.keepIn K (.ref f8) = true)
    (a9 : PySem.W.nsIn K mainGlobals "_law_rub" = some (some (.ref f9))) (l9 : K.lookup f9 = some ⟨oc9, od9, .func (PySem.W.fnOf "_law_rub" "_law_rub" (defArgs s__law_rub) (defBody s__law_rub) (defScope s__law_rub) .none kV9 dc9 pm9 an9 cd9 ct9), sl9⟩) (c9 : PySem.W.codeIn K cd9 "_law_rub" = true) (k9 : PySem.W.keepIn K (.ref f9) = true)
    (a10 : PySem.W.nsIn K mainGlobals "_law_pick" = some (some (.ref f10))) (l10 : K.lookup f10 = some ⟨oc10, od10, .func (PySem.W.fnOf "_law_pick" "_law_pick" (defArgs s__law_pick) (defBody s__law_pick) (defScope s__law_pick) .none kV10 dc10 pm10 an10 cd10 ct10), sl10⟩) (c10 : PySem.W.codeIn K cd10 "_law_pick" = true) (k10 : PySem.W.keepIn K (.ref f10) = true)
    (a11 : PySem.W.nsIn K mainGlobals "_law_lefts" = some (some (.ref f11))) (l11 : K.lookup f11 = some ⟨oc11, od11, .func (PySem.W.fnOf "_law_lefts" "_law_lefts" (defArgs s__law_lefts) (defBody s__law_lefts) (defScope s__law_lefts) .none kV11 dc11 pm11 an11 cd11 ct11), sl11⟩) (c11 : PySem.W.codeIn K cd11 "_law_lefts" = true) (k11 : PySem.W.keepIn K (.ref f11) = true)
    (a12 : PySem.W.nsIn K mainGlobals "_law_played" = some (some (.ref f12))) (l12 : K.lookup f12 = some ⟨oc12, od12, .func (PySem.W.fnOf "_law_played" "_law_played" (defArgs s__law_played) (defBody s__law_played) (defScope s__law_played) .none kV12 dc12 pm12 an12 cd12 ct12), sl12⟩) (c12 : PySem.W.codeIn K cd12 "_law_played" = true) (k12 : PySem.W.keepIn K (.ref f12) = true)
    (a13 : PySem.W.nsIn K mainGlobals "_are_unlike_pairs" = some (some (.ref f13))) (l13 : K.lookup f13 = some ⟨oc13, od13, .func (PySem.W.fnOf "_are_unlike_pairs" "_are_unlike_pairs" (defArgs s__are_unlike_pairs) (defBody s__are_unlike_pairs) (defScope s__are_unlike_pairs) .none kV13 dc13 pm13 an13 cd13 ct13), sl13⟩) (c13 : PySem.W.codeIn K cd13 "_are_unlike_pairs" = true) (k13 : PySem.W.keepIn K (.ref f13) = true)
    (a14 : PySem.W.nsIn K mainGlobals "need_wish" = some (some (.ref f14))) (l14 : K.lookup f14 = some ⟨oc14, od14, .func (PySem.W.fnOf "need_wish" "need_wish" (defArgs s_need_wish) (defBody s_need_wish) (defScope s_need_wish) .none kV14 dc14 pm14 an14 cd14 ct14), sl14⟩) (c14 : PySem.W.codeIn K cd14 "need_wish" = true) (k14 : PySem.W.keepIn K (.ref f14) = true)
    (a15 : PySem.W.nsIn K mainGlobals "granting_heaps" = some (some (.ref f15))) (l15 : K.lookup f15 = some ⟨oc15, od15, .func (PySem.W.fnOf "granting_heaps" "granting_heaps" (defArgs s_granting_heaps) (defBody s_granting_heaps) (defScope s_granting_heaps) .none kV15 dc15 pm15 an15 cd15 ct15), sl15⟩) (c15 : PySem.W.codeIn K cd15 "granting_heaps" = true) (k15 : PySem.W.keepIn K (.ref f15) = true)
    (a16 : PySem.W.nsIn K mainGlobals "start_for" = some (some (.ref f16))) (l16 : K.lookup f16 = some ⟨oc16, od16, .func (PySem.W.fnOf "start_for" "start_for" (defArgs s_start_for) (defBody s_start_for) (defScope s_start_for) .none kV16 dc16 pm16 an16 cd16 ct16), sl16⟩) (c16 : PySem.W.codeIn K cd16 "start_for" = true) (k16 : PySem.W.keepIn K (.ref f16) = true)
    (a17 : PySem.W.nsIn K mainGlobals "_law_wish" = some (some (.ref f17))) (l17 : K.lookup f17 = some ⟨oc17, od17, .func (PySem.W.fnOf "_law_wish" "_law_wish" (defArgs s__law_wish) (defBody s__law_wish) (defScope s__law_wish) .none kV17 dc17 pm17 an17 cd17 ct17), sl17⟩) (c17 : PySem.W.codeIn K cd17 "_law_wish" = true) (k17 : PySem.W.keepIn K (.ref f17) = true)
    (a18 : PySem.W.nsIn K mainGlobals "_law_are_heaps" = some (some (.ref f18))) (l18 : K.lookup f18 = some ⟨oc18, od18, .func (PySem.W.fnOf "_law_are_heaps" "_law_are_heaps" (defArgs s__law_are_heaps) (defBody s__law_are_heaps) (defScope s__law_are_heaps) .none kV18 dc18 pm18 an18 cd18 ct18), sl18⟩) (c18 : PySem.W.codeIn K cd18 "_law_are_heaps" = true) (k18 : PySem.W.keepIn K (.ref f18) = true)
    (a19 : PySem.W.nsIn K mainGlobals "_law_is_granted" = some (some (.ref f19))) (l19 : K.lookup f19 = some ⟨oc19, od19, .func (PySem.W.fnOf "_law_is_granted" "_law_is_granted" (defArgs s__law_is_granted) (defBody s__law_is_granted) (defScope s__law_is_granted) .none kV19 dc19 pm19 an19 cd19 ct19), sl19⟩) (c19 : PySem.W.codeIn K cd19 "_law_is_granted" = true) (k19 : PySem.W.keepIn K (.ref f19) = true)
    (a20 : PySem.W.nsIn K mainGlobals "law" = some (some (.ref f20))) (l20 : K.lookup f20 = some ⟨oc20, od20, .func (PySem.W.fnOf "law" "law" (defArgs s_law) (defBody s_law) (defScope s_law) .none kV20 dc20 pm20 an20 cd20 ct20), sl20⟩) (c20 : PySem.W.codeIn K cd20 "law" = true) (k20 : PySem.W.keepIn K (.ref f20) = true)
    (z_int : PySem.W.nsIn K mainGlobals "int" = some none)
    (z_bool : PySem.W.nsIn K mainGlobals "bool" = some none)
    (z_len : PySem.W.nsIn K mainGlobals "len" = some none)
    (z_all : PySem.W.nsIn K mainGlobals "all" = some none)
    (z_any : PySem.W.nsIn K mainGlobals "any" = some none)
    (z_list : PySem.W.nsIn K mainGlobals "list" = some none)
    (z_tuple : PySem.W.nsIn K mainGlobals "tuple" = some none)
    (z_isinstance : PySem.W.nsIn K mainGlobals "isinstance" = some none)
    (z_min : PySem.W.nsIn K mainGlobals "min" = some none)
    (z_range : PySem.W.nsIn K mainGlobals "range" = some none)
    (z_enumerate : PySem.W.nsIn K mainGlobals "enumerate" = some none)
    (z_set : PySem.W.nsIn K mainGlobals "set" = some none)
    (z_sorted : PySem.W.nsIn K mainGlobals "sorted" = some none)
    (z_abs : PySem.W.nsIn K mainGlobals "abs" = some none)
    (z_repr : PySem.W.nsIn K mainGlobals "repr" = some none)
    (z_dict : PySem.W.nsIn K mainGlobals "dict" = some none)
    (z_comb : PySem.W.nsIn K mainGlobals "comb" = some (some (.builtin "math.comb")))
    {t_FARTHEST : Tok} (z_FARTHEST : PySem.W.nsIn K mainGlobals "FARTHEST" = some (some (.int 1000000 t_FARTHEST)))
    {t_MOST_LEFTS : Tok} (z_MOST_LEFTS : PySem.W.nsIn K mainGlobals "MOST_LEFTS" = some (some (.int 400 t_MOST_LEFTS)))
    {t_FARTHEST_LOW : Tok} (z_FARTHEST_LOW : PySem.W.nsIn K mainGlobals "FARTHEST_LOW" = some (some (.int 999900 t_FARTHEST_LOW)))
    {t_MOST_WIDE : Tok} (z_MOST_WIDE : PySem.W.nsIn K mainGlobals "MOST_WIDE" = some (some (.int 80 t_MOST_WIDE)))
    {t_MOST_TICKS : Tok} (z_MOST_TICKS : PySem.W.nsIn K mainGlobals "MOST_TICKS" = some (some (.int 10 t_MOST_TICKS)))
    : ∃ fd : FuncData, (∀ (s : Shared) (v : Value), BindsTo s fd ⟨[v], []⟩ [("script", v)]) ∧ ∀ base : Heap, K.In base → base.Ns mainGlobals mg → FnG l.prog w K mg base CX0 7 fa fd ["script"] (spLaw K) := by
  have e := hfa.symm.trans (PySem.W.mg_of X G a20)
  cases e
  have F0 := fun_mk (st := s_is_integer) l0 c0 k0
  have b0 := F0.binds (ps := ["value"]) fun _ _ _ _ _ _ us hl => match us, hl with | [_], _ => rfl
  have g0 := PySem.W.mg_of X G a0
  have F1 := fun_mk (st := s_is_within) l1 c1 k1
  have b1 := F1.binds (ps := ["value", "least", "most"]) fun _ _ _ _ _ _ us hl => match us, hl with | [_, _, _], _ => rfl
  have g1 := PySem.W.mg_of X G a1
  have F2 := fun_mk (st := s_are_integers) l2 c2 k2
  have b2 := F2.binds (ps := ["value", "many"]) fun _ _ _ _ _ _ us hl => match us, hl with | [_, _], _ => rfl
  have g2 := PySem.W.mg_of X G a2
  have F3 := fun_mk (st := s_need_integer) l3 c3 k3
  have b3 := F3.binds (ps := ["value", "part", "least", "most"]) fun _ _ _ _ _ _ us hl => match us, hl with | [_, _, _, _], _ => rfl
  have g3 := PySem.W.mg_of X G a3
  have F4 := fun_mk (st := s_sent_on) l4 c4 k4
  have b4 := F4.binds (ps := ["heaps", "lefts"]) fun _ _ _ _ _ _ us hl => match us, hl with | [_, _], _ => rfl
  have g4 := PySem.W.mg_of X G a4
  have F5 := fun_mk (st := s_are_lefts) l5 c5 k5
  have b5 := F5.binds (ps := ["value"]) fun _ _ _ _ _ _ us hl => match us, hl with | [_], _ => rfl
  have g5 := PySem.W.mg_of X G a5
  have F6 := fun_mk (st := s_need_lefts) l6 c6 k6
  have b6 := F6.binds (ps := ["value"]) fun _ _ _ _ _ _ us hl => match us, hl with | [_], _ => rfl
  have g6 := PySem.W.mg_of X G a6
  have F7 := fun_mk (st := s__need_field) l7 c7 k7
  have b7 := F7.binds (ps := ["low", "high", "ticks"]) fun _ _ _ _ _ _ us hl => match us, hl with | [_, _, _], _ => rfl
  have g7 := PySem.W.mg_of X G a7
  have F8 := fun_mk (st := s__law_genie) l8 c8 k8
  have b8 := F8.binds (ps := ["script"]) fun _ _ _ _ _ _ us hl => match us, hl with | [_], _ => rfl
  have g8 := PySem.W.mg_of X G a8
  have F9 := fun_mk (st := s__law_rub) l9 c9 k9
  have b9 := F9.binds (ps := ["genie", "many"]) fun _ _ _ _ _ _ us hl => match us, hl with | [_, _], _ => rfl
  have g9 := PySem.W.mg_of X G a9
  have F10 := fun_mk (st := s__law_pick) l10 c10 k10
  have b10 := F10.binds (ps := ["genie", "some"]) fun _ _ _ _ _ _ us hl => match us, hl with | [_, _], _ => rfl
  have g10 := PySem.W.mg_of X G a10
  have F11 := fun_mk (st := s__law_lefts) l11 c11 k11
  have b11 := F11.binds (ps := ["genie"]) fun _ _ _ _ _ _ us hl => match us, hl with | [_], _ => rfl
  have g11 := PySem.W.mg_of X G a11
  have F12 := fun_mk (st := s__law_played) l12 c12 k12
  have b12 := F12.binds (ps := ["heaps", "lefts", "ticks"]) fun _ _ _ _ _ _ us hl => match us, hl with | [_, _, _], _ => rfl
  have g12 := PySem.W.mg_of X G a12
  have F13 := fun_mk (st := s__are_unlike_pairs) l13 c13 k13
  have b13 := F13.binds (ps := ["value"]) fun _ _ _ _ _ _ us hl => match us, hl with | [_], _ => rfl
  have g13 := PySem.W.mg_of X G a13
  have F14 := fun_mk (st := s_need_wish) l14 c14 k14
  have b14 := F14.binds (ps := ["lefts", "wish", "colour", "low", "high", "ticks"]) fun _ _ _ _ _ _ us hl => match us, hl with | [_, _, _, _, _, _], _ => rfl
  have g14 := PySem.W.mg_of X G a14
  have F15 := fun_mk (st := s_granting_heaps) l15 c15 k15
  have b15 := F15.binds (ps := ["lefts", "wished", "colour", "windows"]) fun _ _ _ _ _ _ us hl => match us, hl with | [_, _, _, _], _ => rfl
  have g15 := PySem.W.mg_of X G a15
  have F16 := fun_mk (st := s_start_for) l16 c16 k16
  have b16 := F16.binds (ps := ["lefts", "wish", "colour", "low", "high", "ticks"]) fun _ _ _ _ _ _ us hl => match us, hl with | [_, _, _, _, _, _], _ => rfl
  have g16 := PySem.W.mg_of X G a16
  have F17 := fun_mk (st := s__law_wish) l17 c17 k17
  have b17 := F17.binds (ps := ["genie", "colour", "low", "high", "ticks"]) fun _ _ _ _ _ _ us hl => match us, hl with | [_, _, _, _, _], _ => rfl
  have g17 := PySem.W.mg_of X G a17
  have F18 := fun_mk (st := s__law_are_heaps) l18 c18 k18
  have b18 := F18.binds (ps := ["value", "colour"]) fun _ _ _ _ _ _ us hl => match us, hl with | [_, _], _ => rfl
  have g18 := PySem.W.mg_of X G a18
  have F19 := fun_mk (st := s__law_is_granted) l19 c19 k19
  have b19 := F19.binds (ps := ["heaps", "lefts", "wish", "low", "high", "ticks"]) fun _ _ _ _ _ _ us hl => match us, hl with | [_, _, _, _, _, _], _ => rfl
  have g19 := PySem.W.mg_of X G a19
  have F20 := fun_mk (st := s_law) l20 c20 k20
  have T : TxtC mg := { m_comb := PySem.W.mg_of X G z_comb, c_FARTHEST := ⟨_, PySem.W.mg_of X G z_FARTHEST, ⟨_, rfl⟩⟩, c_MOST_LEFTS := ⟨_, PySem.W.mg_of X G z_MOST_LEFTS, ⟨_, rfl⟩⟩, c_FARTHEST_LOW := ⟨_, PySem.W.mg_of X G z_FARTHEST_LOW, ⟨_, rfl⟩⟩, c_MOST_WIDE := ⟨_, PySem.W.mg_of X G z_MOST_WIDE, ⟨_, rfl⟩⟩, c_MOST_TICKS := ⟨_, PySem.W.mg_of X G z_MOST_TICKS, ⟨_, rfl⟩⟩, m_int := PySem.W.mg_none_of X G z_int, m_bool := PySem.W.mg_none_of X G z_bool, m_len := PySem.W.mg_none_of X G z_len, m_all := PySem.W.mg_none_of X G z_all, m_any := PySem.W.mg_none_of X G z_any, m_list := PySem.W.mg_none_of X G z_list, m_tuple := PySem.W.mg_none_of X G z_tuple, m_isinstance := PySem.W.mg_none_of X G z_isinstance, m_min := PySem.W.mg_none_of X G z_min, m_range := PySem.W.mg_none_of X G z_range, m_enumerate := PySem.W.mg_none_of X G z_enumerate, m_set := PySem.W.mg_none_of X G z_set, m_sorted := PySem.W.mg_none_of X G z_sorted, m_abs := PySem.W.mg_none_of X G z_abs, m_repr := PySem.W.mg_none_of X G z_repr, m_dict := PySem.W.mg_none_of X G z_dict }
  have T0 : Txt mg := ⟨T.m_int, T.m_len, T.m_abs⟩

  refine ⟨PySem.W.fnOf "law" "law" (defArgs s_law) (defBody s_law) (defScope s_law) .none kV20 dc20 pm20 an20 cd20 ct20, fun s v => .of_eq rfl, fun base _ _ => ?_⟩
  have C_is_integer : Cal l.prog w K mg base CX0 1 "is_integer" spIsInt := ⟨f0, _, _, ok_is_integer F0 T, g0, k0, b0⟩
  have C_is_within : Cal l.prog w K mg base CX0 2 "is_within" spWithin := ⟨f1, _, _, ok_is_within F1 C_is_integer, g1, k1, b1⟩
  have C_are_integers : Cal l.prog w K mg base CX0 2 "are_integers" spAreInts := ⟨f2, _, _, ok_are_integers F2 T C_is_integer, g2, k2, b2⟩
  have C_need_integer : Cal l.prog w K mg base CX0 3 "need_integer" spNeed := ⟨f3, _, _, ok_need_integer F3 C_is_within, g3, k3, b3⟩
  have C_sent_on : Cal l.prog w K mg base CX0 1 "sent_on" spSent := ⟨f4, _, _, ok_sent_on F4 T, g4, k4, b4⟩
  have C_are_lefts : Cal l.prog w K mg base CX0 3 "are_lefts" spAreLefts := ⟨f5, _, _, ok_are_lefts F5 T C_is_within, g5, k5, b5⟩
  have C_need_lefts : Cal l.prog w K mg base CX0 4 "need_lefts" spNeedLefts := ⟨f6, _, _, ok_need_lefts F6 C_are_lefts, g6, k6, b6⟩
  have C__need_field : Cal l.prog w K mg base CX0 4 "_need_field" spNeedField := ⟨f7, _, _, ok_need_field F7 T C_need_integer, g7, k7, b7⟩
  have C__law_genie : Cal l.prog w K mg base CX0 1 "_law_genie" (spRiddle K) := ⟨f8, _, _, ok_riddle F8 T0, g8, k8, b8⟩
  have C__law_rub : Cal l.prog w K mg base CX0 1 "_law_rub" spDraw := ⟨f9, _, _, ok_shake F9 T0, g9, k9, b9⟩
  have C__law_pick : Cal l.prog w K mg base CX0 2 "_law_pick" spPick := ⟨f10, _, _, ok_pick F10 T0 C__law_rub, g10, k10, b10⟩
  have C__law_lefts : Cal l.prog w K mg base CX0 3 "_law_lefts" spLeftsN := ⟨f11, _, _, ok_leftsN F11 T C__law_rub, g11, k11, b11⟩
  have C__law_played : Cal l.prog w K mg base CX0 1 "_law_played" spPlayed := ⟨f12, _, _, ok_played F12 T, g12, k12, b12⟩
  have C__are_unlike_pairs : Cal l.prog w K mg base CX0 3 "_are_unlike_pairs" spUnlike := ⟨f13, _, _, ok_unlike F13 T C_are_integers, g13, k13, b13⟩
  have C_need_wish : Cal l.prog w K mg base CX0 5 "need_wish" spNeedWish := ⟨f14, _, _, ok_need_wish F14 T C_need_lefts C__are_unlike_pairs C_need_integer C__need_field C_is_within, g14, k14, b14⟩
  have C_granting_heaps : Cal l.prog w K mg base CX0 2 "granting_heaps" spGrant := ⟨f15, _, _, ok_granting F15 T C_sent_on, g15, k15, b15⟩
  have C_start_for : Cal l.prog w K mg base CX0 6 "start_for" spStartFor := ⟨f16, _, _, ok_start_for F16 T C_need_wish C_granting_heaps, g16, k16, b16⟩
  have CK_start_for_ticks_high_low_colour_wish_lefts : CalK l.prog w K mg base CX0 6 "start_for" ["ticks", "high", "low", "colour", "wish", "lefts"] [5, 4, 3, 2, 1, 0] spStartFor := ⟨f16, _, _, ok_start_for F16 T C_need_wish C_granting_heaps, g16, k16, kwBinds (ks := ["ticks", "high", "low", "colour", "wish", "lefts"]) (ix := [5, 4, 3, 2, 1, 0]) F16 fun _ _ _ _ _ _ ws hl => match ws, hl with | [_, _, _, _, _, _], _ => rfl⟩
  have C__law_wish : Cal l.prog w K mg base CX0 3 "_law_wish" spWish := ⟨f17, _, _, ok_wish F17 T C__law_rub C__law_pick, g17, k17, b17⟩
  have C__law_are_heaps : Cal l.prog w K mg base CX0 1 "_law_are_heaps" spAreHeapsL := ⟨f18, _, _, ok_are_heapsL F18 T, g18, k18, b18⟩
  have C__law_is_granted : Cal l.prog w K mg base CX0 2 "_law_is_granted" spGrantedL := ⟨f19, _, _, ok_granted F19 T C__law_played, g19, k19, b19⟩
  exact ok_law F20 T C__law_genie C__law_rub C__law_pick C__law_wish C__law_lefts C__law_are_heaps C__law_is_granted C_start_for CK_start_for_ticks_high_low_colour_wish_lefts
end K45
open PySem PySem.W PyProof.Rows
set_option maxHeartbeats 0 in
theorem PySem.Challenge.cw_nodice_k45_starts_that_grant_wishes_holds : PySem.Challenge.rw_nodice_k45_starts_that_grant_wishes.Holds := by
  w_on; o_law; k_head; (case hw => w_witness2)
  k_fill
  refine Nd.walkG (l := PySem.Challenge.rw_nodice_k45_starts_that_grant_wishes) (n := 63) (k := 7) (x := "script") (CX := fun _ => L2.CX0) (sp := fun w => K45.spLaw _) rfl (by decide) rfl ⟨rfl, by decide, by decide⟩ (fun w h Y => PySem.W.kIn_of Y) ?F (fun _ _ a ns hl _ hS => ⟨a, ns, rfl, hS, hl, fun _ => rfl⟩) (fun _ _ _ _ _ h => h)
  case F =>
    intro w mg fa h KX G hmg
    refine' K45.all_mk KX G hmg ?a0 ?l0 ?c0 ?k0 ?a1 ?l1 ?c1 ?k1 ?a2 ?l2 ?c2 ?k2 ?a3 ?l3 ?c3 ?k3 ?a4 ?l4 ?c4 ?k4 ?a5 ?l5 ?c5 ?k5 ?a6 ?l6 ?c6 ?k6 ?a7 ?l7 ?c7 ?k7 ?a8 ?l8 ?c8 ?k8 ?a9 ?l9 ?c9 ?k9 ?a10 ?l10 ?c10 ?k10 ?a11 ?l11 ?c11 ?k11 ?a12 ?l12 ?c12 ?k12 ?a13 ?l13 ?c13 ?k13 ?a14 ?l14 ?c14 ?k14 ?a15 ?l15 ?c15 ?k15 ?a16 ?l16 ?c16 ?k16 ?a17 ?l17 ?c17 ?k17 ?a18 ?l18 ?c18 ?k18 ?a19 ?l19 ?c19 ?k19 ?a20 ?l20 ?c20 ?k20 ?z_int ?z_bool ?z_len ?z_all ?z_any ?z_list ?z_tuple ?z_isinstance ?z_min ?z_range ?z_enumerate ?z_set ?z_sorted ?z_abs ?z_repr ?z_dict ?z_comb ?z_FARTHEST ?z_MOST_LEFTS ?z_FARTHEST_LOW ?z_MOST_WIDE ?z_MOST_TICKS 
    (case a0 => k_is); (case l0 => k_is); (case c0 => k_is); (case k0 => k_is); (case a1 => k_is); (case l1 => k_is); (case c1 => k_is); (case k1 => k_is); (case a2 => k_is); (case l2 => k_is); (case c2 => k_is); (case k2 => k_is); (case a3 => k_is); (case l3 => k_is); (case c3 => k_is); (case k3 => k_is); (case a4 => k_is); (case l4 => k_is); (case c4 => k_is); (case k4 => k_is); (case a5 => k_is); (case l5 => k_is); (case c5 => k_is); (case k5 => k_is); (case a6 => k_is); (case l6 => k_is); (case c6 => k_is); (case k6 => k_is); (case a7 => k_is); (case l7 => k_is); (case c7 => k_is); (case k7 => k_is); (case a8 => k_is); (case l8 => k_is); (case c8 => k_is); (case k8 => k_is); (case a9 => k_is); (case l9 => k_is); (case c9 => k_is); (case k9 => k_is); (case a10 => k_is); (case l10 => k_is); (case c10 => k_is); (case k10 => k_is); (case a11 => k_is); (case l11 => k_is); (case c11 => k_is); (case k11 => k_is); (case a12 => k_is); (case l12 => k_is); (case c12 => k_is); (case k12 => k_is); (case a13 => k_is); (case l13 => k_is); (case c13 => k_is); (case k13 => k_is); (case a14 => k_is); (case l14 => k_is); (case c14 => k_is); (case k14 => k_is); (case a15 => k_is); (case l15 => k_is); (case c15 => k_is); (case k15 => k_is); (case a16 => k_is); (case l16 => k_is); (case c16 => k_is); (case k16 => k_is); (case a17 => k_is); (case l17 => k_is); (case c17 => k_is); (case k17 => k_is); (case a18 => k_is); (case l18 => k_is); (case c18 => k_is); (case k18 => k_is); (case a19 => k_is); (case l19 => k_is); (case c19 => k_is); (case k19 => k_is); (case a20 => k_is); (case l20 => k_is); (case c20 => k_is); (case k20 => k_is); (case z_int => k_is); (case z_bool => k_is); (case z_len => k_is); (case z_all => k_is); (case z_any => k_is); (case z_list => k_is); (case z_tuple => k_is); (case z_isinstance => k_is); (case z_min => k_is); (case z_range => k_is); (case z_enumerate => k_is); (case z_set => k_is); (case z_sorted => k_is); (case z_abs => k_is); (case z_repr => k_is); (case z_dict => k_is); (case z_comb => k_is); (case z_FARTHEST => k_is); (case z_MOST_LEFTS => k_is); (case z_FARTHEST_LOW => k_is); (case z_MOST_WIDE => k_is); (case z_MOST_TICKS => k_is)
