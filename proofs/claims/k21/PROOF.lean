import PyProof.Rows.All
import Wide.All
import OpenK.AllK
import Wide.FinOn
import HandS.ForMost
import HandS.Wide
import HandS.IsInst
import HandS.Gcd
import HandS.Style
import HandS.Flow
import HandS.NoneIn
import HandS.Defaults
import HandS.SetFor
import HandS.WideBits
import HandS.Codes
import HandS.Walk
import KE.KMathGC
import KE.KBits
import HandS.TupAny
import HandS.Zip
import KE.GoesMore
import HandS.ForExc
import HandS.ExcInit
import HandS.ExcIs
import HandS.ExcValue
import HandS.Lambda
import HandS.EndTab
import KE.KExcIs
import HandS.ExcField
import KE.KNestM
import HandS.EndBits
import HandS.WordsExc
import HandS.FStr
import HandS.TupLen
import PyProof.ReprRoads
import PySem.Challenge.RW_nodice_k21_reaches_by_own_first_shares
set_option Elab.async false
set_option linter.all false
set_option maxRecDepth 100000
set_option maxHeartbeats 4000000
namespace Nd
open PySem PySem.Spec PyProof.Rows L2

/-! ### defs that may only be called where nothing is being shown -/
structure FnG (P : Program) (w : World) (K : PySem.W.Frag) (mg : Str → Option Value) (base : Heap)
    (CX : CXT) (k : Nat) (f : Addr) (fd : FuncData) (ps : List Str) (sp : Sp) : Prop where
  many : ∀ vs H Q E, sp vs H Q E → vs.length = ps.length
  go : ∀ (A : Around) (fr : List Env) (s : Shared) (H : Hp) (args : Args) (us : List Value)
    (vs : List V) (Q : VK) (E : XK), A.guards = some [] → Room k A →
    Env0 P w K mg base A fr s H → BindsTo s fd args (ps.zip us) → Vals vs us → sp vs H Q E →
    codeAny (model P w) A (.call (.ref f) args) (CR CX fr P w H s Q E) s

section
variable {P : Program} {w : World} {K : PySem.W.Frag} {mg : Str → Option Value} {base : Heap}
theorem FnG.ofOk {CX : CXT} {k : Nat} {f : Addr} {fd : FuncData} {ps : List Str} {sp : Sp}
    (F : FnOk P w K mg base CX k f fd ps sp) : FnG P w K mg base CX k f fd ps sp :=
  ⟨F.len, fun A fr s H args us vs Q E _ hr => F.run A fr s H args us vs Q E hr⟩

theorem okG {CX : CXT} {x qual : Str} {st : Stmt} {f : Addr} {fd : FuncData} {N ps : List Str}
    {k : Nat} {sp : Sp} (F : Fun K x qual st f fd) (S : FnScope N ps (defScope st))
    (many : ∀ vs H Q E, sp vs H Q E → vs.length = ps.length)
    (body : ∀ (cdv : Value) (A : Around) (fr : List Env) (s : Shared) (H : Hp) (vs : List V)
      (Q : VK) (E : XK),
      (cxOf CX P w K mg base N qual (defScope st) f cdv A fr s H E).A.guards = some [] →
      Room k (cxOf CX P w K mg base N qual (defScope st) f cdv A fr s H E).A → sp vs H Q E →
      ∃ t, PSs (cxOf CX P w K mg base N qual (defScope st) f cdv A fr s H E) (defBody st) t ∧
        t { nx := fun _ H' => Q .non H', rt := Q } (start N vs) H) :
    FnG P w K mg base CX (k + 1) f fd ps sp := by
  obtain ⟨oc, od, kV, doc, pm, an, cdv, ct, osl, rfl, lk, hcd⟩ := F.ex
  refine ⟨many, ?_⟩
  intro A fr s H args us vs Q E hG room env bind rel want
  have inK := env.mod.kin.keeps fun b o e => (env.bs b o e).1
  have noL := env.mod.nolimit.keeps fun b o e => (env.bs b o e).1
  have kinds : ∀ y ∈ ps.zip us, (defScope st).names.lookup y.1 = some .local ∨
      ((defScope st).names.lookup y.1 = some .cell ∧
        ((cellsFrom (s.heap.objs.size + 1) (defScope st).names []).lookup y.1).isSome = true) := by
    rintro ⟨n, v⟩ hy
    cases S.par n (List.of_mem_zip hy).1 with
    | inl q => exact .inl q
    | inr q => exact .inr ⟨q, PySem.W.cellsFrom_some _ _ _ (.inl q)⟩
  apply codeAny_call_function room.depth (inK _ _ lk) rfl S.co S.gen rfl
    (PySem.W.codeRec_of inK hcd) (bind _ _ _ _ ?_)
  apply wpAny_newFunctionEnv_cells S.kind kinds
  rintro env' rfl s1 x
  refine ⟨noL.keeps x.toInCall.keep, codeAny_func ?_⟩
  obtain ⟨t, ht, hq⟩ := body cdv A fr s H vs Q E hG (room.deeper _) want
  have I := inv_start (CX := CX) (E := E) S room.hd env (many _ _ _ _ want) rel x
  refine wpAny_mono (ht.run [] s1 (start N vs) H _ I hq) ?_ fun e s' hs => hs
  intro fl s' hs
  cases fl with
  | brk => exact False.elim hs.choose_spec.choose_spec.2
  | cont => exact False.elim hs.choose_spec.choose_spec.2
  | next =>
    obtain ⟨σ', H', J, q⟩ := hs
    exact ⟨V.non, H', J.os, J.bare, J.base, J.hok, rfl, q⟩
  | ret u =>
    obtain ⟨v, σ', H', J, rv, q⟩ := hs
    exact ⟨v, H', J.os, J.bare, J.base, J.hok, rv, q⟩
end

section
variable {X : Cx} {CX : CXT} {k : Nat} {f : Addr} {fd : FuncData} {ps : List Str} {sp : Sp}
  {dvs : List V} {ds : List Value} {E : XK} {x : Str} {p pos : Pos} {e : Expr} {es : List Expr} {t : TA}
theorem goG {pins : List (Addr × Obj)} {σ : L2.St} {H : Hp} {s : Shared} {Q : VK} {us : List Value}
    {vs : List V} (F : FnG X.prog X.w X.K X.mg X.base CX k f fd ps sp) (hG : X.A.guards = some [])
    (hr : Room k X.A) (hb : Binds X.K fd ps ds) (hd : Vals dvs ds) (hx : Passes CX X E)
    (I : Inv X pins σ H s) (r : Vals vs us) (h : sp (vs ++ dvs) H Q E) :
    wpAny (model X.prog X.w) X.A (call (.ref f) us) (EP X pins σ Q) X.xe s := by
  have r2 := r.append hd
  have hl : (us ++ ds).length = ps.length := r2.length.symm.trans (F.many _ _ _ _ h)
  have run := F.go X.A X.stack s H ⟨us, []⟩ (us ++ ds) (vs ++ dvs) Q E hG hr I.env0
    (hb s us I.kIn hl) r2 h
  refine wpAny_call (codeAny_mono run ?_)
  rintro (e' | fl) s' hq
  · exact hx pins σ H s e' s' I hq
  · cases fl with
    | ret u => exact I.after hq
    | next => exact hq.elim
    | brk => exact hq.elim
    | cont => exact hq.elim

theorem pe_callG (F : FnG X.prog X.w X.K X.mg X.base CX k f fd ps sp) (hG : X.A.guards = some [])
    (hr : Room k X.A) (hg : Gl X x) (hm : X.mg x = some (.ref f))
    (hk : PySem.W.keepIn X.K (.ref f) = true) (hb : Binds X.K fd ps ds) (hd : Vals dvs ds)
    (hx : Passes CX X E) (ha : PA X (e :: es) t)
    (hdb : (x == ("__debug__" : Str)) = false := by decide)
    (he : starEach (e :: es) X.env = (false, eval e X.env) :: starEach es X.env := by rfl)
    (hpl : (backTo pos (starEach es X.env)).any (·.1) = false := by rfl) :
    PE X (.Call (.Name x p) (e :: es) [] pos) (tCall sp dvs E t) := by
  constructor
  intro pins s σ H Q I h
  apply wpAny_Call_Name_kw (ld_glob I hg hm ?_ hdb)
  apply PySem.W.callWith_K (h₀ := X.base) I.ok.mod.kin hk ?_ he hpl
  apply thn (ha.run pos pins s σ H _ I h)
  rintro us s1 ⟨vs, H1, I1, r, q⟩
  exact ⟨I1.kIn, goG F hG hr hb hd hx I1 r q⟩
end

/-! ### the law's own call -/
theorem entG {P : Program} {w : World} {K : PySem.W.Frag} {mg mb : Str → Option Value} {CX : CXT}
    {k : Nat} {fa a : Addr} {fd : FuncData} {x : Str} {sp : Sp} {s₁ : Shared} {vs : List Value}
    {ns : List Int} (KX : K.In s₁.heap) (hns : s₁.heap.Ns mainGlobals mg)
    (hb : s₁.heap.Ns builtinsNs mb) (hbb : ∀ y : Str, y ≠ "__name__" → mb y = bootBuiltins y)
    (hlim : s₁.heap.NoLimit) (hg : s₁.gens = #[])
    (ha : s₁.heap.get? a = some { cls := .type "list", data := .seq vs.toArray })
    (hi : IntsAre vs ns) (hl : ns.length ≤ sizeLine) (hr : Room k callerA)
    (F : ∀ base : Heap, K.In base → base.Ns mainGlobals mg → FnG P w K mg base CX k fa fd [x] sp)
    (hbind : ∀ (s : Shared) (u : Value), BindsTo s fd ⟨[u], []⟩ [(x, u)])
    (hsp : ∀ H : Hp, Only H → SqL K H a (ns.map V.int) → sp [.ref a] H (fun v _ => v = .bl true) E0)
    (hCX : ∀ H e s', CX [] H s₁ E0 e s' → False) :
    codeAny (model P w) callerA (.call (.ref fa) ⟨[.ref a], []⟩)
      (fun r s' => r = .ok (.ret (.bool true)) ∧ OldK s₁.heap s'.heap ∧ s'.os = s₁.os ∧
        AllBare s'.gens) s₁ := by
  have main : ∀ H : Hp, Only H → SqL K H a (ns.map V.int) → HOk P w H s₁.heap →
      (∀ b, H b ≠ none → b = a) → (H a ≠ none → K.lookup a = none) →
      codeAny (model P w) callerA (.call (.ref fa) ⟨[.ref a], []⟩)
        (fun r s' => r = .ok (.ret (.bool true)) ∧ OldK s₁.heap s'.heap ∧ s'.os = s₁.os ∧
          AllBare s'.gens) s₁ := by
    intro H only sq ok one off
    have cases' : ∀ b, H b = none ∨ b = a := fun b => by
      by_cases z : H b = none
      · exact .inl z
      · exact .inr (one b z)
    have dictFree : ∀ {b : Addr} {o : Obj} {es : Array DictEntry} {ep : Nat},
        s₁.heap.get? b = some o → o.data = .dict es ep → H b = none := by
      intro b o es ep e d
      rcases cases' b with z | z
      · exact z
      · subst z
        obtain rfl := Option.some.inj (e.symm.trans ha)
        cases (show Data.seq vs.toArray _ = Data.dict es ep from d)
    have keepNs : ∀ {b : Addr} {m : Str → Option Value}, s₁.heap.Ns b m →
        (hidT s₁.heap H).Ns b m := by
      rintro b m ⟨o, es, ep, e, d, r⟩
      exact ⟨o, es, ep, hidT_get e (dictFree e d), d, r⟩
    have inH : K.In (hidT s₁.heap H) := by
      intro b o e
      refine hidT_get (KX b o e) ?_
      rcases cases' b with z | z
      · exact z
      · subst z
        by_cases y : H b = none
        · exact y
        · cases (off y).symm.trans e
    obtain ⟨mc, l1, l2⟩ := hlim
    have md : Mod K mg (hidT s₁.heap H) :=
      ⟨inH, keepNs hns, ⟨mb, keepNs hb, hbb⟩, mc, keepNs l1, l2⟩
    have env : Env0 P w K mg (hidT s₁.heap H) callerA [] s₁ H :=
      { frames := rfl, mod := md, bs := fun b o e => of_hidT e
        bsz := Nat.le_of_eq (hidT_size _ _), funs := trivial
        frf := fun b hb => (List.not_mem_nil (show b ∈ ([] : List Addr) from hb)).elim
        hok := ok, bare := .of_eq hg }
    have run := (F _ inH (keepNs hns)).go callerA [] s₁ H ⟨[.ref a], []⟩ [.ref a] [.ref a] _ _ rfl hr
      env (hbind s₁ (.ref a)) (.cons rfl .nil) (hsp H only sq)
    refine codeAny_mono run ?_
    rintro (e | fl) s' h
    · exact (hCX H e s' h).elim
    cases fl with
    | next => exact h.elim
    | brk => exact h.elim
    | cont => exact h.elim
    | ret u =>
      obtain ⟨v, H', os, bare, un, ok', rv, rfl⟩ := h
      cases (show u = Value.bool true from rv)
      refine ⟨rfl, .of_keep fun b o e => ?_, os, bare⟩
      rcases only b with z | ⟨ob, xs, z⟩
      · exact un.keep b o e z (fun m => (List.not_mem_nil (show b ∈ ([] : List Addr) from m)).elim) (by simp)
      · have old := (ok b _ z).1
        have new := (ok' b _ (un.frzs b ob _ z)).1
        exact new.trans (old.symm.trans e)
  have rv := vals_ints hi
  by_cases hk : K.lookup a = none
  · let S : Obj := { cls := .type "list", data := .seq vs.toArray }
    let H : Hp := fun b => if b = a then some (.frz S (.lst (ns.map V.int))) else none
    have at' : H a = some (.frz S (.lst (ns.map V.int))) := if_pos rfl
    have off : ∀ b, b ≠ a → H b = none := fun b n => if_neg n
    refine main H (fun b => ?_) (.inl (.inr ⟨S, at'⟩)) (fun b u z => ?_) (fun b z => ?_) fun _ => hk
    · by_cases q : b = a
      · exact .inr ⟨_, _, q ▸ at'⟩
      · exact .inl (off b q)
    · by_cases q : b = a
      · subst q
        obtain rfl := Option.some.inj (at'.symm.trans z)
        exact ⟨ha, by rw [List.length_map]; exact hl, vs, _, rv, ha⟩
      · cases (off b q).symm.trans z
    · by_cases q : b = a
      · exact q
      · exact absurd (off b q) z
  · obtain ⟨o, e⟩ := Option.ne_none_iff_exists'.mp hk
    obtain rfl := Option.some.inj ((KX a o e).symm.trans ha)
    refine main (fun _ => none) (fun _ => .inl rfl) (.inr ⟨_, vs.toArray, _, e, rfl, rfl, rfl, ?_, ?_⟩)
      (fun b u z => nomatch (show (none : Option HO) = some u from z)) (fun b z => absurd rfl z) fun z => absurd rfl z
    · rw [List.size_toArray, hi.length]
      exact hl
    · simpa using rv

theorem walkG {l : PySem.W.OpenLaw} {n k : Nat} {q : Program} {loose : List Str}
    {XP : (Str → Option Value) → Heap → Prop} {YP : World → Heap → Prop} {d : DefRec}
    {K : Params → PySem.W.Frag} {CX : World → CXT} {sp : World → Sp} {x : Str}
    (hn : l.most = some n) (hn2 : n ≤ sizeLine) (hdf : d.params.defaults = []) (hr : Room k callerA)
    (hY : ∀ (w : World) (h : Heap), YP w h → (K w.params).In h)
    (F : ∀ (w : World) (mg : Str → Option Value) (fa : Addr) (h : Heap), (K w.params).In h →
      h.Ns mainGlobals mg → mg d.name = some (.ref fa) →
      ∃ fd : FuncData, (∀ (s : Shared) (u : Value), BindsTo s fd ⟨[u], []⟩ [(x, u)]) ∧
        ∀ base : Heap, (K w.params).In base → base.Ns mainGlobals mg →
          FnG l.prog w (K w.params) mg base (CX w) k fa fd [x] (sp w))
    (hsp : ∀ (w : World) (H : Hp) (a : Addr) (ns : List Int), ns.length ≤ n → Only H →
      SqL (K w.params) H a (ns.map V.int) → sp w [.ref a] H (fun v _ => v = .bl true) E0)
    (hCX : ∀ (w : World) (H : Hp) (s : Shared) (e : Value) (s' : Shared), CX w [] H s E0 e s' → False) :
    PySem.W.WalkO q loose XP YP l.row.toRowW d [] (fun f vs => PySem.call f vs) := by
  apply Att.attach_call hn hdf
  intro w s₀ s₁ mg mb fa o pm cd doc a vs ns G Y _ _ _ hmg hobj hints hlen hg
  obtain ⟨fd, hb, hF⟩ := F w mg fa _ (hY w _ Y) G.T.g hmg
  exact entG (hY w _ Y) G.T.g G.T.b G.T.builtins G.T.nolimit hg hobj hints (Nat.le_trans hlen hn2) hr hF hb
    (fun H hO hS => hsp w H a ns hlen hO hS) (fun H e s' => hCX w H s₁ e s')
end Nd
namespace Nd
open PySem PySem.Spec PyProof.Rows L2
/-! ### repr of data -/
mutual
theorem noDict {K : PySem.W.Frag} {H : Hp} : ∀ {d : PyData} {v : V}, Dp K H v d → d.hasDict = false
  | .none, _, _ => rfl
  | .bool _, _, _ => rfl
  | .int _, _, _ => rfl
  | .str _, _, _ => rfl
  | .list ds, _, h => by
    cases h with
    | lst _ ha => simpa [PyData.hasDict] using noDicts ha
  | .tuple ds, _, h => by
    cases h with
    | tup _ ha => simpa [PyData.hasDict] using noDicts ha
  | .dict _, _, h => by cases h
theorem noDicts {K : PySem.W.Frag} {H : Hp} : ∀ {ds : List PyData} {vs : List V}, DpAll K H vs ds → PyData.hasDictAll ds = false
  | [], _, _ => rfl
  | d :: ds, _, h => by
    cases h with
    | cons h1 h2 => simp [PyData.hasDictAll, noDict h1, noDicts h2]
end
def rRepr (K : PySem.W.Frag) : List V → Hp → VK → Prop := fun vs H Q => ∃ (v : V) (d : PyData), vs = [v] ∧
  Dp K H v d ∧ d.showable = true ∧ d.depth ≤ 60 ∧ d.shown.length ≤ sizeLine ∧ Q (.str d.shown) H
theorem repr_leaf_bool {P : Program} {w : World} {A : Around} {E : Value → Shared → Prop} {s : Shared} {b : Bool} {Q : Value → Shared → Prop}
    (h : Q (.str (PyData.bool b).shown s.toks) { s with toks := s.toks + 1 }) : wpAny (model P w) A (call (.builtin "repr") [.bool b]) Q E s := by
  refine PySem.P.repr_of_bool ?_
  rw [PyData.shown_bool] at h
  exact h
theorem cr_repr {X : Cx} (hG : X.A.guards = some []) {k : Nat} (hr : Room k X.A) : CallR X (.builtin "repr") (rRepr X.K) := by
  intro pins s σ H xs us Q I r h
  obtain ⟨v, d, rfl, hd, hs, hdep, hz, q⟩ := h
  obtain ⟨u, rfl, ru⟩ := vals1 r
  have nd := noDict hd
  obtain ⟨as, rd⟩ := Dp.reads I d v u hd ru
  have fin : ∀ t tk, EP X pins σ Q (.str d.shown t) { s with toks := tk } := fun t tk => ⟨.str d.shown, H, I.tok tk, ⟨t, rfl⟩, q⟩
  cases hd with
  | non =>
    cases ru
    refine P.repr_of_none ?_
    have e := fin s.toks (s.toks + 1)
    rw [PyData.shown_none] at e
    exact e
  | bl b =>
    cases ru
    exact repr_leaf_bool (fin _ _)
  | int i =>
    obtain ⟨t, rfl⟩ := ru
    refine P.repr_of_int (by simpa [PyData.showable] using hs) ?_
    have e := fin s.toks (s.toks + 1)
    rw [PyData.shown_int] at e
    exact e
  | str x =>
    obtain ⟨t, rfl⟩ := ru
    rw [PyData.shown_str] at hz
    refine P.repr_of_str ?_ hz
    have e := fin s.toks (s.toks + 1)
    rw [PyData.shown_str] at e
    exact e
  | lst hl ha =>
    cases ru
    exact repr_of_reads' rd hs (fun e => by rw [nd] at e; cases e) hG (by have := hr.un; omega) (fun _ _ e => e)
      (fun h' t tk keep => ⟨.str _, H, I.kept keep, ⟨t, rfl⟩, q⟩) hz
  | tup hl ha =>
    cases ru
    exact repr_of_reads' rd hs (fun e => by rw [nd] at e; cases e) hG (by have := hr.un; omega) (fun _ _ e => e)
      (fun h' t tk keep => ⟨.str _, H, I.kept keep, ⟨t, rfl⟩, q⟩) hz
end Nd

namespace Nd
open PySem PySem.Spec PyProof.Rows L2
section
variable {P : Program} {w : World} {K : PySem.W.Frag} {mg : Str → Option Value} {base : Heap}
/-- a def out of which no exception comes -/
theorem okG0 {x qual : Str} {st : Stmt} {f : Addr} {fd : FuncData} {N ps : List Str}
    {k : Nat} {sp : Sp} (F : Fun K x qual st f fd) (S : FnScope N ps (defScope st))
    (many : ∀ vs H Q E, sp vs H Q E → vs.length = ps.length)
    (body : ∀ (cdv : Value) (A : Around) (fr : List Env) (s : Shared) (H : Hp) (vs : List V) (Q : VK) (E : XK),
      (cxOf CX0 P w K mg base N qual (defScope st) f cdv A fr s H E).nox.A.guards = some [] →
      Room k (cxOf CX0 P w K mg base N qual (defScope st) f cdv A fr s H E).nox.A → sp vs H Q E →
      ∃ t, PSs (cxOf CX0 P w K mg base N qual (defScope st) f cdv A fr s H E).nox (defBody st) t ∧
        t { nx := fun _ H' => Q .non H', rt := Q } (start N vs) H) :
    FnG P w K mg base CX0 (k + 1) f fd ps sp := by
  refine okG F S many fun cdv A fr s H vs Q E hG hr h => ?_
  obtain ⟨t, h1, h2⟩ := body cdv A fr s H vs Q E hG hr h
  exact ⟨t, h1.nox, h2⟩
/-- what a caller knows of a def -/
structure Cal (P : Program) (w : World) (K : PySem.W.Frag) (mg : Str → Option Value) (base : Heap) (CX : CXT) (k : Nat) (x : Str) (sp : Sp) : Prop where
  ex : ∃ (f : Addr) (fd : FuncData) (ps : List Str), FnG P w K mg base CX k f fd ps sp ∧ mg x = some (.ref f) ∧
    PySem.W.keepIn K (.ref f) = true ∧ Binds K fd ps []
end
theorem pe_f {X : Cx} {CX : CXT} {k : Nat} {x : Str} {sp : Sp} {E : XK} {p pos : Pos} {e : Expr} {es : List Expr} {t : TA}
    (c : Cal X.prog X.w X.K X.mg X.base CX k x sp) (hG : X.A.guards = some []) (hr : Room k X.A) (hg : Gl X x) (hx : Passes CX X E)
    (ha : PA X (e :: es) t) (hdb : (x == ("__debug__" : Str)) = false := by decide)
    (he : starEach (e :: es) X.env = (false, eval e X.env) :: starEach es X.env := by rfl)
    (hpl : (backTo pos (starEach es X.env)).any (·.1) = false := by rfl) :
    PE X (.Call (.Name x p) (e :: es) [] pos) (tCall sp [] E t) := by
  obtain ⟨f, fd, ps, F, hm, hk, hb⟩ := c.ex
  exact pe_callG F hG hr hg hm hk hb .nil hx ha hdb he hpl
end Nd
namespace Nd
open PySem PySem.Spec PyProof.Rows L2
/-! ### what a law draws from: a list of its numbers, a place, a rest -/
/-- all that was tracked stays, but the one at r, a list whose first item stays -/
structure Gr (r : Addr) (H H' : Hp) : Prop where
  all : ∀ b o, b ≠ r → H b = some o → H' b = some o
  own : ∀ c t, H r = some (.lst (.ref c :: t)) → ∃ t', H' r = some (.lst (.ref c :: t'))
instance {r : Addr} {H H' : Hp} : CoeFun (Gr r H H') (fun _ => ∀ b o, b ≠ r → H b = some o → H' b = some o) := ⟨fun g => g.all⟩
theorem Gr.rfl' {r : Addr} {H : Hp} : Gr r H H := ⟨fun _ _ _ e => e, fun _ t e => ⟨t, e⟩⟩
theorem Gr.trans {r : Addr} {H H1 H2 : Hp} (a : Gr r H H1) (b : Gr r H1 H2) : Gr r H H2 := ⟨fun c o n e => b.all c o n (a.all c o n e), fun c t e => by
  obtain ⟨t1, e1⟩ := a.own c t e
  exact b.own c t1 e1⟩
theorem Gr.same {r : Addr} {H H' : Hp} (a : Same H H') : Gr r H H' := ⟨fun c o _ e => a c o e, fun c t e => ⟨t, a _ _ e⟩⟩
theorem Gr.new {r p : Addr} {H : Hp} {o : HO} (h : H p = none) : Gr r H (upd H p o) := Gr.same fun b u e => by
  rw [upd_ne (ne_of_none e h)]
  exact e
theorem Gr.put {r c : Addr} {H : Hp} {t t' : List V} (h : H r = some (.lst (.ref c :: t))) : Gr r H (upd H r (.lst (.ref c :: t'))) := ⟨fun b u n e => by
  rw [upd_ne n]
  exact e, fun c' _ e => by
  rw [h] at e
  cases e
  exact ⟨t', upd_same⟩⟩
theorem Same.new {p : Addr} {H : Hp} {o : HO} (h : H p = none) : Same H (upd H p o) := fun b u e => by
  rw [upd_ne (ne_of_none e h)]
  exact e
structure Rid (r : Addr) (n : Nat) (H : Hp) : Prop where
  ex : ∃ (c : Addr) (ns : List Int) (a z : Int), r ≠ c ∧ H r = some (.lst [.ref c, .int a, .int z]) ∧
    H c = some (.lst (ns.map V.int)) ∧ ns.length ≤ 60 ∧ 0 ≤ a ∧ a ≤ n ∧ 0 ≤ z
theorem Rid.mono {r : Addr} {n m : Nat} {H : Hp} (h : Rid r n H) (l : n ≤ m) : Rid r m H := by
  obtain ⟨c, ns, a, z, h1, h2, h3, h4, h5, h6, h7⟩ := h.ex
  exact ⟨c, ns, a, z, h1, h2, h3, h4, h5, by omega, h7⟩
theorem Rid.same {r : Addr} {n : Nat} {H H' : Hp} (h : Rid r n H) (s : Same H H') : Rid r n H' := by
  obtain ⟨c, ns, a, z, h1, h2, h3, h4⟩ := h.ex
  exact ⟨c, ns, a, z, h1, s _ _ h2, s _ _ h3, h4⟩
theorem Rid.new {r p : Addr} {n : Nat} {H : Hp} {o : HO} (h : Rid r n H) (hp : H p = none) : Rid r n (upd H p o) := h.same (Same.new hp)
/-- as Rid, and neither list of it is D -/
structure RidN (D r : Addr) (n : Nat) (H : Hp) : Prop where
  rid : Rid r n H
  ne : D ≠ r
  off : ∀ c t, H r = some (.lst (.ref c :: t)) → c ≠ D
theorem Rid.newN {D r : Addr} {n : Nat} {H : Hp} {o : HO} (h : Rid r n H) (hD : H D = none) : RidN D r n (upd H D o) := by
  obtain ⟨c, ns, a, z, h1, h2, h3, h4⟩ := h.ex
  have n1 : r ≠ D := ne_of_none h2 hD
  refine ⟨h.new hD, n1.symm, fun c' t e => ?_⟩
  rw [upd_ne n1, h2] at e
  cases e
  exact ne_of_none h3 hD
theorem RidN.gr {D r : Addr} {n m : Nat} {H H' : Hp} (h : RidN D r n H) (g : Gr r H H') (k : Rid r m H') : RidN D r m H' := by
  refine ⟨k, h.ne, fun c t e => ?_⟩
  obtain ⟨c0, ns, a, z, h1, h2, h3, h4⟩ := h.rid.ex
  obtain ⟨t', e'⟩ := g.own _ _ h2
  rw [e'] at e
  cases e
  exact h.off _ _ h2
theorem RidN.put {D r : Addr} {n : Nat} {H : Hp} {o : HO} (h : RidN D r n H) : RidN D r n (upd H D o) := by
  obtain ⟨c, ns, a, z, h1, h2, h3, h4⟩ := h.rid.ex
  have n1 : r ≠ D := h.ne.symm
  refine ⟨⟨c, ns, a, z, h1, (upd_ne n1).trans h2, (upd_ne (h.off _ _ h2)).trans h3, h4⟩, h.ne, fun c' t e => ?_⟩
  rw [upd_ne n1] at e
  exact h.off _ _ e
theorem RidN.same {D r : Addr} {n : Nat} {H H' : Hp} (h : RidN D r n H) (s : Same H H') : RidN D r n H' := h.gr (Gr.same s) (h.rid.same s)
def spDraw : Sp := fun vs H Q _ => ∃ (r : Addr) (n : Nat) (many : Int), vs = [.ref r, .int many] ∧ Rid r n H ∧ n < 1000000 ∧
  0 < many ∧ many < 1073741824 ∧ ∀ H' v, Gr r H H' → Rid r (n + 1) H' → 0 ≤ v → v < many → Q (.int v) H'
def spPick : Sp := fun vs H Q _ => ∃ (r l : Addr) (n : Nat) (xs : List V), vs = [.ref r, .ref l] ∧ Rid r n H ∧ n < 1000000 ∧
  l ≠ r ∧ H l = some (.lst xs) ∧ 0 < xs.length ∧ xs.length < 1000 ∧ ∀ H' v, Gr r H H' → Rid r (n + 1) H' → v ∈ xs → Q v H'
end Nd

namespace Nd
open PySem PySem.Spec PyProof.Rows L2
theorem dpInts {K : PySem.W.Frag} {H : Hp} : ∀ ns : List Int, DpAll K H (ns.map V.int) (ns.map PyData.int)
  | [] => .nil
  | n :: ns => .cons (.int n) (dpInts ns)
theorem canInts : ∀ ns : List Int, PyData.canLayAll0 (ns.map PyData.int) = true
  | [] => by simp only [List.map_nil, PyData.canLayAll0]
  | n :: ns => by simp only [List.map_cons, PyData.canLayAll0, PyData.canLay0, canInts ns, Bool.and_self]
theorem depInts : ∀ ns : List Int, PyData.depthAll (ns.map PyData.int) = 0
  | [] => by simp only [List.map_nil, PyData.depthAll]
  | n :: ns => by simp only [List.map_cons, PyData.depthAll, PyData.depth, depInts ns, Nat.max_self]
theorem shInts (ns : List Int) : SeqAt.shaped (.list (ns.map PyData.int)) = true := by
  simp [SeqAt.shaped, PyData.canLay0, PyData.depth, canInts ns, depInts ns]
theorem shNil : SeqAt.shaped (.list []) = true := by
  simp [SeqAt.shaped, PyData.canLay0, PyData.depth, PyData.canLayAll0, PyData.depthAll]
theorem eqvNil (ns : List Int) : PyData.eqv (.list (ns.map PyData.int)) (.list []) = ns.isEmpty := by
  cases ns with
  | nil => simp only [List.map_nil, PyData.eqv, PyData.eqvAll, List.isEmpty_nil]
  | cons n ns => simp only [List.map_cons, PyData.eqv, PyData.eqvAll, List.isEmpty_cons]
theorem atInts {ns : List Int} {i : Int} (h0 : 0 ≤ i) (h1 : i < ns.length) : ∃ v, ns[i.toNat]? = some v ∧ atI (ns.map V.int) i = some (V.int v) := by
  obtain ⟨j, rfl⟩ := Int.eq_ofNat_of_zero_le h0
  have hj : j < ns.length := by omega
  refine ⟨ns[j], by simp [hj], ?_⟩
  exact atI_nat (by simp [hj])
theorem mixBig {u a k l m : Int} (u0 : 0 ≤ u) (u1 : u < 2147483648) (a0 : 0 ≤ a) (a1 : a ≤ 1000000) (k0 : 0 ≤ k) (k1 : k < 1000000)
    (l0 : 0 ≤ l) (l1 : l < 1000000) (m0 : 0 ≤ m) (m1 : m < 1000000) : (u * (2 * a + k) + l * a * a + m).natAbs < 2 ^ 64 := by
  have h1 : u * (2 * a + k) ≤ 2147483648 * 3000000 := Int.mul_le_mul (by omega) (by omega) (by omega) (by omega)
  have h2 : l * a ≤ 1000000 * 1000000 := Int.mul_le_mul (by omega) (by omega) (by omega) (by omega)
  have h3 : 0 ≤ l * a := Int.mul_nonneg l0 a0
  have h4 : l * a * a ≤ 1000000000000 * 1000000 := Int.mul_le_mul (by omega) (by omega) (by omega) (by omega)
  have h5 : 0 ≤ u * (2 * a + k) := Int.mul_nonneg u0 (by omega)
  have h6 : 0 ≤ l * a * a := Int.mul_nonneg h3 a0
  omega
def spRiddle (K : PySem.W.Frag) : Sp := fun vs H Q _ => ∃ (a : Addr) (ns : List Int), vs = [.ref a] ∧ SqL K H a (ns.map V.int) ∧ ns.length ≤ 63 ∧
  ∀ H' r, Same H H' → H r = none → Rid r 0 H' → Q (.ref r) H'
end Nd


namespace Nd
open PySem PySem.Spec PyProof.Rows L2
/-! ### readings, a step each -/
theorem k_seq {t u : TS} {nx bk ct : L2.St → Hp → Prop} {rt : VK} {σ : L2.St} {H : Hp} (h : t (Ends.mk (u (Ends.mk nx rt bk ct)) rt bk ct) σ H) :
    tSeq t u (Ends.mk nx rt bk ct) σ H := h
theorem k_next {nx bk ct : L2.St → Hp → Prop} {rt : VK} {σ : L2.St} {H : Hp} (h : nx σ H) :
    tNext (Ends.mk nx rt bk ct) σ H := h
theorem k_brk {nx bk ct : L2.St → Hp → Prop} {rt : VK} {σ : L2.St} {H : Hp} (h : bk σ H) :
    tBreak (Ends.mk nx rt bk ct) σ H := h
theorem k_cont {nx bk ct : L2.St → Hp → Prop} {rt : VK} {σ : L2.St} {H : Hp} (h : ct σ H) :
    tCont (Ends.mk nx rt bk ct) σ H := h
theorem k_drop {te : TE} {nx bk ct : L2.St → Hp → Prop} {rt : VK} {σ : L2.St} {H : Hp} (h : te σ H fun _ H1 => nx σ H1) :
    tDrop te (Ends.mk nx rt bk ct) σ H := h
theorem k_ret {te : TE} {nx bk ct : L2.St → Hp → Prop} {rt : VK} {σ : L2.St} {H : Hp} (h : te σ H rt) :
    tRet te (Ends.mk nx rt bk ct) σ H := h
theorem k_retN {nx bk ct : L2.St → Hp → Prop} {rt : VK} {σ : L2.St} {H : Hp} (h : rt .non H) :
    tRetN (Ends.mk nx rt bk ct) σ H := h
theorem k_if {c : TT} {t u : TS} {D : Ends} {σ : L2.St} {H : Hp} (h : c σ H fun b H1 => if b = true then t D σ H1 else u D σ H1) :
    tIfS c t u D σ H := h
theorem k_asg {te : TE} {g : TG} {nx bk ct : L2.St → Hp → Prop} {rt : VK} {σ : L2.St} {H : Hp} (h : te σ H fun x H1 => g x σ H1 nx) :
    tAsg te g (Ends.mk nx rt bk ct) σ H := h
theorem k_gname {i : Nat} {v : V} {σ : L2.St} {H : Hp} {Q : L2.St → Hp → Prop} (h : Q (σ.set i (some v)) H) :
    gName i v σ H Q := h
theorem k_gsub {to ti : TE} {t : TSet} {v : V} {σ : L2.St} {H : Hp} {Q : L2.St → Hp → Prop} (h : to σ H fun o H1 => ti σ H1 fun i H2 => t o i v H2 fun H3 => Q σ H3) :
    gSub to ti t v σ H Q := h
theorem k_gtup {K : PySem.W.Frag} {n : Nat} {t : TGs} {a : Addr} {xs : List V} {σ : L2.St} {H : Hp} {Q : L2.St → Hp → Prop} (h1 : SqT K H a xs) (h2 : xs.length = n) (h : t xs σ H Q) :
    gTup K n t (.ref a) σ H Q := ⟨a, xs, rfl, h1, h2, h⟩
theorem k_gunl {K : PySem.W.Frag} {n : Nat} {t : TGs} {a : Addr} {xs : List V} {σ : L2.St} {H : Hp} {Q : L2.St → Hp → Prop} (h1 : SqL K H a xs) (h2 : xs.length = n) (h : t xs σ H Q) :
    gUnl K n t (.ref a) σ H Q := ⟨a, xs, rfl, h1, h2, h⟩
theorem k_gcons {t : TG} {u : TGs} {v : V} {vs : List V} {σ : L2.St} {H : Hp} {Q : L2.St → Hp → Prop} (h : t v σ H fun σ1 H1 => u vs σ1 H1 Q) :
    gCons t u (v :: vs) σ H Q := ⟨v, vs, rfl, h⟩
theorem k_gnil {σ : L2.St} {H : Hp} {Q : L2.St → Hp → Prop} (h : Q σ H) :
    gNil [] σ H Q := ⟨rfl, h⟩
theorem k_par {i j : Nat} {ta : TA} {nx bk ct : L2.St → Hp → Prop} {rt : VK} {σ : L2.St} {H : Hp} (h : ta σ H fun vs H1 => ∃ v w, vs = [v, w] ∧ nx ((σ.set i (some v)).set j (some w)) H1) :
    tPar i j ta (Ends.mk nx rt bk ct) σ H := h
theorem k_par3 {i j l : Nat} {ta : TA} {nx bk ct : L2.St → Hp → Prop} {rt : VK} {σ : L2.St} {H : Hp} (h : ta σ H fun vs H1 => ∃ u v w, vs = [u, v, w] ∧ nx (((σ.set i (some u)).set j (some v)).set l (some w)) H1) :
    tPar3 i j l ta (Ends.mk nx rt bk ct) σ H := h
theorem k_aug {i : Nat} {te : TE} {ti : TIp} {x : V} {nx bk ct : L2.St → Hp → Prop} {rt : VK} {σ : L2.St} {H : Hp} (hx : σ[i]? = some (some x)) (h : te σ H fun y H1 => ti x y H1 fun z H2 => nx (σ.set i (some z)) H2) :
    tAug i te ti (Ends.mk nx rt bk ct) σ H := ⟨x, hx, h⟩
theorem k_var {i : Nat} {v : V} {σ : L2.St} {H : Hp} {Q : VK} (h : σ[i]? = some (some v)) (q : Q v H) :
    tVar i σ H Q := ⟨v, h, q⟩
theorem k_c {v : V} {σ : L2.St} {H : Hp} {Q : VK} (q : Q v H) :
    tC v σ H Q := q
theorem k_op {r : R2} {ta tb : TE} {σ : L2.St} {H : Hp} {Q : VK} (h : ta σ H fun x H1 => tb σ H1 fun y H2 => r x y H2 Q) :
    tOp r ta tb σ H Q := h
theorem k_un {r : V → Hp → VK → Prop} {ta : TE} {σ : L2.St} {H : Hp} {Q : VK} (h : ta σ H fun x H1 => r x H1 Q) :
    tUn r ta σ H Q := h
theorem k_I0 {g : Int → Int → V} {i j : Int} {H : Hp} {Q : VK} (h : Q (g i j) H) :
    rI0 g (.int i) (.int j) H Q := ⟨i, j, rfl, rfl, h⟩
theorem k_I {C : Int → Int → Prop} {g : Int → Int → V} {i j : Int} {H : Hp} {Q : VK} (c : C i j) (h : Q (g i j) H) :
    rI C g (.int i) (.int j) H Q := ⟨i, j, rfl, rfl, c, h⟩
theorem k_U {g : Int → V} {i : Int} {H : Hp} {Q : VK} (h : Q (g i) H) :
    rU g (.int i) H Q := ⟨i, rfl, h⟩
theorem k_eq {x y : V} {H : Hp} {Q : VK} (c : scal x y = true) (h : Q (.bl (decide (x = y))) H) :
    rEq x y H Q := ⟨c, h⟩
theorem k_ne {x y : V} {H : Hp} {Q : VK} (c : scal x y = true) (h : Q (.bl (!decide (x = y))) H) :
    rNe x y H Q := ⟨c, h⟩
theorem k_cb {r : List V → Hp → VK → Prop} {t : TA} {σ : L2.St} {H : Hp} {Q : VK} (h : t σ H fun vs H1 => r vs H1 Q) :
    tCB r t σ H Q := h
theorem k_call {sp : Sp} {dvs : List V} {E : XK} {t : TA} {σ : L2.St} {H : Hp} {Q : VK} (h : t σ H fun vs H1 => sp (vs ++ dvs) H1 Q E) :
    tCall sp dvs E t σ H Q := h
theorem k_nil {σ : L2.St} {H : Hp} {Q : List V → Hp → Prop} (h : Q [] H) :
    tNil σ H Q := h
theorem k_cons {ta : TE} {tr : TA} {σ : L2.St} {H : Hp} {Q : List V → Hp → Prop} (h : ta σ H fun x H1 => tr σ H1 fun xs H2 => Q (x :: xs) H2) :
    tCons ta tr σ H Q := h
theorem k_tup {t : TA} {σ : L2.St} {H : Hp} {Q : VK} (h : t σ H fun xs H1 => xs.length ≤ sizeLine ∧ ∀ p, H1 p = none → Q (.ref p) (upd H1 p (.tup xs))) :
    tTup t σ H Q := h
theorem k_lst {t : TA} {σ : L2.St} {H : Hp} {Q : VK} (h : t σ H fun xs H1 => xs.length ≤ sizeLine ∧ ∀ p, H1 p = none → Q (.ref p) (upd H1 p (.lst xs))) :
    tLst t σ H Q := h
theorem k_ife {t : TT} {ta tb : TE} {σ : L2.St} {H : Hp} {Q : VK} (h : t σ H fun c H1 => if c = true then ta σ H1 Q else tb σ H1 Q) :
    tIf t ta tb σ H Q := h
theorem k_andV {ta tb : TE} {σ : L2.St} {H : Hp} {Q : VK} (h : ta σ H fun x H1 => ∃ c, x = .bl c ∧ if c = true then tb σ H1 Q else Q (.bl false) H1) :
    tAndV ta tb σ H Q := h
theorem k_orV {ta tb : TE} {σ : L2.St} {H : Hp} {Q : VK} (h : ta σ H fun x H1 => ∃ c, x = .bl c ∧ if c = true then Q (.bl true) H1 else tb σ H1 Q) :
    tOrV ta tb σ H Q := h
theorem k_notV {ta : TE} {σ : L2.St} {H : Hp} {Q : VK} (h : ta σ H fun x H1 => ∃ c, x = .bl c ∧ Q (.bl (!c)) H1) :
    tNotV ta σ H Q := h
theorem k_tB {t : TE} {σ : L2.St} {H : Hp} {Q : Bool → Hp → Prop} (h : t σ H fun x H1 => ∃ c, x = .bl c ∧ Q c H1) :
    tB t σ H Q := h
theorem k_test {t : TE} {σ : L2.St} {H : Hp} {Q : Bool → Hp → Prop} (h : t σ H fun x H1 => ∃ c, x = .bl c ∧ Q c H1) :
    tTest t σ H Q := h
theorem k_tAnd {t u : TT} {σ : L2.St} {H : Hp} {Q : Bool → Hp → Prop} (h : t σ H fun c H1 => if c = true then u σ H1 Q else Q false H1) :
    tAnd t u σ H Q := h
theorem k_tOr {t u : TT} {σ : L2.St} {H : Hp} {Q : Bool → Hp → Prop} (h : t σ H fun c H1 => if c = true then Q true H1 else u σ H1 Q) :
    tOr t u σ H Q := h
theorem k_tNot {t : TT} {σ : L2.St} {H : Hp} {Q : Bool → Hp → Prop} (h : t σ H fun c H1 => Q (!c) H1) :
    tNot t σ H Q := h
theorem k_tYes {σ : L2.St} {H : Hp} {Q : Bool → Hp → Prop} (h : Q true H) :
    tYes σ H Q := h
theorem k_ixL {K : PySem.W.Frag} {p : Addr} {xs : List V} {i : Int} {v : V} {H : Hp} {Q : VK} (h : SqL K H p xs) (ha : atI xs i = some v) (q : Q v H) :
    rIxL K (.ref p) (.int i) H Q := ⟨p, xs, i, v, rfl, rfl, h, ha, q⟩
theorem k_ixT {K : PySem.W.Frag} {p : Addr} {xs : List V} {i : Int} {v : V} {H : Hp} {Q : VK} (h : SqT K H p xs) (ha : atI xs i = some v) (q : Q v H) :
    rIxT K (.ref p) (.int i) H Q := ⟨p, xs, i, v, rfl, rfl, h, ha, q⟩
theorem k_setL {p : Addr} {xs : List V} {k : Int} {j : Nat} {v : V} {H : Hp} {Q : Hp → Prop} (h : H p = some (.lst xs)) (hj : ixN xs.length k = some j) (q : Q (upd H p (.lst (xs.set j v)))) :
    rSetL (.ref p) (.int k) v H Q := ⟨p, xs, k, j, rfl, rfl, h, hj, q⟩
theorem k_sl {r : V → Option Int → Option Int → Hp → VK → Prop} {te : TE} {tl th : TO} {σ : L2.St} {H : Hp} {Q : VK} (h : te σ H fun x H1 => tl σ H1 fun l H2 => th σ H2 fun u H3 => r x l u H3 Q) :
    tSl r te tl th σ H Q := h
theorem k_noPart {σ : L2.St} {H : Hp} {Q : Option Int → Hp → Prop} (h : Q none H) :
    tNoPart σ H Q := h
theorem k_part {t : TE} {σ : L2.St} {H : Hp} {Q : Option Int → Hp → Prop} (h : t σ H fun x H1 => ∃ i, x = .int i ∧ Q (some i) H1) :
    tPart t σ H Q := h
theorem k_slL {K : PySem.W.Frag} {a : Addr} {xs : List V} {lo hi : Option Int} {H : Hp} {Q : VK} (h : SqL K H a xs) (q : ∀ p, H p = none → Q (.ref p) (upd H p (.lst (cutV xs lo hi)))) :
    rSlL K (.ref a) lo hi H Q := ⟨a, xs, rfl, h, q⟩
theorem k_cat {l b : Addr} {xs zs : List V} {H : Hp} {Q : VK} (h1 : H l = some (.lst xs)) (h2 : H b = some (.lst zs)) (h3 : xs.length + zs.length ≤ sizeLine) (q : ∀ p, H p = none → Q (.ref p) (upd H p (.lst (xs ++ zs)))) :
    rCat (.ref l) (.ref b) H Q := ⟨l, b, xs, zs, rfl, rfl, h1, h2, h3, q⟩
theorem k_bm {K : PySem.W.Frag} {T : String} {r : V → List V → Hp → VK → Prop} {to : TE} {t : TA} {σ : L2.St} {H : Hp} {Q : VK} (h : to σ H fun x H1 => tyV K T x H1 ∧ t σ H1 fun xs H2 => r x xs H2 Q) :
    tBM K T r to t σ H Q := h
theorem k_app {l : Addr} {xs : List V} {y : V} {H : Hp} {Q : VK} (h : H l = some (.lst xs)) (hz : xs.length < sizeLine) (q : Q .non (upd H l (.lst (xs ++ [y])))) :
    rAppend (.ref l) [y] H Q := ⟨l, xs, y, rfl, rfl, h, hz, q⟩
theorem k_eqD {K : PySem.W.Frag} {x y : V} {d e : PyData} {H : Hp} {Q : VK} (h1 : Dp K H x d) (h2 : Dp K H y e) (s1 : SeqAt.shaped d = true) (s2 : SeqAt.shaped e = true) (q : Q (.bl (PyData.eqv d e)) H) :
    rEqD K x y H Q := ⟨d, e, h1, h2, s1, s2, q⟩
theorem k_neD {K : PySem.W.Frag} {x y : V} {d e : PyData} {H : Hp} {Q : VK} (h1 : Dp K H x d) (h2 : Dp K H y e) (s1 : SeqAt.shaped d = true) (s2 : SeqAt.shaped e = true) (q : Q (.bl (!PyData.eqv d e)) H) :
    rNeD K x y H Q := ⟨d, e, h1, h2, s1, s2, q⟩
theorem k_repr {K : PySem.W.Frag} {v : V} {d : PyData} {H : Hp} {Q : VK} (h : Dp K H v d) (h1 : d.showable = true) (h2 : d.depth ≤ 60) (h3 : d.shown.length ≤ sizeLine) (q : Q (.str d.shown) H) :
    rRepr K [v] H Q := ⟨v, d, rfl, h, h1, h2, h3, q⟩
theorem k_gcd {a b : Int} {H : Hp} {Q : VK} (q : Q (.int ((Nat.gcd a.natAbs b.natAbs : Nat) : Int)) H) :
    rGcd [.int a, .int b] H Q := ⟨a, b, rfl, q⟩
theorem k_rt {nx bk ct : L2.St → Hp → Prop} {rt : VK} {v : V} {H : Hp} (h : rt v H) :
    (Ends.mk nx rt bk ct).rt v H := h
theorem k_nx {nx bk ct : L2.St → Hp → Prop} {rt : VK} {σ : L2.St} {H : Hp} (h : nx σ H) :
    (Ends.mk nx rt bk ct).nx σ H := h
theorem k_bk {nx bk ct : L2.St → Hp → Prop} {rt : VK} {σ : L2.St} {H : Hp} (h : bk σ H) :
    (Ends.mk nx rt bk ct).bk σ H := h
theorem k_ct {nx bk ct : L2.St → Hp → Prop} {rt : VK} {σ : L2.St} {H : Hp} (h : ct σ H) :
    (Ends.mk nx rt bk ct).ct σ H := h
end Nd

namespace Nd
open PySem PySem.Spec PyProof.Rows L2
/-! ### comprehensions whose items are plain values: which turns give (f), and what (v) -/
def given (n : Nat) (f : Nat → Bool) (v : Nat → V) : List V := ((List.range n).filter f).map v
theorem given_so {n : Nat} {f : Nat → Bool} {v : Nat → V} (h : f n = true) : given (n + 1) f v = given n f v ++ [v n] := by
  simp [given, List.range_succ, List.filter_append, h]
theorem given_not {n : Nat} {f : Nat → Bool} {v : Nat → V} (h : f n = false) : given (n + 1) f v = given n f v := by
  simp [given, List.range_succ, List.filter_append, h]
theorem given_len (n : Nat) (f : Nat → Bool) (v : Nat → V) : (given n f v).length ≤ n := by
  unfold given
  rw [List.length_map]
  exact Nat.le_trans (List.length_filter_le _ _) (by rw [List.length_range]; exact Nat.le_refl _)
theorem given_all {n : Nat} {v : Nat → V} {xs : List V} (hn : xs.length = n) (h : ∀ i x, xs[i]? = some x → v i = x) : given n (fun _ => true) v = xs := by
  apply List.ext_getElem?
  intro i
  unfold given
  rw [List.filter_eq_self.mpr (by intros; rfl), List.getElem?_map]
  by_cases hi : i < n
  · rw [List.getElem?_range hi]
    have : xs[i]? = some xs[i] := by simp [hn ▸ hi]
    rw [this]
    exact congrArg some (h i _ this)
  · rw [List.getElem?_eq_none (by simpa using hi), List.getElem?_eq_none (by omega)]
    rfl
/-- D is new: what was before stays, D holds what is given so far -/
def Cw (H1 : Hp) (f : Nat → Bool) (v : Nat → V) (D : Addr) (i : Nat) (H : Hp) : Prop := Same H1 H ∧ H D = some (.lst (given i f v))
theorem cw_start {H1 : Hp} {f : Nat → Bool} {v : Nat → V} {D : Addr} (hD : H1 D = none) : Cw H1 f v D 0 (upd H1 D (.lst [])) := ⟨Same.new hD, upd_same⟩
theorem cw_step {H1 H3 H4 : Hp} {f : Nat → Bool} {v : Nat → V} {D : Addr} {i : Nat} (hD : H1 D = none) (s : Same H1 H3) (e : H3 D = some (.lst (given i f v))) (s4 : Same H3 H4)
    (hi : i ≤ 100000) (hf : f i = true) : ∃ acc, H4 D = some (.lst acc) ∧ acc.length < sizeLine ∧ Cw H1 f v D (i + 1) (upd H4 D (.lst (acc ++ [v i]))) := by
  refine ⟨given i f v, s4 _ _ e, Nat.lt_of_le_of_lt (Nat.le_trans (given_len i f v) hi) (by decide), fun b o z => ?_, ?_⟩
  · rw [upd_ne (ne_of_none z hD)]
    exact s4 _ _ (s _ _ z)
  · rw [given_so hf]
    exact upd_same
/-- the turns of a comprehension, over what J walks -/
def LcIn (J : It) (g : TG) (tt : TT) (te : TE) (vs : List Nat) (σ : L2.St) (H1 : Hp) (Q : VK) : Prop := tLc (fun _ H R => R J H) g tt te vs σ H1 Q
theorem k_lc {wi : TI} {g : TG} {tt : TT} {te : TE} {vs : List Nat} {σ : L2.St} {H : Hp} {Q : VK} (h : wi σ H fun J H1 => LcIn J g tt te vs σ H1 Q) :
    tLc wi g tt te vs σ H Q := h
theorem k_iList {K : PySem.W.Frag} {tl : TE} {σ : L2.St} {H : Hp} {R : It → Hp → Prop} (h : tl σ H fun x H1 => ∃ a, x = .ref a ∧ (∃ xs, SqL K H1 a xs) ∧ R (Itl K a) H1) :
    iList K tl σ H R := h
theorem k_iTup {K : PySem.W.Frag} {tl : TE} {σ : L2.St} {H : Hp} {R : It → Hp → Prop} (h : tl σ H fun x H1 => ∃ a, x = .ref a ∧ (∃ xs, SqT K H1 a xs) ∧ R (Itt K a) H1) :
    iTup K tl σ H R := h
theorem k_iR1 {ta : TA} {σ : L2.St} {H : Hp} {R : It → Hp → Prop} (h : ta σ H fun vs H1 => ∃ j : Int, vs = [.int j] ∧ -(2 ^ 62) ≤ j ∧ j < 2 ^ 62 ∧ R (Itr 0 j.toNat) H1) :
    iRng1 ta σ H R := h
theorem k_iR2 {ta : TA} {σ : L2.St} {H : Hp} {R : It → Hp → Prop}
    (h : ta σ H fun vs H1 => ∃ i j : Int, vs = [.int i, .int j] ∧ (-(2 ^ 62) ≤ i ∧ i < 2 ^ 62 ∧ -(2 ^ 62) ≤ j ∧ j < 2 ^ 62) ∧ R (Itr i (j - i).toNat) H1) : iRng2 ta σ H R := h
/-- one turn: the test, then the item, whatever follows -/
def Turn (tt : TT) (te : TE) (σ : L2.St) (H : Hp) (b : Bool) (y : V) : Prop :=
  (∀ QT : Bool → Hp → Prop, (∀ H3, Same H H3 → QT b H3) → tt σ H QT) ∧ (b = true → ∀ H3, Same H H3 → ∀ QE : VK, (∀ H4, Same H3 H4 → QE y H4) → te σ H3 QE)
theorem cw_turn {tt : TT} {te : TE} {σ2 σ : L2.St} {vs : List Nat} {H1 H : Hp} {f : Nat → Bool} {v : Nat → V} {D : Addr} {i : Nat} (hD : H1 D = none) (p : Cw H1 f v D i H) (hi : i ≤ 100000)
    (hw : wipe σ2 vs = wipe σ vs) (t : Turn tt te σ2 H (f i) (v i)) : wipe σ2 vs = wipe σ vs ∧ tt σ2 H fun b H3 =>
      if b = true then te σ2 H3 fun y H4 => ∃ acc, H4 D = some (.lst acc) ∧ acc.length < sizeLine ∧ Cw H1 f v D (i + 1) (upd H4 D (.lst (acc ++ [y]))) else Cw H1 f v D (i + 1) H3 := by
  refine ⟨hw, t.1 _ fun H3 s3 => ?_⟩
  cases hf : f i with
  | true =>
    rw [if_pos rfl]
    exact t.2 hf H3 s3 _ fun H4 s4 => cw_step hD (p.1.trans s3) (s3 _ _ p.2) s4 hi hf
  | false =>
    rw [if_neg (by decide)]
    refine ⟨p.1.trans s3, ?_⟩
    rw [given_not hf]
    exact s3 _ _ p.2
theorem lcIn_L {K : PySem.W.Frag} {a : Addr} {xs : List V} {j : Nat} {tt : TT} {te : TE} {vs : List Nat} {σ : L2.St} {H1 : Hp} {Q : VK} (f : Nat → Bool) (v : Nat → V)
    (hx : SqL K H1 a xs) (hz : xs.length ≤ 100000) (hw : ∀ x, wipe ((wipe σ vs).set j (some x)) vs = wipe σ vs)
    (step : ∀ i x H2, xs[i]? = some x → Same H1 H2 → Turn tt te ((wipe σ vs).set j (some x)) H2 (f i) (v i))
    (fin : ∀ p H', H1 p = none → Same H1 H' → H' p = some (.lst (given xs.length f v)) → Q (.ref p) H') : LcIn (Itl K a) (gName j) tt te vs σ H1 Q := fun D hD =>
  lc_list (xs := xs) (Cw H1 f v D) (cw_start hD) (fun i H' _ p => p.1.seq hx) (fun i x H' hi p =>
    cw_turn hD p (by have := (List.getElem?_eq_some_iff.mp hi).1; omega) (hw x) (step i x H' hi p.1)) (fun H' p => fin D H' hD p.1 p.2)
theorem Same.seqT {K : PySem.W.Frag} {H H' : Hp} {a : Addr} {xs : List V} (e : Same H H') (h : SqT K H a xs) : SqT K H' a xs := by
  rcases h with (h | ⟨o, h⟩) | h
  · exact .inl (.inl (e _ _ h))
  · exact .inl (.inr ⟨o, e _ _ h⟩)
  · exact .inr h
theorem lcIn_T {K : PySem.W.Frag} {a : Addr} {xs : List V} {j : Nat} {tt : TT} {te : TE} {vs : List Nat} {σ : L2.St} {H1 : Hp} {Q : VK} (f : Nat → Bool) (v : Nat → V)
    (hx : SqT K H1 a xs) (hz : xs.length ≤ 100000) (hw : ∀ x, wipe ((wipe σ vs).set j (some x)) vs = wipe σ vs)
    (step : ∀ i x H2, xs[i]? = some x → Same H1 H2 → Turn tt te ((wipe σ vs).set j (some x)) H2 (f i) (v i))
    (fin : ∀ p H', H1 p = none → Same H1 H' → H' p = some (.lst (given xs.length f v)) → Q (.ref p) H') : LcIn (Itt K a) (gName j) tt te vs σ H1 Q := fun D hD =>
  lc_tup (xs := xs) (Cw H1 f v D) (cw_start hD) (fun i H' _ p => Same.seqT p.1 hx) (fun i x H' hi p =>
    cw_turn hD p (by have := (List.getElem?_eq_some_iff.mp hi).1; omega) (hw x) (step i x H' hi p.1)) (fun H' p => fin D H' hD p.1 p.2)
theorem lcIn_R {lo : Int} {n : Nat} {j : Nat} {tt : TT} {te : TE} {vs : List Nat} {σ : L2.St} {H1 : Hp} {Q : VK} (f : Nat → Bool) (v : Nat → V)
    (hz : n ≤ 100000) (hw : ∀ x, wipe ((wipe σ vs).set j (some x)) vs = wipe σ vs)
    (step : ∀ i H2, i < n → Same H1 H2 → Turn tt te ((wipe σ vs).set j (some (.int (lo + i)))) H2 (f i) (v i))
    (fin : ∀ p H', H1 p = none → Same H1 H' → H' p = some (.lst (given n f v)) → Q (.ref p) H') : LcIn (Itr lo n) (gName j) tt te vs σ H1 Q := fun D hD =>
  lc_range (lo := lo) (n := n) (Cw H1 f v D) (cw_start hD) (fun i H' hi p => cw_turn hD p (by omega) (hw _) (step i H' hi p.1)) (fun H' p => fin D H' hD p.1 p.2)
theorem k_new {H : Hp} {o : HO} {Q : Addr → Hp → Prop} (h : ∀ p H', H p = none → Same H H' → H' p = some o → Q p H') : ∀ p, H p = none → Q p (upd H p o) :=
  fun p hp => h p _ hp (Same.new hp) upd_same
theorem k_while {c : TT} {tb : TS} {nx bk ct : L2.St → Hp → Prop} {rt : VK} {σ : L2.St} {H : Hp} (W : Nat → L2.St → Hp → Prop) (m0 : Nat) (h0 : W m0 σ H)
    (hs : ∀ m σ H, W m σ H → c σ H fun b H1 => if b = true then ∃ N : L2.St → Hp → Prop, (∀ σ' H', N σ' H' → ∃ m', m' < m ∧ W m' σ' H') ∧
      tb (Ends.mk N rt nx N) σ H1 else nx σ H1) : tWhile c tb (Ends.mk nx rt bk ct) σ H := ⟨W, ⟨m0, h0⟩, hs⟩
theorem upd_facts {H H' : Hp} {p : Addr} {o : HO} (e : upd H p o = H') (h : H p = none) : Same H H' ∧ H' p = some o := e ▸ ⟨Same.new h, upd_same⟩
theorem Rid.ne {r p : Addr} {n : Nat} {H : Hp} (R : Rid r n H) (h : H p = none) : p ≠ r := by
  obtain ⟨c, ns, a, z, _, h2, _⟩ := R.ex
  exact fun e => by rw [e, h2] at h; cases h
/-- new for a heap is new for what it came from -/
theorem Gr.ne {r p : Addr} {H H' : Hp} {a : Addr} {o : HO} (g : Gr r H H') (n : a ≠ r) (e : H a = some o) (h : H' p = none) : a ≠ p := fun z => by
  rw [← z, g _ _ n e] at h
  cases h
theorem k_disp1 {i j : Nat} {k : Int} {v : V} {σ : L2.St} {H : Hp} {Q : VK} (h1 : σ[i]? = some (some (.int k))) (h2 : σ[j]? = some (some v))
    (q : ∀ p H', H p = none → Same H H' → H' p = some (.dK [(.inl k, v)]) → Q (.ref p) H') : tDisp [(tVar i, tVar j)] σ H Q := fun p hp => by
  refine ⟨_, h1, _, h2, ?_⟩
  refine ⟨upd_same, [(.inl k, v)], rfl, by simp, ?_⟩
  refine q p _ hp ?_ upd_same
  rw [upd_upd]
  exact Same.new hp
end Nd

namespace Nd
open PySem PySem.Spec PyProof.Rows L2
/-! ### data that stands apart from r -/
def keyD : Key → PyData
  | .inl i => .int i
  | .inr x => .str x
mutual
inductive Dr (r : Addr) (H : Hp) : V → PyData → Prop
  | non : Dr r H .non .none
  | bl (b : Bool) : Dr r H (.bl b) (.bool b)
  | int (i : Int) : Dr r H (.int i) (.int i)
  | str (x : Str) : Dr r H (.str x) (.str x)
  | lst {a : Addr} {xs : List V} {ds : List PyData} : a ≠ r → H a = some (.lst xs) → DrAll r H xs ds → Dr r H (.ref a) (.list ds)
  | tup {a : Addr} {xs : List V} {ds : List PyData} : a ≠ r → H a = some (.tup xs) → DrAll r H xs ds → Dr r H (.ref a) (.tuple ds)
  | dct {a : Addr} {kvs : List (Key × V)} {ds : List PyData} : a ≠ r → H a = some (.dK kvs) → DrAll r H (kvs.map (·.2)) ds →
      Dr r H (.ref a) (.dict ((kvs.map fun kv => keyD kv.1).zip ds))
inductive DrAll (r : Addr) (H : Hp) : List V → List PyData → Prop
  | nil : DrAll r H [] []
  | cons {v : V} {vs : List V} {d : PyData} {ds : List PyData} : Dr r H v d → DrAll r H vs ds → DrAll r H (v :: vs) (d :: ds)
end
mutual
theorem Dr.gr {r : Addr} {H H' : Hp} (g : Gr r H H') : ∀ {v : V} {d : PyData}, Dr r H v d → Dr r H' v d
  | _, _, .non => .non
  | _, _, .bl b => .bl b
  | _, _, .int i => .int i
  | _, _, .str x => .str x
  | _, _, .lst n e h => .lst n (g _ _ n e) (DrAll.gr g h)
  | _, _, .tup n e h => .tup n (g _ _ n e) (DrAll.gr g h)
  | _, _, .dct n e h => .dct n (g _ _ n e) (DrAll.gr g h)
theorem DrAll.gr {r : Addr} {H H' : Hp} (g : Gr r H H') : ∀ {vs : List V} {ds : List PyData}, DrAll r H vs ds → DrAll r H' vs ds
  | _, _, .nil => .nil
  | _, _, .cons h t => .cons (Dr.gr g h) (DrAll.gr g t)
end
theorem Dr.same {r : Addr} {H H' : Hp} (s : Same H H') {v : V} {d : PyData} (h : Dr r H v d) : Dr r H' v d := h.gr (Gr.same s)
theorem DrAll.same {r : Addr} {H H' : Hp} (s : Same H H') {v : List V} {d : List PyData} (h : DrAll r H v d) : DrAll r H' v d := h.gr (Gr.same s)
theorem DrAll.length {r : Addr} {H : Hp} : ∀ {vs : List V} {ds : List PyData}, DrAll r H vs ds → vs.length = ds.length
  | _, _, .nil => rfl
  | _, _, .cons _ t => congrArg (· + 1) (DrAll.length t)
theorem DrAll.get {r : Addr} {H : Hp} : ∀ {vs : List V} {ds : List PyData} {i : Nat} {v : V}, DrAll r H vs ds → vs[i]? = some v → ∃ d, ds[i]? = some d ∧ Dr r H v d
  | _, _, 0, _, .cons h _, e => by cases e; exact ⟨_, rfl, h⟩
  | _, _, i + 1, _, .cons _ t, e => DrAll.get (i := i) t e
  | _, _, 0, _, .nil, e => nomatch e
  | _, _, _ + 1, _, .nil, e => nomatch e
theorem DrAll.mem {r : Addr} {H : Hp} : ∀ {vs : List V} {ds : List PyData} {v : V}, DrAll r H vs ds → v ∈ vs → ∃ d, d ∈ ds ∧ Dr r H v d
  | _, _, _, .nil, e => nomatch e
  | _, _, _, .cons h t, e => by
    rcases List.mem_cons.mp e with rfl | e
    · exact ⟨_, List.mem_cons_self, h⟩
    · obtain ⟨d, m, h2⟩ := DrAll.mem t e
      exact ⟨d, List.mem_cons_of_mem _ m, h2⟩
mutual
theorem Dr.dp {r : Addr} {H : Hp} {K : PySem.W.Frag} : ∀ {v : V} {d : PyData}, Dr r H v d → d.hasDict = false → Dp K H v d
  | _, _, .non, _ => .non
  | _, _, .bl b, _ => .bl b
  | _, _, .int i, _ => .int i
  | _, _, .str x, _ => .str x
  | _, _, .lst _ e h, z => .lst (.inl (.inl e)) (DrAll.dp h (by simpa [PyData.hasDict] using z))
  | _, _, .tup _ e h, z => .tup (.inl (.inl e)) (DrAll.dp h (by simpa [PyData.hasDict] using z))
  | _, _, .dct _ _ _, z => by simp [PyData.hasDict] at z
theorem DrAll.dp {r : Addr} {H : Hp} {K : PySem.W.Frag} : ∀ {vs : List V} {ds : List PyData}, DrAll r H vs ds → PyData.hasDictAll ds = false → DpAll K H vs ds
  | _, _, .nil, _ => .nil
  | _, _, .cons h t, z => by
    simp only [PyData.hasDictAll, Bool.or_eq_false_iff] at z
    exact .cons (Dr.dp h z.1) (DrAll.dp t z.2)
end
/-! ### types -/
def tyD : PyData → String
  | .none => "NoneType"
  | .bool _ => "bool"
  | .int _ => "int"
  | .str _ => "str"
  | .list _ => "list"
  | .tuple _ => "tuple"
  | .dict _ => "dict"
theorem Dr.ty {r : Addr} {H : Hp} {K : PySem.W.Frag} {v : V} {d : PyData} (h : Dr r H v d) : TyX K H v (.type (tyD d)) := by
  cases h with
  | non => exact .base .non
  | bl b => exact .base (.bl b)
  | int i => exact .base (.int i)
  | str x => exact .base (.str x)
  | lst n e _ => exact .base (.lst e)
  | tup n e _ => exact .base (.tup e)
  | dct n e _ => exact .base (.dK e)
def isD (c : String) (d : PyData) : Bool := tyD d == c || (c == "int" && tyD d == "bool")
def cls6 : List String := ["int", "bool", "str", "list", "tuple", "dict"]
def tys7 : List String := ["NoneType", "bool", "int", "str", "list", "tuple", "dict"]
theorem kit42 : (tys7.all fun t => cls6.all fun c => decide (kitB t c = some (t == c || (c == "int" && t == "bool")))) = true := by decide +kernel
theorem kitD {K : PySem.W.Frag} {c : String} (d : PyData) (hc : c ∈ cls6) : PySem.W.kitOne K (.type (tyD d)) (.type c) = some (isD c d) := by
  have h := List.all_eq_true.mp kit42 (tyD d) (by cases d <;> simp [tyD, tys7])
  exact kit_ty (of_decide_eq_true (List.all_eq_true.mp h c hc))
theorem k_isi {r : Addr} {K : PySem.W.Frag} {H : Hp} {v : V} {d : PyData} {c : String} {Q : VK} (h : Dr r H v d) (hc : c ∈ cls6) (q : Q (.bl (isD c d)) H) : rIsi K [v, .ty c] H Q :=
  ⟨v, .ty c, _, _, _, rfl, .ty c, h.ty, kitD d hc, q⟩
theorem k_isi2 {r p : Addr} {K : PySem.W.Frag} {H : Hp} {v : V} {d : PyData} {c e : String} {Q : VK} (h : Dr r H v d) (hp : H p = some (.tup [.ty c, .ty e])) (hc : c ∈ cls6) (he : e ∈ cls6)
    (q : Q (.bl (isD c d || isD e d)) H) : rIsiT K [v, .ref p] H Q := by
  refine ⟨v, p, _, _, _, _, rfl, hp, .cons (.ty c) (.cons (.ty e) .nil), h.ty, ?_, q⟩
  refine kitAny_cons (kitD d hc) (fun z => ?_) (fun z => by rw [z]; rfl)
  rw [z, Bool.false_or]
  exact kitAny_cons (kitD d he) (fun z => by rw [z]; exact kitAny_nil) (fun z => z)
/-! ### == of any list with an empty one; is not True -/
def rEqNil (K : PySem.W.Frag) : R2 := fun x y H Q => ∃ a b xs, x = .ref a ∧ y = .ref b ∧ SqL K H a xs ∧ SqL K H b [] ∧ Q (.bl xs.isEmpty) H
theorem op_eqNil {X : Cx} (hu : X.A.units + 64 < cLine) : OpR X (compareOp .Eq) (rEqNil X.K) := by
  intro pins s σ H x y v u Q I rx ry h
  obtain ⟨a, b, xs, rfl, rfl, ha, hb, q⟩ := h
  cases xs with
  | nil => exact op_eqD hu pins s σ H _ _ v u Q I rx ry ⟨_, _, .lst ha .nil, .lst hb .nil, shNil, shNil, by simpa [PyData.eqv, PyData.eqvAll] using q⟩
  | cons z zs =>
    cases rx
    cases ry
    obtain ⟨i1, r1, l1, _⟩ := I.list ha
    obtain ⟨i2, r2, l2, _⟩ := I.list hb
    cases r2
    cases r1
    exact SeqAt.eq_list_lengthsAt l1.isList l2.isList (by simp) (by omega) ⟨.bl false, H, I, rfl, q⟩
theorem k_eqNil {K : PySem.W.Frag} {a b : Addr} {xs : List V} {H : Hp} {Q : VK} (ha : SqL K H a xs) (hb : SqL K H b []) (q : Q (.bl xs.isEmpty) H) : rEqNil K (.ref a) (.ref b) H Q := ⟨a, b, xs, rfl, rfl, ha, hb, q⟩
def rNotBl : R2 := fun x y H Q => ∃ b : Bool, y = .bl b ∧ ((∃ i, x = .int i ∧ Q (.bl true) H) ∨ ∃ c, x = .bl c ∧ Q (.bl (!decide (c = b))) H)
theorem op_notBl2 {X : Cx} : OpR X (compareOp .IsNot) rNotBl := by
  intro pins s σ H x y v u Q I rx ry h
  obtain ⟨b, rfl, h⟩ := h
  cases ry
  rcases h with ⟨i, rfl, q⟩ | ⟨c, rfl, q⟩
  · obtain ⟨t, rfl⟩ := rx
    exact wpAny_isNot_other (by rfl) (fun e => nomatch e) ⟨.bl true, H, I, rfl, q⟩
  · cases rx
    by_cases e : c = b
    · subst e
      exact wpAny_isNot_self (by cases c <;> rfl) ⟨.bl false, H, I, rfl, by simpa using q⟩
    · exact wpAny_isNot_other (by cases c <;> rfl) (fun z => e (by injection z)) ⟨.bl true, H, I, rfl, by simpa [e] using q⟩
/-! ### what the program's own looks say of data -/
def ndInt : PyData → Bool
  | .int _ => true
  | _ => false
def itemsD : PyData → Option (List PyData)
  | .list xs => some xs
  | .tuple xs => some xs
  | _ => none
def areIntsD (d : PyData) (k : Int) : Bool := match itemsD d with
  | some xs => decide ((xs.length : Int) = k) && xs.all ndInt
  | none => false
def fracD (d : PyData) : Bool := match itemsD d with
  | some [.int u, .int w] => decide (0 < w) && decide (Nat.gcd u.natAbs w.natAbs = 1)
  | _ => false
def lowD (i : Int) : Option Int → Bool
  | none => true
  | some x => decide (x ≤ i)
def highD (i : Int) : Option Int → Bool
  | none => true
  | some x => decide (i ≤ x)
def withinD (d : PyData) (l m : Option Int) : Bool := match d with
  | .int i => lowD i l && highD i m
  | _ => false
def optV : Option Int → V
  | none => .non
  | some i => .int i
theorem isInt_eq (d : PyData) : (isD "int" d && !isD "bool" d) = ndInt d := by cases d <;> rfl
def spIsInt : Sp := fun vs H Q _ => ∃ (r : Addr) (v : V) (d : PyData), vs = [v] ∧ Dr r H v d ∧ ∀ H', Same H H' → Q (.bl (ndInt d)) H'
def spWithin : Sp := fun vs H Q _ => ∃ (r : Addr) (v : V) (d : PyData) (l m : Option Int), vs = [v, optV l, optV m] ∧ Dr r H v d ∧ ∀ H', Same H H' → Q (.bl (withinD d l m)) H'
def spAreInts : Sp := fun vs H Q _ => ∃ (r : Addr) (v : V) (d : PyData) (k : Int), vs = [v, .int k] ∧ Dr r H v d ∧ (∀ xs, itemsD d = some xs → xs.length ≤ 1000) ∧ ∀ H', Same H H' → Q (.bl (areIntsD d k)) H'
def spFrac : Sp := fun vs H Q _ => ∃ (r : Addr) (v : V) (d : PyData), vs = [v] ∧ Dr r H v d ∧ (∀ xs, itemsD d = some xs → xs.length ≤ 1000) ∧ ∀ H', Same H H' → Q (.bl (fracD d)) H'
theorem ndInt_int : ∀ {d : PyData}, ndInt d = true → ∃ i, d = .int i
  | .int i, _ => ⟨i, rfl⟩
theorem two_ints {d : PyData} (h : areIntsD d 2 = true) : ∃ u z, itemsD d = some [.int u, .int z] := by
  unfold areIntsD at h
  cases hi : itemsD d with
  | none => rw [hi] at h; cases h
  | some xs =>
    rw [hi] at h
    simp only [Bool.and_eq_true, decide_eq_true_eq] at h
    obtain ⟨h1, h2⟩ := h
    match xs, h1, h2 with
    | [x, y], _, h2 =>
      simp only [List.all_cons, List.all_nil, Bool.and_true, Bool.and_eq_true] at h2
      obtain ⟨i, rfl⟩ := ndInt_int h2.1
      obtain ⟨j, rfl⟩ := ndInt_int h2.2
      exact ⟨i, j, rfl⟩
    | [], h1, _ => exact absurd h1 (by decide)
    | [_], h1, _ => exact absurd h1 (by simp)
    | _ :: _ :: _ :: _, h1, _ =>
      simp only [List.length_cons] at h1
      omega
theorem frac_of {d : PyData} (h : fracD d = true) : ∃ u z, itemsD d = some [.int u, .int z] := by
  unfold fracD at h
  split at h
  · exact ⟨_, _, by assumption⟩
  · cases h
theorem fracD_no {d : PyData} (h : areIntsD d 2 = false) : fracD d = false := by
  cases hf : fracD d with
  | false => rfl
  | true =>
    obtain ⟨u, z, e⟩ := frac_of hf
    rw [areIntsD, e] at h
    exact absurd h (by simp [ndInt])
theorem gcd_one (a : Nat) : (((a : Nat) : Int) = 1) ↔ a = 1 := by omega
def spDiv : Sp := fun vs H Q _ => ∃ a b : Int, vs = [.int a, .int b] ∧ ∀ H', Same H H' → Q (.int ((Nat.gcd a.natAbs b.natAbs : Nat) : Int)) H'
theorem gcd_turn {x y : Nat} : Nat.gcd y (x % y) = Nat.gcd x y := by
  rw [Nat.gcd_comm x y, Nat.gcd_rec y x, Nat.gcd_comm]
theorem given_none {n : Nat} {f : Nat → Bool} {v : Nat → V} : (given n f v).isEmpty = (List.range n).all fun i => !f i := by
  unfold given
  rw [List.isEmpty_map]
  induction (List.range n) with
  | nil => rfl
  | cons a r ih =>
    rw [List.filter_cons, List.all_cons]
    cases f a with
    | true => rfl
    | false => simpa using ih
theorem all_range_ds {p : PyData → Bool} {ds : List PyData} : (List.range ds.length).all (fun i => p (ds.getD i .none)) = ds.all p := by
  induction ds with
  | nil => rfl
  | cons d ds ih =>
    rw [List.length_cons, List.range_succ_eq_map, List.all_cons, List.all_map, List.all_cons, ← ih]
    rfl
def spNum (k : Nat) (B : Nat) : Sp := fun vs H Q _ => ∃ (r : Addr) (n : Nat), vs = [.ref r] ∧ Rid r n H ∧ n + k < 1000000 ∧
  ∀ H' (i : Int), Gr r H H' → Rid r (n + k) H' → i.natAbs ≤ B → Q (.int i) H'
/-- data of some form -/
def spDat (k : Nat) (G : PyData → Prop) : Sp := fun vs H Q _ => ∃ (r : Addr) (n : Nat), vs = [.ref r] ∧ Rid r n H ∧ n + k < 1000000 ∧
  ∀ H' v d, Gr r H H' → Rid r (n + k) H' → Dr r H' v d → G d → Q v H'
end Nd

namespace Nd
open PySem PySem.Spec PyProof.Rows L2
/-! ### calls by names alone -/
def byIx (ix : List Nat) {α : Type} (l : List α) : List α := ix.filterMap fun i => l[i]?
theorem byIx_vals {zs : List V} {ws : List Value} (r : Vals zs ws) : ∀ ix : List Nat, Vals (byIx ix zs) (byIx ix ws)
  | [] => .nil
  | i :: ix => by
    unfold byIx
    rw [List.filterMap_cons, List.filterMap_cons]
    cases h : zs[i]? with
    | none =>
      rw [r.none_of h]
      exact byIx_vals r ix
    | some x =>
      obtain ⟨u, h1, h2⟩ := r.get h
      rw [h1]
      exact .cons h2 (byIx_vals r ix)
structure CalK (P : Program) (w : World) (K : PySem.W.Frag) (mg : Str → Option Value) (base : Heap) (CX : CXT) (k : Nat) (x : Str) (ks : List Str) (ix : List Nat) (sp : Sp) : Prop where
  ex : ∃ (f : Addr) (fd : FuncData) (ps : List Str), FnG P w K mg base CX k f fd ps sp ∧ mg x = some (.ref f) ∧ PySem.W.keepIn K (.ref f) = true ∧
    ∀ (s : Shared) (ws : List Value), ws.length = ks.length → BindsTo s fd ⟨[], ks.zip ws⟩ (ps.zip (byIx ix ws))
theorem kwBinds {K : PySem.W.Frag} {x qual : Str} {st : Stmt} {f : Addr} {fd : FuncData} {ps ks : List Str} {ix : List Nat} (F : Fun K x qual st f fd)
    (h : ∀ (kV doc pm : Value) (an : Option Addr) (cdv ct : Value) (ws : List Value), ws.length = ks.length →
      bindArgs (PySem.W.fnOf x qual (defArgs st) (defBody st) (defScope st) .none kV doc pm an cdv ct) ⟨[], ks.zip ws⟩ = pure (ps.zip (byIx ix ws))) :
    ∀ (s : Shared) (ws : List Value), ws.length = ks.length → BindsTo s fd ⟨[], ks.zip ws⟩ (ps.zip (byIx ix ws)) := by
  obtain ⟨oc, od, kV, doc, pm, an, cdv, ct, osl, rfl, lk, hcd⟩ := F.ex
  exact fun s ws hl => .of_eq (h kV doc pm an cdv ct ws hl)
def tKw (n : Nat) (ix : List Nat) (sp : Sp) (E : XK) (tk : TA) : TE := fun σ H Q => tk σ H fun zs H2 => zs.length = n ∧ sp (byIx ix zs) H2 Q E
theorem pe_kw {X : Cx} {CX : CXT} {k : Nat} {x : Str} {ks : List Str} {ix : List Nat} {sp : Sp} {E : XK} {p pos : Pos} {kws : List Keyword} {tk : TA}
    (c : CalK X.prog X.w X.K X.mg X.base CX k x ks ix sp) (hG : X.A.guards = some []) (hr : Room k X.A) (hg : Gl X x) (hx : Passes CX X E) (hkw : PK X kws tk)
    (hall : (backToKw pos (keywordEach kws X.env)).all (·.1.isSome) = true := by rfl) (hks : (backToKw pos (keywordEach kws X.env)).filterMap (·.1) = ks := by rfl) (hdb : (x == ("__debug__" : Str)) = false := by decide)
    (hpl : ((backTo pos (starEach [] X.env)).any (·.1) || (backToKw pos (keywordEach kws X.env)).any (·.1.isNone)) = false := by rfl) :
    PE X (.Call (.Name x p) [] kws pos) (tKw ks.length ix sp E tk) := by
  obtain ⟨f, fd, ps, F, hm, hk, hb⟩ := c.ex
  constructor
  intro pins s σ H Q I h
  apply wpAny_Call_Name_kw (ld_glob I hg hm ?_ hdb)
  apply PySem.W.callWith_KW0 (h₀ := X.base) I.ok.mod.kin hk hall ?_ hpl
  apply thn (hkw.run pos pins s σ H _ I h)
  rintro ws s2 ⟨zs, H2, I2, rz, l2, q2⟩
  refine ⟨I2.kIn, ?_⟩
  rw [hks]
  have run := F.go X.A X.stack s2 H2 ⟨[], ks.zip ws⟩ (byIx ix ws) (byIx ix zs) Q E hG hr I2.env0 (hb s2 ws (rz.length.symm.trans l2)) (byIx_vals rz ix) q2
  refine wpAny_call (codeAny_mono run ?_)
  rintro (e' | fl) s' hq
  · exact hx pins σ H2 s2 e' s' I2 hq
  · cases fl with
    | ret u => exact I2.after hq
    | next => exact hq.elim
    | brk => exact hq.elim
    | cont => exact hq.elim
theorem k_kw {n : Nat} {ix : List Nat} {sp : Sp} {E : XK} {tk : TA} {σ : L2.St} {H : Hp} {Q : VK} (h : tk σ H fun zs H2 => zs.length = n ∧ sp (byIx ix zs) H2 Q E) : tKw n ix sp E tk σ H Q := h
/-! ### for loops -/
def ForIn (J : It) (g : TG) (tb : TS) (D : Ends) (σ : L2.St) (H : Hp) : Prop := tFor (fun _ H R => R J H) g tb D σ H
theorem k_for {wi : TI} {g : TG} {tb : TS} {D : Ends} {σ : L2.St} {H : Hp} (h : wi σ H fun J H1 => ForIn J g tb D σ H1) : tFor wi g tb D σ H := h
theorem forIn_R {lo : Int} {n : Nat} {g : TG} {tb : TS} {nx bk ct : L2.St → Hp → Prop} {rt : VK} {σ : L2.St} {H : Hp} (Pv : Nat → L2.St → Hp → Prop) (h0 : Pv 0 σ H)
    (hs : ∀ i σ H, i < n → Pv i σ H → g (.int (lo + i)) σ H fun σ2 H2 => tb (Ends.mk (Pv (i + 1)) rt nx (Pv (i + 1))) σ2 H2)
    (hd : ∀ σ H, Pv n σ H → nx σ H) : ForIn (Itr lo n) g tb (Ends.mk nx rt bk ct) σ H := for_range (lo := lo) (n := n) Pv h0 hs hd
theorem forIn_L {K : PySem.W.Frag} {a : Addr} {xs : List V} {g : TG} {tb : TS} {nx bk ct : L2.St → Hp → Prop} {rt : VK} {σ : L2.St} {H : Hp} (Pv : Nat → L2.St → Hp → Prop) (h0 : Pv 0 σ H)
    (hl : ∀ i σ H, i ≤ xs.length → Pv i σ H → SqL K H a xs)
    (hs : ∀ i x σ H, xs[i]? = some x → Pv i σ H → g x σ H fun σ2 H2 => tb (Ends.mk (Pv (i + 1)) rt nx (Pv (i + 1))) σ2 H2)
    (hd : ∀ σ H, Pv xs.length σ H → nx σ H) : ForIn (Itl K a) g tb (Ends.mk nx rt bk ct) σ H := for_list (K := K) (a := a) (xs := xs) Pv h0 hl hs hd
/-! ### an expression, a test, by what it gives, once for all that follows -/
theorem k_cutE {te : TE} {σ : L2.St} {H : Hp} {Q : VK} (v : V) (h : ∀ Q' : VK, (∀ H', Same H H' → Q' v H') → te σ H Q') (k : ∀ H', Same H H' → Q v H') : te σ H Q := h Q k
theorem k_cutT {tt : TT} {σ : L2.St} {H : Hp} {Q : Bool → Hp → Prop} (b : Bool) (h : ∀ Q' : Bool → Hp → Prop, (∀ H', Same H H' → Q' b H') → tt σ H Q') (k : ∀ H', Same H H' → Q b H') : tt σ H Q := h Q k
theorem k_andV' {ta tb : TE} {σ : L2.St} {H : Hp} {Q : VK} (h : tAndV ta tb σ H Q) : tAndV ta tb σ H Q := h
theorem withinD_no {d : PyData} {l m : Option Int} (h : ndInt d = false) : withinD d l m = false := by cases d <;> first | rfl | cases h
end Nd

namespace Nd
open PySem PySem.Spec PyProof.Rows L2
/-! ### fractions -/
def fq (q : Rat) : PyData := .tuple [.int q.num, .int (q.den : Int)]
def Fr (r : Addr) (H : Hp) (v : V) (q : Rat) : Prop := ∃ a, v = .ref a ∧ a ≠ r ∧ H a = some (.tup [.int q.num, .int (q.den : Int)])
/-- a new one -/
def FrN (H H' : Hp) (v : V) (q : Rat) : Prop := ∃ a, v = .ref a ∧ H a = none ∧ H' a = some (.tup [.int q.num, .int (q.den : Int)])
theorem FrN.fr {r : Addr} {n : Nat} {H H' : Hp} {v : V} {q : Rat} (h : FrN H H' v q) (R : Rid r n H) : Fr r H' v q := by
  obtain ⟨a, h1, h2, h3⟩ := h
  exact ⟨a, h1, R.ne h2, h3⟩
theorem Fr.gr {r : Addr} {H H' : Hp} {v : V} {q : Rat} (h : Fr r H v q) (g : Gr r H H') : Fr r H' v q := by
  obtain ⟨a, h1, h2, h3⟩ := h
  exact ⟨a, h1, h2, g.all _ _ h2 h3⟩
theorem Fr.same {r : Addr} {H H' : Hp} {v : V} {q : Rat} (h : Fr r H v q) (s : Same H H') : Fr r H' v q := h.gr (Gr.same s)
theorem Fr.put {r D : Addr} {H : Hp} {xs ys : List V} {v : V} {q : Rat} (h : Fr r H v q) (hD : H D = some (.lst xs)) : Fr r (upd H D (.lst ys)) v q := by
  obtain ⟨a, h1, h2, h3⟩ := h
  refine ⟨a, h1, h2, ?_⟩
  rw [upd_ne]
  · exact h3
  · rintro rfl
    rw [hD] at h3
    cases h3
theorem Fr.dr {r : Addr} {H : Hp} {v : V} {q : Rat} (h : Fr r H v q) : Dr r H v (fq q) := by
  obtain ⟨a, rfl, h2, h3⟩ := h
  exact .tup h2 h3 (.cons (.int _) (.cons (.int _) .nil))
theorem Fr.dp {r : Addr} {H : Hp} {K : PySem.W.Frag} {v : V} {q : Rat} (h : Fr r H v q) : Dp K H v (fq q) := by
  obtain ⟨a, rfl, h2, h3⟩ := h
  exact .tup (.inl (.inl h3)) (.cons (.int _) (.cons (.int _) .nil))
theorem k_ix0 {K : PySem.W.Frag} {r : Addr} {v : V} {q : Rat} {H : Hp} {Q : VK} (h : Fr r H v q) (k : Q (.int q.num) H) : rIxT K v (.int 0) H Q := by
  obtain ⟨a, rfl, h2, h3⟩ := h
  exact k_ixT (.inl (.inl h3)) rfl k
theorem k_ix1 {K : PySem.W.Frag} {r : Addr} {v : V} {q : Rat} {H : Hp} {Q : VK} (h : Fr r H v q) (k : Q (.int (q.den : Int)) H) : rIxT K v (.int 1) H Q := by
  obtain ⟨a, rfl, h2, h3⟩ := h
  exact k_ixT (.inl (.inl h3)) rfl k
theorem fq_inj {p q : Rat} (h : p.num = q.num ∧ p.den = q.den) : p = q := Rat.ext h.1 h.2
theorem eqv_fq (p q : Rat) : PyData.eqv (fq p) (fq q) = decide (p = q) := by
  unfold fq
  simp only [PyData.eqv, PyData.eqvAll, Bool.and_true]
  by_cases h : p = q
  · subst h
    simp
  · rw [decide_eq_false h]
    rw [Bool.eq_false_iff]
    intro z
    simp only [Bool.and_eq_true, beq_iff_eq, decide_eq_true_eq] at z
    exact h (fq_inj ⟨z.1, by have := z.2; omega⟩)
theorem sh_fq (q : Rat) : SeqAt.shaped (fq q) = true := by
  simp [fq, SeqAt.shaped, PyData.canLay0, PyData.depth, PyData.canLayAll0, PyData.depthAll]
def Sz (n : Nat) (q : Rat) : Prop := q.num.natAbs < 2 ^ n ∧ q.den < 2 ^ n
theorem Sz.le {n m : Nat} {q : Rat} (h : Sz n q) (l : n ≤ m) : Sz m q := ⟨Nat.lt_of_lt_of_le h.1 (Nat.pow_le_pow_right (by decide) l), Nat.lt_of_lt_of_le h.2 (Nat.pow_le_pow_right (by decide) l)⟩
theorem sz_divInt {u w : Int} {n : Nat} (h0 : w ≠ 0) (hu : u.natAbs < 2 ^ n) (hw : w.natAbs < 2 ^ n) : Sz n (Rat.divInt u w) := by
  constructor
  · rw [Rat.num_divInt]
    have : (w.sign * u / (w.gcd u : Int)).natAbs ≤ u.natAbs := by
      rw [Int.natAbs_ediv_of_dvd]
      · refine Nat.le_trans (Nat.div_le_self _ _) ?_
        rw [Int.natAbs_mul, Int.natAbs_sign_of_ne_zero h0, Nat.one_mul]
        exact Nat.le_refl _
      · exact Int.dvd_mul_of_dvd_right (Int.gcd_dvd_right ..)
    omega
  · rw [Rat.den_divInt, if_neg h0]
    exact Nat.lt_of_le_of_lt (Nat.div_le_self _ _) hw
theorem lt_two {n : Nat} (a : Nat) (h : a < 2 ^ n) : (a : Int).natAbs < 2 ^ n := by rw [Int.natAbs_natCast]; exact h
theorem lt_add {i j : Int} {n : Nat} (hi : i.natAbs < 2 ^ n) (hj : j.natAbs < 2 ^ n) : (i + j).natAbs < 2 ^ (n + 1) := by
  rw [Nat.pow_succ]
  omega
theorem lt_sub {i j : Int} {n : Nat} (hi : i.natAbs < 2 ^ n) (hj : j.natAbs < 2 ^ n) : (i - j).natAbs < 2 ^ (n + 1) := by
  rw [Nat.pow_succ]
  omega
theorem add_divInt (p q : Rat) : p + q = Rat.divInt (p.num * q.den + q.num * p.den) ((p.den : Int) * q.den) := by
  rw [Rat.add_def', ← Rat.divInt_ofNat, Int.natCast_mul]
theorem sub_divInt (p q : Rat) : p - q = Rat.divInt (p.num * q.den - q.num * p.den) ((p.den : Int) * q.den) := by
  rw [Rat.sub_def', ← Rat.divInt_ofNat, Int.natCast_mul]
theorem mul_divInt (p q : Rat) : p * q = Rat.divInt (p.num * q.num) ((p.den : Int) * q.den) := by
  rw [Rat.mul_def', ← Rat.divInt_ofNat, Int.natCast_mul]
theorem den_ne (p q : Rat) : (p.den : Int) * q.den ≠ 0 := Int.mul_ne_zero (by have := p.den_nz; omega) (by have := q.den_nz; omega)
theorem up_lt {i : Int} {n m : Nat} (l : n ≤ m) (h : i.natAbs < 2 ^ n) : i.natAbs < 2 ^ m := Nat.lt_of_lt_of_le h (Nat.pow_le_pow_right (by decide) l)
theorem Sz.add {n m : Nat} {p q : Rat} (hp : Sz n p) (hq : Sz m q) : Sz (n + m + 1) (p + q) := by
  rw [add_divInt]
  refine sz_divInt (den_ne p q) (lt_add (wide_lt hp.1 (lt_two _ hq.2)) ?_) (up_lt (Nat.le_succ _) (wide_lt (lt_two _ hp.2) (lt_two _ hq.2)))
  rw [Nat.add_comm n m]
  exact wide_lt hq.1 (lt_two _ hp.2)
theorem Sz.sub {n m : Nat} {p q : Rat} (hp : Sz n p) (hq : Sz m q) : Sz (n + m + 1) (p - q) := by
  rw [sub_divInt]
  refine sz_divInt (den_ne p q) (lt_sub (wide_lt hp.1 (lt_two _ hq.2)) ?_) (up_lt (Nat.le_succ _) (wide_lt (lt_two _ hp.2) (lt_two _ hq.2)))
  rw [Nat.add_comm n m]
  exact wide_lt hq.1 (lt_two _ hp.2)
theorem Sz.mul {n m : Nat} {p q : Rat} (hp : Sz n p) (hq : Sz m q) : Sz (n + m + 1) (p * q) := by
  rw [mul_divInt]
  exact sz_divInt (den_ne p q) (up_lt (Nat.le_succ _) (wide_lt hp.1 hq.1)) (up_lt (Nat.le_succ _) (wide_lt (lt_two _ hp.2) (lt_two _ hq.2)))
/-! ### the program's reckoning -/
/-- // by any divisor but 0, below 2 ^ 9000 -/
theorem op_fdivZ {X : Cx} : OpR X (binaryOp .FloorDiv) (rI (fun _ j => j ≠ 0 ∧ j.natAbs.log2 < 9000) fun i j => .int (i.fdiv j)) := opI fun i j _ _ _ _ _ hc q =>
  floordiv_int hc.1 q (.inl (PyProof.noPylong_of_log2 hc.2))
def redG (u w : Int) : Int := if w < 0 then -((Nat.gcd u.natAbs w.natAbs : Nat) : Int) else ((Nat.gcd u.natAbs w.natAbs : Nat) : Int)
theorem gcd_le {u w : Int} (h : w ≠ 0) : 0 < Nat.gcd u.natAbs w.natAbs ∧ Nat.gcd u.natAbs w.natAbs ≤ w.natAbs := ⟨Nat.gcd_pos_of_pos_right _ (by omega), Nat.gcd_le_right _ (by omega)⟩
theorem redG_ok {u w : Int} {n : Nat} (h : w ≠ 0) (hw : w.natAbs < 2 ^ n) (h0 : 0 < n) (h9 : n ≤ 9000) : redG u w ≠ 0 ∧ (redG u w).natAbs.log2 < 9000 := by
  have := gcd_le (u := u) h
  unfold redG
  split
  · exact ⟨by omega, Nat.lt_of_lt_of_le (PySem.Flt.log2_lt_of h0 (Nat.lt_of_le_of_lt (by omega) hw)) h9⟩
  · exact ⟨by omega, Nat.lt_of_lt_of_le (PySem.Flt.log2_lt_of h0 (Nat.lt_of_le_of_lt (by omega) hw)) h9⟩
theorem red_up {u w : Int} (h : w ≠ 0) : u.fdiv (redG u w) = (Rat.divInt u w).num := by
  rw [Rat.num_divInt]
  have d : ((Nat.gcd u.natAbs w.natAbs : Nat) : Int) ∣ u := Int.ofNat_dvd_left.mpr (Nat.gcd_dvd_left _ _)
  have e : (w.gcd u : Int) = ((Nat.gcd u.natAbs w.natAbs : Nat) : Int) := by rw [Int.gcd_comm]; rfl
  rw [e]
  unfold redG
  split
  · rw [Int.fdiv_eq_ediv_of_dvd (Int.neg_dvd.mpr d), Int.ediv_neg, Int.sign_eq_neg_one_of_neg (by omega), Int.neg_mul, Int.one_mul, Int.neg_ediv_of_dvd d]
  · rw [Int.fdiv_eq_ediv_of_dvd d, Int.sign_eq_one_of_pos (by omega), Int.one_mul]
theorem red_down {u w : Int} (h : w ≠ 0) : w.fdiv (redG u w) = ((Rat.divInt u w).den : Int) := by
  rw [Rat.den_divInt, if_neg h]
  have d : ((Nat.gcd u.natAbs w.natAbs : Nat) : Int) ∣ w := Int.ofNat_dvd_left.mpr (Nat.gcd_dvd_right _ _)
  have e : w.gcd u = Nat.gcd u.natAbs w.natAbs := by rw [Int.gcd_comm]; rfl
  rw [e, Int.natCast_ediv]
  unfold redG
  split
  · rw [Int.fdiv_eq_ediv_of_dvd (Int.neg_dvd.mpr d), Int.ediv_neg, ← Int.neg_ediv_of_dvd d]
    congr 1
    omega
  · rw [Int.fdiv_eq_ediv_of_dvd d]
    congr 1
    omega
def spNeed : Sp := fun vs H Q _ => ∃ (r : Addr) (v x : V) (d : PyData) (l m : Option Int), vs = [v, x, optV l, optV m] ∧ Dr r H v d ∧ withinD d l m = true ∧ ∀ H', Same H H' → Q .non H'
def spRed : Sp := fun vs H Q _ => ∃ u w : Int, vs = [.int u, .int w] ∧ w ≠ 0 ∧ w.natAbs < 2 ^ 8000 ∧ ∀ H' v, Same H H' → FrN H H' v (Rat.divInt u w) → Q v H'
def spTwo : Sp := fun vs H Q _ => ∃ (r : Addr) (v w : V) (p q : Rat), vs = [v, w] ∧ Fr r H v p ∧ Fr r H w q ∧ ∀ H', Same H H' → Q .non H'
def spBin (f : Rat → Rat → Rat) : Sp := fun vs H Q _ => ∃ (r : Addr) (v w : V) (p q : Rat), vs = [v, w] ∧ Fr r H v p ∧ Fr r H w q ∧ Sz 3000 p ∧ Sz 3000 q ∧
  ∀ H' x, Same H H' → FrN H H' x (f p q) → Q x H'
def spBelow : Sp := fun vs H Q _ => ∃ (r : Addr) (v w : V) (p q : Rat), vs = [v, w] ∧ Fr r H v p ∧ Fr r H w q ∧ Sz 3000 p ∧ Sz 3000 q ∧ ∀ H', Same H H' → Q (.bl (decide (p < q))) H'
theorem FrN.from {H H1 H' : Hp} {v : V} {q : Rat} (s : Same H H1) (h : FrN H1 H' v q) : FrN H H' v q := by
  obtain ⟨a, h1, h2, h3⟩ := h
  refine ⟨a, h1, ?_, h3⟩
  cases e : H a with
  | none => rfl
  | some o =>
    rw [s _ _ e] at h2
    cases h2
theorem fracD_fq (q : Rat) : fracD (fq q) = true := by
  have h1 : (0 : Int) < (q.den : Int) := by have := q.den_nz; omega
  have h2 : Nat.gcd q.num.natAbs (q.den : Int).natAbs = 1 := by rw [Int.natAbs_natCast]; exact q.reduced
  show (decide (0 < (q.den : Int)) && decide (Nat.gcd q.num.natAbs (q.den : Int).natAbs = 1)) = true
  rw [decide_eq_true h1, decide_eq_true h2]
  rfl
theorem ite_f {b : Bool} {A B : Prop} (h : b = false) (k : B) : if b = true then A else B := by rw [h]; exact k
theorem ite_t {b : Bool} {A B : Prop} (h : b = true) (k : A) : if b = true then A else B := by rw [h]; exact k
/-- a list at p -/
def Ls (H : Hp) (p : Addr) (xs : List V) : Prop := H p = some (.lst xs)
theorem Ls.same {H H' : Hp} {p : Addr} {xs : List V} (h : Ls H p xs) (s : Same H H') : Ls H' p xs := s _ _ h
end Nd

namespace Nd
open PySem PySem.Spec PyProof.Rows L2
/-! ### a list of drawn things -/
theorem Gr.over {r D : Addr} {H H1 : Hp} {o : HO} (g : Gr r H H1) (hD : H D = none) : Gr r H (upd H1 D o) := by
  refine ⟨fun b u n e => ?_, fun c t e => ?_⟩
  · rw [upd_ne (ne_of_none e hD)]
    exact g.all _ _ n e
  · rw [upd_ne (ne_of_none e hD)]
    exact g.own _ _ e
theorem lcIn_draw {lo : Int} {n j : Nat} {te : TE} {vs : List Nat} {σ : L2.St} {H1 : Hp} {Q : VK} {r : Addr} {m k : Nat} (Pr : Hp → V → Prop)
    (hgr : ∀ H H' v, Gr r H H' → Pr H v → Pr H' v) (hput : ∀ H D xs ys v, H D = some (.lst xs) → Pr H v → Pr (upd H D (.lst ys)) v) (hz : n ≤ 100000) (hw : ∀ x, wipe ((wipe σ vs).set j (some x)) vs = wipe σ vs)
    (R : Rid r m H1)
    (step : ∀ i H2, i < n → Rid r (m + k * i) H2 → Gr r H1 H2 → ∀ QE : VK, (∀ H4 y, Gr r H2 H4 → Rid r (m + k * (i + 1)) H4 → Pr H4 y → QE y H4) → te ((wipe σ vs).set j (some (.int (lo + i)))) H2 QE)
    (fin : ∀ p H' ys, H1 p = none → Gr r H1 H' → Rid r (m + k * n) H' → p ≠ r → H' p = some (.lst ys) → ys.length = n → (∀ y ∈ ys, Pr H' y) → Q (.ref p) H') :
    LcIn (Itr lo n) (gName j) tYes te vs σ H1 Q := fun D hD =>
  lc_range (lo := lo) (n := n) (fun i H => RidN D r (m + k * i) H ∧ Gr r H1 H ∧ ∃ ys, H D = some (.lst ys) ∧ ys.length = i ∧ ∀ y ∈ ys, Pr H y)
    ⟨R.newN hD, Gr.rfl'.over hD, [], upd_same, rfl, fun y hy => nomatch hy⟩
    (fun i H' hi p => by
      obtain ⟨R1, g1, ys, e1, l1, a1⟩ := p
      refine ⟨hw _, ?_⟩
      refine k_tYes ?_
      rw [if_pos rfl]
      refine step i H' hi R1.rid g1 _ fun H4 y g4 R4 p4 => ?_
      have e4 := g4.all _ _ R1.ne e1
      refine ⟨ys, e4, Nat.lt_of_lt_of_le (Nat.lt_of_lt_of_le (by omega) hz) (by decide), ((R1.gr g4 R4).put), (g1.trans g4).over hD, ys ++ [y], upd_same, by rw [List.length_append, l1]; rfl, fun x hx => ?_⟩
      rw [List.mem_append] at hx
      rcases hx with hx | hx
      · exact hput _ _ _ _ _ e4 (hgr _ _ _ g4 (a1 x hx))
      · obtain rfl := List.mem_singleton.mp hx
        exact hput _ _ _ _ _ e4 p4)
    (fun H' p => by
      obtain ⟨R1, g1, ys, e1, l1, a1⟩ := p
      exact fin D H' ys hD g1 R1.rid R1.ne e1 l1 a1)
theorem given_no {n : Nat} {v : Nat → V} : given n (fun _ => false) v = [] := by
  unfold given
  rw [List.filter_eq_nil_iff.mpr (by intros; decide)]
  rfl
/-! ### xs.count(True), of truths -/
def eqB (b : Bool) (v : Value) : Bool := match v with
  | .bool c => c == b
  | _ => false
theorem eqB_at {b : Bool} {A : Around} {s : Shared} : ∀ {bs : List Bool} {us : List Value}, Vals (bs.map V.bl) us → ∀ y ∈ us, SeqAt.EqAt A s y (.bool b) (eqB b y)
  | [], us, h, y, hy => by
    rw [List.map_nil] at h
    cases h
    cases hy
  | c :: bs, us, h, y, hy => by
    rw [List.map_cons] at h
    cases h with
    | cons h1 h2 =>
      cases h1
      rcases List.mem_cons.mp hy with e | e
      · rw [e]
        exact SeqAt.EqAt.bool_bool c b
      · exact eqB_at h2 y e
theorem eqB_count {b : Bool} : ∀ {bs : List Bool} {us : List Value}, Vals (bs.map V.bl) us → us.countP (eqB b) = bs.count b
  | [], us, h => by
    rw [List.map_nil] at h
    cases h
    rfl
  | c :: bs, us, h => by
    rw [List.map_cons] at h
    cases h with
    | cons h1 h2 =>
      cases h1
      rw [List.countP_cons, List.count_cons, eqB_count h2] <;> rfl
def rCntB (K : PySem.W.Frag) : V → List V → Hp → VK → Prop := fun x xs H Q => ∃ (p : Addr) (bs : List Bool) (b : Bool), x = .ref p ∧ xs = [.bl b] ∧ SqL K H p (bs.map V.bl) ∧ Q (.int (bs.count b : Nat)) H
theorem mt_lcountB {X : Cx} : MtR X "list.count" (rCntB X.K) := by
  intro pins s σ H x xs v us Q I rx rxs h
  obtain ⟨p, bs, b, rfl, rfl, hs, q⟩ := h
  cases rx
  obtain ⟨u, rfl, ru⟩ := rxs.one
  cases ru
  obtain ⟨its, rv, ⟨⟨cls, dd, data, sl⟩, n, ho, hc, hdn, hd⟩, hlen⟩ := I.list hs
  simp only at hc hd
  subst hc hd
  refine call_meets PySem.F.slot_list_count ⟨_, ho, rfl⟩ PySem.F.entry_list_count (PySem.F.args_list_count_2 _ _)
    (SeqAt.list_countAt p its.toArray n dd sl (.bool b) (eqB b)) ⟨ho, fun y hy => eqB_at rv y (by simpa using hy), ?_⟩
  have ec : its.toArray.toList.countP (eqB b) = bs.count b := eqB_count rv
  refine ⟨.int (bs.count b : Nat), H, I.tok _, ⟨s.toks, ?_⟩, q⟩
  show Value.int ((its.toArray.toList.countP (eqB b) : Nat) : Int) s.toks = Value.int ((bs.count b : Nat) : Int) s.toks
  rw [ec]
theorem k_cntB {K : PySem.W.Frag} {p : Addr} {bs : List Bool} {b : Bool} {H : Hp} {Q : VK} (hs : SqL K H p (bs.map V.bl)) (q : Q (.int (bs.count b : Nat)) H) : rCntB K (.ref p) [.bl b] H Q := ⟨p, bs, b, rfl, rfl, hs, q⟩
/-! ### lists of fractions -/
theorem canFq (q : Rat) : PyData.canLay0 (fq q) = true := by
  simp [fq, PyData.canLay0, PyData.canLayAll0]
theorem canFqs : ∀ qs : List Rat, PyData.canLayAll0 (qs.map fq) = true
  | [] => by simp only [List.map_nil, PyData.canLayAll0]
  | q :: qs => by simp only [List.map_cons, PyData.canLayAll0, canFq q, canFqs qs, Bool.and_self]
theorem depFqs : ∀ qs : List Rat, PyData.depthAll (qs.map fq) ≤ 1
  | [] => by simp only [List.map_nil, PyData.depthAll]; omega
  | q :: qs => by
    simp only [List.map_cons, PyData.depthAll]
    have := depFqs qs
    have e : (fq q).depth = 1 := by simp [fq, PyData.depth, PyData.depthAll]
    omega
theorem sh_fqs (qs : List Rat) : SeqAt.shaped (.list (qs.map fq)) = true := by
  have h := depFqs qs
  simp only [SeqAt.shaped, PyData.canLay0, PyData.depth, canFqs qs, Bool.true_and, Bool.and_true]
  simp
  omega
theorem eqvs_fq : ∀ qs : List Rat, PyData.eqvAll (qs.map fq) (qs.map fq) = true
  | [] => by simp only [List.map_nil, PyData.eqvAll]
  | q :: qs => by
    simp only [List.map_cons, PyData.eqvAll, eqv_fq, eqvs_fq qs, decide_true, Bool.and_self]
theorem ne_lists {as bs : List Rat} (h : as = bs) : (!PyData.eqv (.list (as.map fq)) (.list (bs.map fq))) = false := by
  subst h
  simp only [PyData.eqv, eqvs_fq, Bool.not_true]
theorem ne_fq {p q : Rat} (h : p = q) : (!decide (p = q)) = false := by rw [decide_eq_true h]; rfl
theorem ne_bl {x y : Bool} (h : x = y) : (!decide (V.bl x = V.bl y)) = false := by subst h; simp
theorem Fr.two {r p : Addr} {H : Hp} {x y : Int} {q : Rat} (n : p ≠ r) (e : H p = some (.tup [.int x, .int y])) (h1 : x = q.num) (h2 : y = (q.den : Int)) : Fr r H (.ref p) q := ⟨p, rfl, n, by rw [e, h1, h2]⟩
theorem sz0 : Sz 1 0 := ⟨by decide, by decide⟩
theorem sz1 : Sz 1 1 := ⟨by decide, by decide⟩
theorem szm1 : Sz 1 (-1) := ⟨by decide, by decide⟩
theorem cnt3 (a b : Rat) : (([decide (a < b), decide (b < a), decide (a = b)].count true : Nat) : Int) = 1 := by
  by_cases h1 : a < b
  · have h2 : ¬ b < a := Rat.not_lt.mpr (Rat.le_of_lt h1)
    have h3 : a ≠ b := Rat.ne_of_lt h1
    simp [h1, h2, h3]
  · by_cases h2 : b < a
    · have h3 : a ≠ b := (Rat.ne_of_lt h2).symm
      simp [h1, h2, h3]
    · have h3 : a = b := Rat.le_antisymm (Rat.not_lt.mp h2) (Rat.not_lt.mp h1)
      simp [h1, h2, h3]
end Nd

namespace Nd
open PySem PySem.Spec PyProof.Rows L2
/-! ### choices -/
def ch : Nat → Nat → Nat
  | _, 0 => 1
  | 0, _ + 1 => 0
  | n + 1, k + 1 => ch n k + ch n (k + 1)
theorem ch_zero (n : Nat) : ch n 0 = 1 := by cases n <;> rfl
theorem ch_succ (n k : Nat) : ch (n + 1) (k + 1) = ch n k + ch n (k + 1) := rfl
theorem ch_over : ∀ {n k : Nat}, n < k → ch n k = 0
  | 0, k + 1, _ => rfl
  | n + 1, k + 1, h => by rw [ch_succ, ch_over (by omega), ch_over (by omega)]
theorem ch_self : ∀ n : Nat, ch n n = 1
  | 0 => rfl
  | n + 1 => by rw [ch_succ, ch_self n, ch_over (Nat.lt_succ_self n)]
theorem ch_sym : ∀ (n a b : Nat), a + b = n → ch n a = ch n b
  | 0, a, b, h => by
    obtain rfl : a = 0 := by omega
    obtain rfl : b = 0 := by omega
    rfl
  | n + 1, 0, b, h => by
    obtain rfl : b = n + 1 := by omega
    rw [ch_zero, ch_self]
  | n + 1, a + 1, 0, h => by
    obtain rfl : a = n := by omega
    rw [ch_zero, ch_self]
  | n + 1, a + 1, b + 1, h => by
    rw [ch_succ, ch_succ, ch_sym n a (b + 1) (by omega), ch_sym n (a + 1) b (by omega)]
    omega
theorem ch_mul : ∀ (n k : Nat), ((k : Int) + 1) * (ch n (k + 1) : Int) = ((n : Int) - k) * (ch n k : Int)
  | 0, 0 => by simp [ch]
  | 0, k + 1 => by simp [ch]
  | n + 1, 0 => by
    have h := ch_mul n 0
    rw [ch_succ, ch_zero, ch_zero]
    rw [ch_zero] at h
    simp at h ⊢
    omega
  | n + 1, k + 1 => by
    have h1 := ch_mul n k
    have h2 := ch_mul n (k + 1)
    rw [ch_succ n (k + 1), ch_succ n k]
    simp only [Int.natCast_add, Int.natCast_one] at h1 h2 ⊢
    grind
def fac : Nat → Nat
  | 0 => 1
  | k + 1 => fac k * (k + 1)
theorem fac_pos : ∀ k : Nat, 0 < fac k
  | 0 => Nat.one_pos
  | k + 1 => Nat.mul_pos (fac_pos k) (Nat.succ_pos k)
theorem fp_ch (n : Nat) : ∀ k : Nat, Builtin.Math.fallingProduct (n : Int) k = (ch n k : Int) * (fac k : Int)
  | 0 => by rw [PySem.W.mc_fp_zero, ch_zero]; rfl
  | k + 1 => by
    rw [PySem.W.mc_fp_succ, fp_ch n k, show fac (k + 1) = fac k * (k + 1) from rfl]
    have h := ch_mul n k
    simp only [Int.natCast_mul, Int.natCast_add, Int.natCast_one]
    grind
theorem comb_ch (n k : Nat) : PySem.W.mcComb (n : Int) (k : Int) = (ch n k : Int) := by
  by_cases h : k > n
  · rw [PySem.W.mcComb_above (by omega), ch_over h]
    rfl
  · have hk : k ≤ n := by omega
    rw [PySem.W.mcComb_at (m := ((min k (n - k) : Nat) : Int)) (by omega) (by omega) (by omega), Int.toNat_natCast, fp_ch n, fp_ch (min k (n - k)), ch_self]
    have p := fac_pos (min k (n - k))
    rw [Int.natCast_one, Int.one_mul, Int.mul_ediv_cancel _ (by omega)]
    rcases Nat.le_total k (n - k) with z | z
    · rw [Nat.min_eq_left z]
    · rw [Nat.min_eq_right z, ch_sym n (n - k) k (by omega)]
def rComb : List V → Hp → VK → Prop := fun vs H Q => ∃ n k : Nat, vs = [.int (n : Int), .int (k : Int)] ∧ n ≤ 18000 ∧ Q (.int (ch n k : Int)) H
theorem cr_comb {X : Cx} : CallR X (.builtin "math.comb") rComb := by
  intro pins s σ H vs us Q I r h
  obtain ⟨n, k, rfl, hn, q⟩ := h
  obtain ⟨t, u, rfl⟩ := Vals.int2 r
  exact PySem.W.mc_comb (by omega) (by omega) (by omega) (.inr (by omega)) fun _ => ⟨.int _, H, I.tok _, ⟨_, by rw [comb_ch]⟩, q⟩
theorem k_comb {n k : Nat} {H : Hp} {Q : VK} (hn : n ≤ 18000) (q : Q (.int (ch n k : Int)) H) : rComb [.int (n : Int), .int (k : Int)] H Q := ⟨n, k, rfl, hn, q⟩
theorem ch_le : ∀ (n k : Nat), ch n k ≤ 2 ^ n
  | 0, 0 => by decide
  | 0, k + 1 => by simp [ch]
  | n + 1, 0 => by rw [ch_zero]; exact Nat.two_pow_pos _
  | n + 1, k + 1 => by
    rw [ch_succ, Nat.pow_succ]
    have := ch_le n k
    have := ch_le n (k + 1)
    omega
/-! ### walks -/
def W : Nat → Int → Nat
  | 0, s => if s = 0 then 1 else 0
  | t + 1, s => W t (s - 1) + W t (s + 1)
theorem W_succ (t : Nat) (s : Int) : W (t + 1) s = W t (s - 1) + W t (s + 1) := rfl
theorem W_far : ∀ (t : Nat) (s : Int), (t : Int) < s ∨ s < -(t : Int) → W t s = 0
  | 0, s, h => if_neg (by omega)
  | t + 1, s, h => by rw [W_succ, W_far t _ (by omega), W_far t _ (by omega)]
theorem W_odd : ∀ (t : Nat) (s : Int), (s + t) % 2 ≠ 0 → W t s = 0
  | 0, s, h => if_neg (by omega)
  | t + 1, s, h => by rw [W_succ, W_odd t _ (by omega), W_odd t _ (by omega)]
theorem W_ch : ∀ (t k : Nat), W t (2 * (k : Int) - t) = ch t k
  | 0, 0 => rfl
  | 0, k + 1 => by
    rw [W, if_neg (by omega)]
    rfl
  | t + 1, 0 => by
    rw [W_succ, W_far t _ (by omega), show (2 * ((0 : Nat) : Int) - ((t + 1 : Nat) : Int) + 1) = 2 * ((0 : Nat) : Int) - t by omega, W_ch t 0, ch_zero, ch_zero]
  | t + 1, k + 1 => by
    rw [W_succ, show (2 * ((k + 1 : Nat) : Int) - ((t + 1 : Nat) : Int) - 1) = 2 * (k : Int) - t by omega, show (2 * ((k + 1 : Nat) : Int) - ((t + 1 : Nat) : Int) + 1) = 2 * ((k + 1 : Nat) : Int) - t by omega, W_ch t k, W_ch t (k + 1), ch_succ]
theorem W_neg : ∀ (t : Nat) (s : Int), W t (-s) = W t s
  | 0, s => by
    rw [W, W]
    by_cases h : s = 0
    · rw [if_pos h, if_pos (by omega)]
    · rw [if_neg h, if_neg (by omega)]
  | t + 1, s => by
    rw [W_succ, W_succ, show -s - 1 = -(s + 1) by omega, show -s + 1 = -(s - 1) by omega, W_neg t, W_neg t]
    omega
theorem W_le (t : Nat) (s : Int) : W t s ≤ 2 ^ t := by
  induction t generalizing s with
  | zero => rw [W]; split <;> decide
  | succ t ih =>
    rw [W_succ, Nat.pow_succ]
    have := ih (s - 1)
    have := ih (s + 1)
    omega
/-! ### halving as often as it goes -/
theorem two_split : ∀ (n : Nat) (u : Int), u.natAbs = n → u ≠ 0 → ∃ (v : Nat) (a : Int), u = 2 ^ v * (2 * a + 1) := by
  intro n
  induction n using Nat.strongRecOn with
  | ind n ih =>
    intro u hn h0
    by_cases h : u % 2 = 0
    · obtain ⟨v, a, e⟩ := ih (u / 2).natAbs (by omega) (u / 2) rfl (by omega)
      refine ⟨v + 1, a, ?_⟩
      have : u = 2 * (u / 2) := by omega
      rw [this, e, Int.pow_succ]
      grind
    · exact ⟨0, u / 2, by simp; omega⟩
theorem bits_two (v : Nat) : Builtin.Int.intBits ((2 : Int) ^ v) = v + 1 := by
  unfold Builtin.Int.intBits
  have e : ((2 : Int) ^ v).natAbs = 2 ^ v := by rw [Int.natAbs_pow]; rfl
  have p := Nat.two_pow_pos v
  rw [e, if_neg (by simp; omega), Nat.log2_two_pow]
theorem halved_rat {u : Int} {v k : Nat} {a : Int} (e : u = 2 ^ v * (2 * a + 1)) : u / 2 ^ (min k v) = (Rat.divInt u (2 ^ k)).num ∧ ((2 : Int) ^ (k - min k v)) = ((Rat.divInt u (2 ^ k)).den : Int) := by
  have p : ∀ n : Nat, (2 : Int) ^ n ≠ 0 := fun n => Int.ne_of_gt (Int.pow_pos (m := n) (show (0 : Int) < 2 by decide))
  have hd : u / 2 ^ (min k v) = 2 ^ (v - min k v) * (2 * a + 1) := by
    refine Int.ediv_eq_of_eq_mul_right (p _) ?_
    rw [e, ← Int.mul_assoc, ← Int.pow_add]
    congr 2
    omega
  have cop : (u / 2 ^ (min k v)).natAbs.Coprime (2 ^ (k - min k v)) := by
    rcases Nat.le_total k v with z | z
    · rw [Nat.min_eq_left z, Nat.sub_self, Nat.pow_zero]
      exact Nat.coprime_one_right _
    · rw [Nat.min_eq_right z] at hd ⊢
      rw [hd, Nat.sub_self, Int.pow_zero, Int.one_mul]
      refine Nat.Coprime.pow_right _ ?_
      rw [Nat.coprime_comm]
      show Nat.gcd 2 _ = 1
      rw [Nat.gcd_rec, show (2 * a + 1).natAbs % 2 = 1 by omega]
      rfl
  have nz : 2 ^ (k - min k v) ≠ 0 := by have := Nat.two_pow_pos (k - min k v); omega
  have main : Rat.divInt u (2 ^ k) = ⟨u / 2 ^ (min k v), 2 ^ (k - min k v), nz, cop⟩ := by
    rw [Rat.mk_eq_divInt, Rat.divInt_eq_divInt_iff (p k) (by simpa using p (k - min k v)), hd]
    simp only [Int.natCast_pow]
    rw [show ((2 : Nat) : Int) = 2 from rfl, e]
    have h1 : (2 : Int) ^ v * 2 ^ (k - min k v) = 2 ^ (v - min k v) * 2 ^ k := by
      rw [← Int.pow_add, ← Int.pow_add]
      congr 1
      omega
    grind
  rw [main]
  refine ⟨rfl, ?_⟩
  simp [Int.natCast_pow]
/-! ### a value's truth as a test -/
def tTru (K : PySem.W.Frag) (ta : TE) : TT := fun σ H Q => ta σ H fun x H' => ∃ k, TruV K x H' k ∧ Q k H'
theorem pt_tru {X : Cx} {a : Expr} {ta : TE} (ha : PE X a ta) (he : ∀ whole, isTrue a X.env whole = (do let v ← whole; standAt a.pos; holding [v] (truthy v))) : PT X a (tTru X.K ta) := pt_truth ha he
theorem k_tru {K : PySem.W.Frag} {ta : TE} {σ : L2.St} {H : Hp} {Q : Bool → Hp → Prop} (h : ta σ H fun x H' => ∃ k, TruV K x H' k ∧ Q k H') : tTru K ta σ H Q := h
theorem k_truI {K : PySem.W.Frag} {i : Int} {H : Hp} {Q : Bool → Hp → Prop} (h : Q (i != 0) H) : ∃ k, TruV K (.int i) H k ∧ Q k H := ⟨_, rfl, h⟩
theorem k_bits {to : TE} {σ : L2.St} {H : Hp} {Q : VK} (h : to σ H fun x H1 => ∃ i, x = .int i ∧ Q (.int (Builtin.Int.intBits i : Nat)) H1) : tBits to σ H Q := h
/-! ### the program's ways, halves, first shares -/
def spWays : Sp := fun vs H Q _ => ∃ (far : Int) (t : Nat), vs = [.int far, .int (t : Int)] ∧ t ≤ 18000 ∧ Q (.int (W t far : Int)) H
def spHalved : Sp := fun vs H Q _ => ∃ (u : Int) (k : Nat), vs = [.int u, .int (k : Int)] ∧ k ≤ 100000 ∧ u.natAbs < 2 ^ 100000 ∧ ∀ H' v, Same H H' → FrN H H' v (Rat.divInt u (2 ^ k)) → Q v H'
/-- how many ways of t steps come to far at the last one and not before -/
def fst (far : Int) : Nat → Nat
  | 0 => if far = 0 then 1 else 0
  | t + 1 => if far = 0 then 0 else fst (far - 1) t + fst (far + 1) t
theorem W_par {t : Nat} {s : Int} (h : (s + t) % 2 = 0) (h0 : -(t : Int) ≤ s) : ∃ k : Nat, s = 2 * (k : Int) - t := ⟨((s + t) / 2).toNat, by omega⟩
theorem fst_eq : ∀ (t : Nat) (far : Int), 0 ≤ far → (fst far (t + 1) : Int) = (W t (far - 1) : Int) - (W t (far + 1) : Int)
  | 0, far, h => by
    rw [fst]
    by_cases h0 : far = 0
    · subst h0
      rfl
    · rw [if_neg h0, fst, fst, W, W, if_neg (show ¬ far + 1 = 0 by omega)]
      by_cases h1 : far - 1 = 0
      · rw [if_pos h1]
        rfl
      · rw [if_neg h1]
        rfl
  | t + 1, far, h => by
    rw [fst]
    by_cases h0 : far = 0
    · subst h0
      rw [if_pos rfl, show (0 : Int) - 1 = -(0 + 1) by omega, W_neg]
      omega
    · rw [if_neg h0, Int.natCast_add, fst_eq t (far - 1) (by omega), fst_eq t (far + 1) (by omega), W_succ, W_succ, show far - 1 + 1 = far by omega, show far + 1 - 1 = far by omega]
      omega
theorem ballot (t : Nat) (far : Int) (h : 0 ≤ far) : ((t : Int) + 1) * (fst far (t + 1) : Int) = far * (W (t + 1) far : Int) := by
  rw [fst_eq t far h, W_succ]
  by_cases hp : (far - 1 + t) % 2 = 0
  · by_cases h0 : -(t : Int) ≤ far - 1
    · obtain ⟨k, hk⟩ := W_par hp h0
      have e2 : far + 1 = 2 * ((k + 1 : Nat) : Int) - t := by omega
      rw [hk, W_ch, e2, W_ch]
      have hc := ch_mul t k
      have hf : far = 2 * (k : Int) - t + 1 := by omega
      rw [hf]
      simp only [Int.natCast_add]
      grind
    · obtain rfl : far = 0 := by omega
      obtain rfl : t = 0 := by omega
      rfl
  · rw [W_odd t (far - 1) hp, W_odd t (far + 1) (by omega)]
    simp
theorem first_div (t : Nat) (far : Int) (h : 0 ≤ far) : far * (W (t + 1) far : Int) / ((t + 1 : Nat) : Int) = (fst far (t + 1) : Int) := by
  rw [← ballot t far h]
  exact Int.mul_ediv_cancel_left _ (by omega)
theorem fst_le : ∀ (t : Nat) (far : Int), fst far t ≤ 2 ^ t
  | 0, far => by rw [fst]; split <;> decide
  | t + 1, far => by
    rw [fst, Nat.pow_succ]
    have := fst_le t (far - 1)
    have := fst_le t (far + 1)
    split <;> omega
theorem fst_far : ∀ (t : Nat) (far : Int), (t : Int) < far → fst far t = 0
  | 0, far, h => if_neg (by omega)
  | t + 1, far, h => by
    rw [fst, if_neg (by omega), fst_far t _ (by omega), fst_far t _ (by omega)]
def fsR (far : Int) (t : Nat) : Rat := Rat.divInt (fst far t : Int) (2 ^ t)
def spFirst : Sp := fun vs H Q _ => ∃ (far t : Nat), vs = [.int (far : Int), .int (t : Int)] ∧ 1 ≤ far ∧ far ≤ 400 ∧ t ≤ 400 ∧ ∀ H' v, Same H H' → FrN H H' v (fsR far t) → Q v H'
/-- how many ways of t steps, from far off, do not come there -/
def gone (far : Int) : Nat → Nat
  | 0 => if far = 0 then 0 else 1
  | t + 1 => if far = 0 then 0 else gone (far - 1) t + gone (far + 1) t
theorem gone_pos : ∀ (t : Nat) (far : Int), 0 < far → 0 < gone far t
  | 0, far, h => by rw [gone, if_neg (by omega)]; decide
  | t + 1, far, h => by
    rw [gone, if_neg (by omega)]
    have := gone_pos t (far + 1) (by omega)
    omega
/-- all first shares up to t, in parts of 2 ^ t -/
def sumF (far : Int) : Nat → Nat
  | 0 => fst far 0
  | t + 1 => 2 * sumF far t + fst far (t + 1)
theorem sumF_zero : ∀ t : Nat, sumF 0 t = 2 ^ t
  | 0 => rfl
  | t + 1 => by
    rw [sumF, sumF_zero t, Nat.pow_succ, fst, if_pos rfl]
    omega
theorem sumF_succ : ∀ (t : Nat) (far : Int), far ≠ 0 → sumF far (t + 1) = sumF (far - 1) t + sumF (far + 1) t
  | 0, far, h => by
    have e1 : sumF far (0 + 1) = 2 * fst far 0 + fst far (0 + 1) := rfl
    have e2 : fst far 0 = 0 := if_neg h
    have e3 : fst far (0 + 1) = fst (far - 1) 0 + fst (far + 1) 0 := if_neg h
    have e4 : ∀ x, sumF x 0 = fst x 0 := fun _ => rfl
    rw [e1, e2, e3, e4, e4]
    omega
  | t + 1, far, h => by
    have e1 : sumF far (t + 1 + 1) = 2 * sumF far (t + 1) + fst far (t + 1 + 1) := rfl
    have e2 : ∀ x, sumF x (t + 1) = 2 * sumF x t + fst x (t + 1) := fun _ => rfl
    rw [e1, sumF_succ t far h, e2 (far - 1), e2 (far + 1), show fst far (t + 1 + 1) = fst (far - 1) (t + 1) + fst (far + 1) (t + 1) from by rw [fst, if_neg h]]
    omega
theorem sum_gone : ∀ (t : Nat) (far : Int), sumF far t + gone far t = 2 ^ t
  | 0, far => by
    rw [sumF, fst, gone]
    split <;> rfl
  | t + 1, far => by
    by_cases h : far = 0
    · subst h
      rw [sumF_zero, gone, if_pos rfl]
      omega
    · rw [sumF_succ t far h, gone, if_neg h, Nat.pow_succ]
      have := sum_gone t (far - 1)
      have := sum_gone t (far + 1)
      omega
end Nd

namespace Nd
open PySem PySem.Spec PyProof.Rows L2
/-! ### dicts of ints by ints, read as a function that is 0 where no key is -/
theorem few_ints : ∀ (n : Nat) (lo : Int) (ks : List Int), ks.Nodup → (∀ k ∈ ks, lo ≤ k ∧ k < lo + n) → ks.length ≤ n
  | 0, lo, ks, _, h => by
    cases ks with
    | nil => exact Nat.le_refl _
    | cons x xs =>
      have := h x List.mem_cons_self
      omega
  | n + 1, lo, ks, hn, h => by
    by_cases hm : lo + n ∈ ks
    · have h1 := few_ints n lo (ks.erase (lo + n)) (hn.erase _) fun x hx => by
        obtain ⟨h2, h3⟩ := hn.mem_erase_iff.mp hx
        have := h x h3
        omega
      rw [List.length_erase_of_mem hm] at h1
      omega
    · have h1 := few_ints n lo ks hn fun x hx => by
        have := h x hx
        have : x ≠ lo + n := fun e => hm (by rw [← e]; exact hx)
        omega
      omega
def keyI : Key → Int
  | .inl k => k
  | .inr _ => 0
structure Dn (kvs : List (Key × V)) (f : Int → Int) (lo hi : Int) : Prop where
  key : ∀ kv ∈ kvs, ∃ k : Int, kv = (.inl k, .int (f k)) ∧ lo ≤ k ∧ k ≤ hi
  nd : (kvs.map (·.1)).Nodup
  off : ∀ k : Int, valV kvs (.inl k) = none → f k = 0
theorem valV_mem {kvs : List (Key × V)} {k : Key} {v : V} (h : valV kvs k = some v) : (k, v) ∈ kvs := by
  unfold valV at h
  obtain ⟨kv, h1, h2⟩ := Option.map_eq_some_iff.mp h
  have h3 := List.find?_some h1
  have h4 := List.mem_of_find?_eq_some h1
  obtain ⟨a, b⟩ := kv
  simp only [decide_eq_true_eq] at h3
  subst h3 h2
  exact h4
theorem Dn.get {kvs : List (Key × V)} {f : Int → Int} {lo hi : Int} (d : Dn kvs f lo hi) (k : Int) : (valV kvs (.inl k)).getD (.int 0) = .int (f k) := by
  cases h : valV kvs (.inl k) with
  | none =>
    rw [d.off k h]
    rfl
  | some v =>
    obtain ⟨k', e, _⟩ := d.key _ (valV_mem h)
    cases e
    rfl
theorem Dn.nil {lo hi : Int} : Dn [] (fun _ => 0) lo hi := ⟨fun _ h => (nomatch h), List.nodup_nil, fun _ _ => rfl⟩
theorem Dn.mono {kvs : List (Key × V)} {f : Int → Int} {lo hi lo' hi' : Int} (d : Dn kvs f lo hi) (h1 : lo' ≤ lo) (h2 : hi ≤ hi') : Dn kvs f lo' hi' := by
  refine ⟨fun kv h => ?_, d.nd, d.off⟩
  obtain ⟨k, e, a, b⟩ := d.key kv h
  exact ⟨k, e, by omega, by omega⟩
theorem Dn.len {kvs : List (Key × V)} {f : Int → Int} {lo hi : Int} (d : Dn kvs f lo hi) (n : Nat) (h : hi < lo + n) : kvs.length ≤ n := by
  have e : kvs.map (·.1) = (kvs.map fun kv => keyI kv.1).map Sum.inl := by
    rw [List.map_map]
    refine List.map_congr_left fun kv hkv => ?_
    obtain ⟨k, rfl, _⟩ := d.key kv hkv
    rfl
  have hn := d.nd
  rw [e] at hn
  have hn2 : (kvs.map fun kv => keyI kv.1).Nodup := (List.pairwise_map.mp hn).imp fun h z => h (by rw [z])
  have := few_ints n lo (kvs.map fun kv => keyI kv.1) hn2 fun x hx => by
    obtain ⟨kv, h1, rfl⟩ := List.mem_map.mp hx
    obtain ⟨k, rfl, a, b⟩ := d.key kv h1
    exact ⟨a, by show k < _; omega⟩
  rwa [List.length_map] at this
theorem Dn.put {kvs : List (Key × V)} {f g : Int → Int} {lo hi : Int} (d : Dn kvs f lo hi) (k : Int) (v : Int) (h1 : lo ≤ k) (h2 : k ≤ hi) (hg : ∀ j, g j = if j = k then v else f j) :
    Dn (putK kvs (.inl k) (.int v)) g lo hi := by
  refine ⟨fun kv hkv => ?_, ?_, fun j hj => ?_⟩
  · unfold putK at hkv
    split at hkv
    · obtain ⟨kv0, h3, rfl⟩ := List.mem_map.mp hkv
      obtain ⟨k0, rfl, a, b⟩ := d.key kv0 h3
      by_cases e : k0 = k
      · subst e
        refine ⟨k0, ?_, a, b⟩
        simp only [if_pos, hg]
      · refine ⟨k0, ?_, a, b⟩
        rw [if_neg (fun z => e (Sum.inl.inj z)), hg, if_neg e]
    · rename_i hno
      rcases List.mem_append.mp hkv with h3 | h3
      · obtain ⟨k0, rfl, a, b⟩ := d.key kv h3
        have e : k0 ≠ k := fun z => hno (List.any_eq_true.mpr ⟨_, h3, by simp [z]⟩)
        exact ⟨k0, by rw [hg, if_neg e], a, b⟩
      · obtain rfl := List.mem_singleton.mp h3
        exact ⟨k, by rw [hg, if_pos rfl], h1, h2⟩
  · unfold putK
    split
    · rw [List.map_map]
      have : (kvs.map ((fun kv : Key × V => kv.1) ∘ fun kv => if kv.1 = .inl k then (kv.1, V.int v) else kv)) = kvs.map (·.1) := by
        refine List.map_congr_left fun kv _ => ?_
        show (if kv.1 = .inl k then (kv.1, V.int v) else kv).1 = kv.1
        split <;> rfl
      rw [this]
      exact d.nd
    · rename_i hno
      rw [List.map_append, List.nodup_append]
      refine ⟨d.nd, by simp, fun a ha b hb e => ?_⟩
      obtain ⟨kv, h3, rfl⟩ := List.mem_map.mp ha
      simp only [List.map_cons, List.map_nil, List.mem_singleton] at hb
      exact hno (List.any_eq_true.mpr ⟨kv, h3, by simp [e, hb]⟩)
  · rw [valV_put] at hj
    split at hj
    · cases hj
    · rename_i hne
      have hne' : j ≠ k := fun z => hne (by rw [z])
      rw [hg, if_neg hne']
      exact d.off j hj
open Classical in
/-- what the first i entries hold -/
noncomputable def seen (kvs : List (Key × V)) (f : Int → Int) (i : Nat) : Int → Int := fun k => if (Sum.inl k : Key) ∈ (kvs.take i).map (·.1) then f k else 0
theorem seen_zero {kvs : List (Key × V)} {f : Int → Int} : seen kvs f 0 = fun _ => 0 := by
  funext k
  simp [seen]
theorem Dn.at {kvs : List (Key × V)} {f : Int → Int} {lo hi : Int} (d : Dn kvs f lo hi) {i : Nat} {kv : Key × V} (h : kvs[i]? = some kv) : ∃ k : Int, kv = (.inl k, .int (f k)) ∧ lo ≤ k ∧ k ≤ hi ∧
    ∀ j, seen kvs f (i + 1) j = seen kvs f i j + if j = k then f k else 0 := by
  obtain ⟨k, rfl, a, b⟩ := d.key kv (List.mem_of_getElem? h)
  refine ⟨k, rfl, a, b, fun j => ?_⟩
  obtain ⟨hi', e⟩ := List.getElem?_eq_some_iff.mp h
  have ht : kvs.take (i + 1) = kvs.take i ++ [(.inl k, .int (f k))] := by
    rw [List.take_succ, h]
    rfl
  have hnew : (Sum.inl k : Key) ∉ (kvs.take i).map (·.1) := by
    have hnd := d.nd
    rw [show kvs = kvs.take (i + 1) ++ kvs.drop (i + 1) from (List.take_append_drop _ _).symm, ht] at hnd
    simp only [List.map_append, List.map_cons, List.map_nil] at hnd
    rw [List.nodup_append] at hnd
    have h2 := hnd.1
    rw [List.nodup_append] at h2
    exact fun z => h2.2.2 _ z _ (List.mem_singleton.mpr rfl) rfl
  unfold seen
  rw [ht, List.map_append]
  by_cases ejk : j = k
  · subst ejk
    rw [if_neg hnew, if_pos rfl, Int.zero_add]
    exact if_pos (List.mem_append.mpr (.inr (List.mem_singleton.mpr rfl)))
  · rw [if_neg ejk, Int.add_zero]
    congr 1
    simp only [List.map_cons, List.map_nil, List.mem_append, List.mem_singleton, eq_iff_iff]
    exact ⟨fun z => z.elim id fun z => absurd (Sum.inl.inj z) ejk, .inl⟩
theorem Dn.all {kvs : List (Key × V)} {f : Int → Int} {lo hi : Int} (d : Dn kvs f lo hi) : seen kvs f kvs.length = f := by
  funext k
  unfold seen
  rw [List.take_length]
  split
  · rfl
  · rename_i h
    cases hv : valV kvs (.inl k) with
    | none => exact (d.off k hv).symm
    | some v => exact absurd (List.mem_map.mpr ⟨_, valV_mem hv, rfl⟩) h
theorem mergeK_nd : ∀ (more kvs : List (Key × V)), ((kvs ++ more).map (·.1)).Nodup → mergeK kvs more = kvs ++ more
  | [], kvs, _ => by simp [mergeK]
  | p :: r, kvs, h => by
    have hnew : valV kvs p.1 = none := by
      cases hv : valV kvs p.1 with
      | none => rfl
      | some v =>
        rw [List.map_append, List.nodup_append] at h
        exact absurd rfl (h.2.2 _ (List.mem_map.mpr ⟨_, valV_mem hv, rfl⟩) p.1 (List.mem_map.mpr ⟨p, List.mem_cons_self, rfl⟩))
    show mergeK (putK kvs p.1 p.2) r = _
    rw [putK_new p.2 hnew, mergeK_nd r _ (by rw [List.append_assoc]; exact h), List.append_assoc]
    rfl
theorem Dn.filter {kvs : List (Key × V)} {f g : Int → Int} {lo hi : Int} (d : Dn kvs f lo hi) (far : Int) (hg : ∀ j, g j = if j = far then 0 else f j) :
    Dn (kvs.filter fun kv => decide (kv.1 ≠ .inl far)) g lo hi := by
  refine ⟨fun kv h => ?_, ?_, fun k h => ?_⟩
  · obtain ⟨h1, h2⟩ := List.mem_filter.mp h
    obtain ⟨k, rfl, a, b⟩ := d.key kv h1
    have : k ≠ far := fun e => by simp [e] at h2
    exact ⟨k, by rw [hg, if_neg this], a, b⟩
  · exact (List.filter_sublist.map _).nodup d.nd
  · rw [hg]
    split
    · rfl
    · rename_i hne
      refine d.off k ?_
      cases hv : valV kvs (.inl k) with
      | none => rfl
      | some v =>
        exfalso
        have hm : ((.inl k, v) : Key × V) ∈ kvs.filter fun kv => decide (kv.1 ≠ .inl far) := List.mem_filter.mpr ⟨valV_mem hv, by simp [hne]⟩
        unfold valV at h
        rw [Option.map_eq_none_iff] at h
        have := List.find?_eq_none.mp h _ hm
        simp at this
/-! ### steps -/
theorem k_dnewK {σ : L2.St} {H : Hp} {Q : VK} (h : ∀ p, H p = none → Q (.ref p) (upd H p (.dK []))) : tDNewK σ H Q := h
theorem k_dget2 {td ty tx : TE} {σ : L2.St} {H : Hp} {Q : VK} (h : td σ H fun x H1 => ∃ a, x = .ref a ∧ IsD H1 a ∧ ty σ H1 fun y H2 => tx σ H2 fun z H3 => ∃ o, DGet H3 a y o ∧ Q (o.getD z) H3) : tDGet2 td ty tx σ H Q := h
theorem k_dput {td ty tv : TE} {nx bk ct : L2.St → Hp → Prop} {rt : VK} {σ : L2.St} {H : Hp} (h : tv σ H fun v H1 => td σ H1 fun x H2 => ty σ H2 fun y H3 => ∃ a H4, x = .ref a ∧ DPut H3 a y v H4 ∧ nx σ H4) :
    sDPut td ty tv (Ends.mk nx rt bk ct) σ H := h
theorem k_dispC {k : Int} {v : V} {σ : L2.St} {H : Hp} {Q : VK} (q : ∀ p H', H p = none → Same H H' → H' p = some (.dK [(.inl k, v)]) → Q (.ref p) H') : tDisp [(tC (.int k), tC v)] σ H Q := fun p hp => by
  refine ⟨upd_same, [(.inl k, v)], rfl, by simp, ?_⟩
  refine q p _ hp ?_ upd_same
  rw [upd_upd]
  exact Same.new hp
/-- all but L stays -/
def Gx (L : Addr) (H H' : Hp) : Prop := ∀ b o, b ≠ L → H b = some o → H' b = some o
theorem Gx.trans {L : Addr} {H H1 H2 : Hp} (a : Gx L H H1) (b : Gx L H1 H2) : Gx L H H2 := fun c o n e => b c o n (a c o n e)
theorem Gx.same {L : Addr} {H H' : Hp} (a : Same H H') : Gx L H H' := fun c o _ e => a c o e
theorem Gx.put {L : Addr} {H : Hp} {o : HO} : Gx L H (upd H L o) := fun b u n e => by rw [upd_ne n]; exact e
end Nd

namespace Nd
open PySem PySem.Spec PyProof.Rows L2
/-! ### walks over a dict's entries -/
theorem k_lockS {t : TS} {nx bk ct : L2.St → Hp → Prop} {rt : VK} {σ : L2.St} {H : Hp} {d : Addr} {u : HO} (hd : H d = some u) (m : Mut (some u))
    (h : ∀ od, t (Ends.mk (fun σ' H' => H' d = some (.frz od u) ∧ nx σ' (upd H' d u)) (fun v H' => H' d = some (.frz od u) ∧ rt v (upd H' d u)) (fun σ' H' => H' d = some (.frz od u) ∧ bk σ' (upd H' d u))
      (fun σ' H' => H' d = some (.frz od u) ∧ ct σ' (upd H' d u))) σ (upd H d (.frz od u))) : tLock t (Ends.mk nx rt bk ct) σ H := ⟨d, u, hd, m, h⟩
theorem k_lockE {t : TE} {σ : L2.St} {H : Hp} {Q : VK} {d : Addr} {u : HO} (hd : H d = some u) (m : Mut (some u))
    (h : ∀ od, t σ (upd H d (.frz od u)) fun v H' => H' d = some (.frz od u) ∧ Q v (upd H' d u)) : tLockE t σ H Q := ⟨d, u, hd, m, h⟩
theorem k_items {td : TE} {σ : L2.St} {H : Hp} {R : It → Hp → Prop} (h : td σ H fun x H1 => ∃ d o kvs, x = .ref d ∧ H1 d = some (.frz o (.dK kvs)) ∧ R (Iti d o kvs) H1) : iItems td σ H R := h
theorem forIn_it {J : It} {n : Nat} {G : Hp → Prop} {Y : Nat → Hp → V → Hp → Prop} (w : Walk J n G Y) {g : TG} {tb : TS} {nx bk ct : L2.St → Hp → Prop} {rt : VK} {σ : L2.St} {H : Hp} (Pv : Nat → L2.St → Hp → Prop) (h0 : Pv 0 σ H)
    (hG : ∀ i σ H, i ≤ n → Pv i σ H → G H) (hs : ∀ i x σ H H', i < n → Pv i σ H → Y i H x H' → g x σ H' fun σ2 H2 => tb (Ends.mk (Pv (i + 1)) rt nx (Pv (i + 1))) σ2 H2) (hd : ∀ σ H, Pv n σ H → nx σ H) :
    ForIn J g tb (Ends.mk nx rt bk ct) σ H := for_it w Pv h0 hG hs hd
theorem pairs_mono {α β : Type} {F G : α → β → Prop} (h : ∀ a b, F a b → G a b) : ∀ {l : List α} {m : List β}, Paired F l m → Paired G l m
  | _, _, .nil => .nil
  | _, _, .cons a t => .cons (h _ _ a) (pairs_mono h t)
theorem pairs_len {α β : Type} {F : α → β → Prop} : ∀ {l : List α} {m : List β}, Paired F l m → l.length = m.length
  | _, _, .nil => rfl
  | _, _, .cons _ t => congrArg (· + 1) (pairs_len t)
def PairAt (H : Hp) (p : Addr) (kv : Key × V) : Prop := H p = some (.tup [kV kv.1, kv.2])
theorem filter_take {kvs : List (Key × V)} {c : Key × V → Bool} {i : Nat} {kv : Key × V} (h : kvs[i]? = some kv) : (kvs.take (i + 1)).filter c = (kvs.take i).filter c ++ if c kv = true then [kv] else [] := by
  rw [List.take_succ, h, List.filter_append]
  congr 1
  show List.filter c [kv] = _
  rw [List.filter_cons]
  rfl
theorem lcIn_items {K : PySem.W.Frag} {d : Addr} {od : Obj} {kvs : List (Key × V)} {i j : Nat} {tt : TT} {vs : List Nat} {σ : L2.St} {H1 : Hp} {Q : VK} (c : Key × V → Bool) (hd : H1 d = some (.frz od (.dK kvs))) (hz : kvs.length ≤ 50000)
    (h1 : ∀ x y, (((wipe σ vs).set i (some x)).set j (some y))[i]? = some (some x)) (h2 : ∀ x y, (((wipe σ vs).set i (some x)).set j (some y))[j]? = some (some y)) (hw : ∀ x y, wipe (((wipe σ vs).set i (some x)).set j (some y)) vs = wipe σ vs)
    (step : ∀ kv ∈ kvs, ∀ H2, Same H1 H2 → ∀ QT : Bool → Hp → Prop, (∀ H3, Same H2 H3 → QT (c kv) H3) → tt (((wipe σ vs).set i (some (kV kv.1))).set j (some kv.2)) H2 QT)
    (fin : ∀ p H' ps, H1 p = none → Same H1 H' → H' p = some (.lst (ps.map V.ref)) → Paired (PairAt H') ps (kvs.filter c) → Q (.ref p) H') :
    LcIn (Iti d od kvs) (gTup K 2 (gCons (gName i) (gCons (gName j) gNil))) tt (tTup (tCons (tVar i) (tCons (tVar j) tNil))) vs σ H1 Q := fun D hD =>
  lc_it walk_items (fun n H => Same H1 H ∧ ∃ ps : List Addr, H D = some (.lst (ps.map V.ref)) ∧ Paired (PairAt H) ps ((kvs.take n).filter c) ∧ ∀ p ∈ ps, p ≠ D)
    ⟨Same.new hD, [], upd_same, by rw [List.take_zero]; exact .nil, fun _ h => (nomatch h)⟩ (fun n H _ p => p.1 _ _ hd)
    (fun n x H H' hn p y => by
      obtain ⟨s1, ps, eD, hp, hoff⟩ := p
      obtain ⟨T, a, b, rfl, hT, rfl, ha, hb⟩ := y
      obtain ⟨kv, hkv⟩ : ∃ kv, kvs[n]? = some kv := ⟨kvs[n], by simp [hn]⟩
      simp only [hkv, Option.map_some] at ha hb
      cases ha
      cases hb
      have sT : Same H (upd H T (.tup [kV kv.1, kv.2])) := Same.new hT
      have hl : ps.length ≤ n := by
        rw [pairs_len hp]
        exact Nat.le_trans (List.length_filter_le _ _) (by rw [List.length_take]; omega)
      refine k_gtup (.inl (.inl upd_same)) rfl ?_
      refine k_gcons ?_
      refine k_gname ?_
      refine k_gcons ?_
      refine k_gname ?_
      refine k_gnil ?_
      refine ⟨hw _ _, step kv (List.mem_of_getElem? hkv) _ (s1.trans sT) _ fun H3 s3 => ?_⟩
      have eD3 := s3 _ _ (sT _ _ eD)
      have hp3 : Paired (PairAt H3) ps ((kvs.take n).filter c) := pairs_mono (fun a b h => s3 _ _ (sT _ _ h)) hp
      cases hc : c kv with
      | false =>
        rw [if_neg (by decide)]
        refine ⟨s1.trans (sT.trans s3), ps, eD3, ?_, hoff⟩
        rw [filter_take hkv, hc]
        simpa using hp3
      | true =>
        rw [if_pos rfl]
        refine k_tup (k_cons (k_var (h1 _ _) (k_cons (k_var (h2 _ _) (k_nil ⟨small64 (by simp), fun p hpn => ?_⟩)))))
        have nD : p ≠ D := fun e => by rw [e, eD3] at hpn; cases hpn
        have s4 : Same H3 (upd H3 p (.tup [kV kv.1, kv.2])) := Same.new hpn
        refine ⟨_, s4 _ _ eD3, ?_, fun b o e => ?_, ps ++ [p], ?_, ?_, fun z hz' => ?_⟩
        · rw [List.length_map]
          exact Nat.lt_of_le_of_lt hl (Nat.lt_of_lt_of_le hn (Nat.le_trans hz (by decide)))
        · rw [upd_ne (ne_of_none e hD)]
          exact s4 _ _ (s3 _ _ (sT _ _ (s1 _ _ e)))
        · rw [upd_same, List.map_append]
          rfl
        · rw [filter_take hkv, hc, if_pos rfl]
          have up : ∀ a b, a ≠ D → PairAt H3 a b → PairAt (upd (upd H3 p (.tup [kV kv.1, kv.2])) D (.lst (ps.map V.ref ++ [.ref p]))) a b := fun a b na h => by
            unfold PairAt
            rw [upd_ne na]
            exact s4 _ _ h
          refine Paired.snoc ?_ ?_
          · have : ∀ {l : List Addr} {m : List (Key × V)}, (∀ a ∈ l, a ≠ D) → Paired (PairAt H3) l m → Paired (PairAt (upd (upd H3 p (.tup [kV kv.1, kv.2])) D (.lst (ps.map V.ref ++ [.ref p])))) l m := by
              intro l m hl' h
              induction h with
              | nil => exact .nil
              | cons h t ih => exact .cons (up _ _ (hl' _ List.mem_cons_self) h) (ih fun a ha => hl' a (List.mem_cons_of_mem _ ha))
            exact this hoff hp3
          · unfold PairAt
            rw [upd_ne nD, upd_same]
        · rcases List.mem_append.mp hz' with h | h
          · exact hoff z h
          · rw [List.mem_singleton.mp h]
            exact nD)
    (fun H' p => by
      obtain ⟨s1, ps, eD, hp, _⟩ := p
      rw [List.take_length] at hp
      exact fin D H' ps hD s1 eD hp)
theorem pairs_sqT {K : PySem.W.Frag} {H : Hp} {ps : List Addr} {m : List (Key × V)} (h : Paired (PairAt H) ps m) : Paired (fun p (kv : Key × V) => SqT K H p [kV kv.1, kv.2]) ps m := pairs_mono (fun _ _ e => .inl (.inl e)) h
end Nd
namespace Nd
open PySem PySem.Spec PyProof.Rows L2
theorem lcIn_enum {K : PySem.W.Frag} {a : Addr} {xs : List V} {i j : Nat} {te : TE} {vs : List Nat} {σ : L2.St} {H1 : Hp} {Q : VK} (v : Nat → V) (hx : SqL K H1 a xs) (hz : xs.length ≤ 50000)
    (hw : ∀ x y, wipe (((wipe σ vs).set i (some x)).set j (some y)) vs = wipe σ vs)
    (step : ∀ n x H2, xs[n]? = some x → Same H1 H2 → ∀ QE : VK, (∀ H4, Same H2 H4 → QE (v n) H4) → te (((wipe σ vs).set i (some (.int (n : Nat)))).set j (some x)) H2 QE)
    (fin : ∀ p H', H1 p = none → Same H1 H' → H' p = some (.lst ((List.range xs.length).map v)) → Q (.ref p) H') :
    LcIn (Ite K a) (gTup K 2 (gCons (gName i) (gCons (gName j) gNil))) tYes te vs σ H1 Q := fun D hD =>
  lc_it walk_enum (fun n H => Same H1 H ∧ H D = some (.lst ((List.range n).map v))) ⟨Same.new hD, upd_same⟩ (fun n H _ p => p.1.seq hx)
    (fun n x H H' hn p y => by
      obtain ⟨s1, eD⟩ := p
      obtain ⟨T, p1, p2, rfl, hT, rfl, ha, hb⟩ := y
      obtain rfl : p1 = .int (n : Nat) := (Option.some.inj ha).symm
      have sT : Same H (upd H T (.tup [.int (n : Nat), p2])) := Same.new hT
      refine k_gtup (.inl (.inl upd_same)) rfl ?_
      refine k_gcons ?_
      refine k_gname ?_
      refine k_gcons ?_
      refine k_gname ?_
      refine k_gnil ?_
      refine ⟨hw _ _, ?_⟩
      refine k_tYes ?_
      rw [if_pos rfl]
      refine step n p2 _ hb (s1.trans sT) _ fun H4 s4 => ?_
      refine ⟨_, s4 _ _ (sT _ _ eD), ?_, fun b o e => ?_, ?_⟩
      · rw [List.length_map, List.length_range]
        exact Nat.lt_of_lt_of_le hn (Nat.le_trans hz (by decide))
      · rw [upd_ne (ne_of_none e hD)]
        exact s4 _ _ (sT _ _ (s1 _ _ e))
      · rw [upd_same, List.range_succ, List.map_append]
        rfl)
    (fun H' p => fin D H' hD p.1 p.2)
theorem sum_two (f : Nat → Int) : ∀ l : List Nat, (l.map fun i => 2 * f i).sum = 2 * (l.map f).sum
  | [] => rfl
  | a :: l => by
    rw [List.map_cons, List.sum_cons, List.map_cons, List.sum_cons, sum_two f l]
    omega
theorem sum_sumF (far : Int) : ∀ t : Nat, ((List.range (t + 1)).map fun i => (fst far i : Int) * 2 ^ (t - i)).sum = (sumF far t : Int)
  | 0 => by simp [sumF]
  | t + 1 => by
    rw [List.range_succ, List.map_append, List.sum_append]
    have e : ((List.range (t + 1)).map fun i => (fst far i : Int) * 2 ^ (t + 1 - i)) = (List.range (t + 1)).map fun i => 2 * ((fst far i : Int) * 2 ^ (t - i)) := by
      refine List.map_congr_left fun i hi => ?_
      have : i < t + 1 := List.mem_range.mp hi
      rw [show t + 1 - i = (t - i) + 1 by omega, Int.pow_succ]
      grind
    rw [e, sum_two fun i => (fst far i : Int) * 2 ^ (t - i), sum_sumF far t]
    simp [sumF]
theorem rep2 {q : Rat} (h1 : q.num.natAbs ≤ 999999999998) (h2 : q.den ≤ 999999999998) : PyData.showable (.list [fq q, fq q]) = true ∧ PyData.depth (.list [fq q, fq q]) ≤ 60 ∧ (PyData.shown (.list [fq q, fq q])).length ≤ sizeLine := by
  have l1 : q.num.natAbs.log2 < 1920 := Nat.lt_of_lt_of_le (PySem.Flt.log2_lt_of (k := 40) (by decide) (by omega)) (by decide)
  have l2 : q.den.log2 < 1920 := Nat.lt_of_lt_of_le (PySem.Flt.log2_lt_of (k := 40) (by decide) (by omega)) (by decide)
  have i1 : PyData.intsShort 13 (.int q.num) = true := intsShort_of_noneOrIn (lo := -999999999999) (hi := 999999999999) (by decide) (by decide) _ (by simp [noneOrIn]; omega)
  have i2 : PyData.intsShort 13 (.int (q.den : Int)) = true := intsShort_of_noneOrIn (lo := -999999999999) (hi := 999999999999) (by decide) (by decide) _ (by simp [noneOrIn]; omega)
  refine ⟨by simp [PyData.showable, PyData.showableAll, fq, l1, l2], by simp [PyData.depth, PyData.depthAll, fq], ?_⟩
  refine Nat.le_trans (shown_le13 ?_ ?_) (by decide)
  · simp [PyData.layable0, PyData.canLay0, PyData.canLayAll0, PyData.depth, PyData.depthAll, PyData.weight, PyData.weightAll, fq]
    split <;> split <;> omega
  · simp [PyData.intsShort, PyData.intsShortAll, fq] at i1 i2 ⊢
    exact ⟨i1, i2⟩
theorem divInt_le {u w : Int} (h0 : w ≠ 0) : (Rat.divInt u w).num.natAbs ≤ u.natAbs ∧ (Rat.divInt u w).den ≤ w.natAbs := by
  constructor
  · rw [Rat.num_divInt]
    rw [Int.natAbs_ediv_of_dvd]
    · refine Nat.le_trans (Nat.div_le_self _ _) ?_
      rw [Int.natAbs_mul, Int.natAbs_sign_of_ne_zero h0, Nat.one_mul]
      exact Nat.le_refl _
    · exact Int.dvd_mul_of_dvd_right (Int.gcd_dvd_right ..)
  · rw [Rat.den_divInt, if_neg h0]
    exact Nat.div_le_self _ _
theorem frAll_dp {K : PySem.W.Frag} {r : Addr} {H : Hp} : ∀ {ys : List V} {qs : List Rat}, Paired (Fr r H) ys qs → DpAll K H ys (qs.map fq)
  | _, _, .nil => .nil
  | _, _, .cons a t => .cons a.dp (frAll_dp t)
theorem lcIn_frs {K : PySem.W.Frag} {a : Addr} {xs : List V} {j : Nat} {te : TE} {vs : List Nat} {σ : L2.St} {H1 : Hp} {Q : VK} {r : Addr} {m : Nat} (q : Nat → Rat) (R : Rid r m H1) (hx : SqL K H1 a xs) (hz : xs.length ≤ 50000)
    (hw : ∀ x, wipe ((wipe σ vs).set j (some x)) vs = wipe σ vs)
    (step : ∀ n x H2, xs[n]? = some x → Same H1 H2 → ∀ QE : VK, (∀ H4 y, Same H2 H4 → FrN H2 H4 y (q n) → QE y H4) → te ((wipe σ vs).set j (some x)) H2 QE)
    (fin : ∀ p H' ys, H1 p = none → Same H1 H' → H' p = some (.lst ys) → Paired (Fr r H') ys ((List.range xs.length).map q) → Q (.ref p) H') :
    LcIn (Itl K a) (gName j) tYes te vs σ H1 Q := fun D hD =>
  lc_list (xs := xs) (fun n H => Same H1 H ∧ ∃ ys, H D = some (.lst ys) ∧ Paired (Fr r H) ys ((List.range n).map q)) ⟨Same.new hD, [], upd_same, .nil⟩ (fun n H _ p => p.1.seq hx)
    (fun n x H hn p => by
      obtain ⟨s1, ys, eD, hp⟩ := p
      have hlt : n < xs.length := (List.getElem?_eq_some_iff.mp hn).1
      refine ⟨hw _, ?_⟩
      refine k_tYes ?_
      rw [if_pos rfl]
      refine step n x H hn s1 _ fun H4 y s4 hy => ?_
      have fy := hy.fr (R.same s1)
      have eD4 := s4 _ _ eD
      refine ⟨ys, eD4, ?_, fun b o e => ?_, ys ++ [y], upd_same, ?_⟩
      · rw [pairs_len hp, List.length_map, List.length_range]
        exact Nat.lt_of_lt_of_le hlt (Nat.le_trans hz (by decide))
      · rw [upd_ne (ne_of_none e hD)]
        exact s4 _ _ (s1 _ _ e)
      · rw [List.range_succ, List.map_append]
        exact Paired.snoc (pairs_mono (fun _ _ h => Fr.put (h.same s4) eD4) hp) (fy.put eD4))
    (fun H' p => by
      obtain ⟨s1, ys, eD, hp⟩ := p
      exact fin D H' ys hD s1 eD hp)
theorem eq_lists {as bs : List Rat} (h : as = bs) : PyData.eqv (.list (as.map fq)) (.list (bs.map fq)) = true := by
  subst h
  simp only [PyData.eqv, eqvs_fq]
theorem k_iEnum {K : PySem.W.Frag} {ta : TA} {σ : L2.St} {H : Hp} {R : It → Hp → Prop} (h : ta σ H fun vs H1 => ∃ a xs, vs = [.ref a] ∧ SqL K H1 a xs ∧ R (Ite K a) H1) : iEnum K ta σ H R := h
theorem ch_pos : ∀ {n k : Nat}, k ≤ n → 0 < ch n k
  | _, 0, _ => by rw [ch_zero]; decide
  | 0, k + 1, h => absurd h (by omega)
  | n + 1, k + 1, h => by
    have := ch_pos (n := n) (k := k) (by omega)
    rw [ch_succ]
    omega
theorem two_cast (t : Nat) : (2 : Int) ^ t = ((2 ^ t : Nat) : Int) := by simp
theorem fsR_num {far : Int} {t : Nat} : (fsR far t).num = 0 ↔ fst far t = 0 := by
  rw [Rat.num_eq_zero, fsR, two_cast, Rat.divInt_ofNat, Rat.mkRat_eq_zero (by have := Nat.two_pow_pos t; omega)]
  omega
theorem fst_zero {far t : Nat} (h1 : 1 ≤ far) (ht : 1 ≤ t) : fst (far : Int) t = 0 ↔ (t < far ∨ ((t : Int) - far) % 2 = 1) := by
  obtain ⟨n, rfl⟩ : ∃ n, t = n + 1 := ⟨t - 1, by omega⟩
  have hb := ballot n (far : Int) (by omega)
  constructor
  · intro h0
    rw [h0] at hb
    by_cases z : n + 1 < far
    · exact .inl z
    · refine .inr ?_
      by_cases hp : ((far : Int) + ((n + 1 : Nat) : Int)) % 2 = 0
      · obtain ⟨k, hk⟩ := W_par hp (by omega)
        rw [hk, W_ch] at hb
        have p := ch_pos (n := n + 1) (k := k) (by omega)
        have : (2 * (k : Int) - ((n + 1 : Nat) : Int)) * (ch (n + 1) k : Int) ≠ 0 := Int.mul_ne_zero (by omega) (by omega)
        exact absurd hb.symm (by simpa using this)
      · omega
  · rintro (z | z)
    · exact fst_far _ _ (by omega)
    · rw [W_odd (n + 1) (far : Int) (by omega)] at hb
      have : ((n : Int) + 1) * (fst (far : Int) (n + 1) : Int) = 0 := by simpa using hb
      rcases Int.mul_eq_zero.mp this with e | e <;> omega
theorem den_dvd {u w : Int} (h0 : w ≠ 0) : ((Rat.divInt u w).den : Int) ∣ w := by
  rw [Rat.den_divInt, if_neg h0]
  refine Int.ofNat_dvd_left.mpr ?_
  exact Nat.div_dvd_of_dvd (Nat.gcd_dvd_left _ _)
theorem fst_self (t : Nat) (h : 1 ≤ t) : fst (t : Int) t = 1 := by
  obtain ⟨n, rfl⟩ : ∃ n, t = n + 1 := ⟨t - 1, by omega⟩
  have e := fst_eq n ((n + 1 : Nat) : Int) (by omega)
  rw [show ((n + 1 : Nat) : Int) - 1 = 2 * (n : Int) - n by omega, W_ch, ch_self, W_far n _ (by omega)] at e
  omega
theorem one_over (k : Nat) : (Rat.divInt 1 (2 ^ k)).num = 1 ∧ ((Rat.divInt 1 (2 ^ k)).den : Int) = 2 ^ k := by
  have h := halved_rat (u := 1) (v := 0) (k := k) (a := 0) (by decide)
  rw [Nat.min_eq_right (Nat.zero_le k)] at h
  refine ⟨h.1.symm.trans (by simp), h.2.symm⟩
end Nd

namespace Nd
open PySem PySem.Spec PyProof.Rows L2
/-! ### all that begin far off come there: by the first time, then again -/
def conv (far : Int) : Nat → Nat → Nat
  | 0, t => fst far 0 * W t 0
  | k + 1, t => conv far k t + fst far (k + 1) * W (t - (k + 1)) 0
theorem conv_zero (t : Nat) : ∀ k : Nat, conv 0 k t = W t 0
  | 0 => by simp [conv, fst]
  | k + 1 => by rw [conv, conv_zero t k, show fst 0 (k + 1) = 0 from if_pos rfl]; simp
theorem conv_succ {far : Int} (h : far ≠ 0) (t : Nat) : ∀ k : Nat, conv far (k + 1) (t + 1) = conv (far - 1) k t + conv (far + 1) k t
  | 0 => by
    have e0 : fst far 0 = 0 := if_neg h
    have e1 : fst far (0 + 1) = fst (far - 1) 0 + fst (far + 1) 0 := if_neg h
    show fst far 0 * W (t + 1) 0 + fst far (0 + 1) * W (t + 1 - (0 + 1)) 0 = fst (far - 1) 0 * W t 0 + fst (far + 1) 0 * W t 0
    rw [e0, e1, Nat.zero_mul, Nat.zero_add, Nat.add_mul]
    rfl
  | k + 1 => by
    have e1 : fst far (k + 1 + 1) = fst (far - 1) (k + 1) + fst (far + 1) (k + 1) := if_neg h
    show conv far (k + 1) (t + 1) + fst far (k + 1 + 1) * W (t + 1 - (k + 1 + 1)) 0 = (conv (far - 1) k t + fst (far - 1) (k + 1) * W (t - (k + 1)) 0) + (conv (far + 1) k t + fst (far + 1) (k + 1) * W (t - (k + 1)) 0)
    rw [conv_succ h t k, e1, Nat.add_mul, show t + 1 - (k + 1 + 1) = t - (k + 1) by omega]
    omega
theorem conv_all : ∀ (t : Nat) (far : Int), conv far t t = W t far
  | 0, far => by
    by_cases h : far = 0
    · subst h
      rfl
    · show fst far 0 * W 0 0 = W 0 far
      rw [show fst far 0 = 0 from if_neg h, show W 0 far = 0 from if_neg h, Nat.zero_mul]
  | t + 1, far => by
    by_cases h : far = 0
    · subst h
      exact conv_zero _ _
    · rw [conv_succ h, conv_all t, conv_all t, W_succ]
/-! ### where the first share is greatest -/
def fb (far most : Nat) : Nat := far + 2 * min ((most - far) / 2) ((far * far + 1 - 3 * far) / 6)
/-- two ticks on -/
theorem ch_two (t k : Nat) (hk : k ≤ t) : (ch (t + 2) (k + 1) : Int) * (((k : Int) + 1) * ((t : Int) + 1 - k)) = ((t : Int) + 2) * ((t : Int) + 1) * (ch t k : Int) := by
  have h1 := ch_mul (t + 1) k
  have e : (ch (t + 2) (k + 1) : Int) = (ch (t + 1) k : Int) + (ch (t + 1) (k + 1) : Int) := by rw [ch_succ]; omega
  rw [e]
  have h3 : ((t : Int) + 1 - k) * (ch (t + 1) k : Int) = ((t : Int) + 1) * (ch t k : Int) := by
    cases k with
    | zero => rw [ch_zero, ch_zero]; simp
    | succ j =>
      have a := ch_mul t j
      rw [ch_succ]
      simp only [Int.natCast_add, Int.natCast_one] at a ⊢
      grind
  simp only [Int.natCast_add, Int.natCast_one] at h1
  grind
theorem fst_two {far k : Nat} (h1 : 1 ≤ far) : (fst (far : Int) (far + 2 * k + 2) : Int) * (((k : Int) + 1) * ((far : Int) + k + 1)) = (((far : Int) + 2 * k) * ((far : Int) + 2 * k + 1)) * (fst (far : Int) (far + 2 * k) : Int) := by
  obtain ⟨n, hn⟩ : ∃ n, far + 2 * k = n + 1 := ⟨far + 2 * k - 1, by omega⟩
  have b1 := ballot n (far : Int) (by omega)
  have b2 := ballot (n + 2) (far : Int) (by omega)
  have w1 : W (n + 1) (far : Int) = ch (n + 1) k := by
    have := W_ch (n + 1) (far + k)
    rw [show (2 * ((far + k : Nat) : Int) - ((n + 1 : Nat) : Int)) = (far : Int) by omega] at this
    rw [this]
    exact ch_sym _ _ _ (by omega)
  have w2 : W (n + 2 + 1) (far : Int) = ch (n + 2 + 1) (k + 1) := by
    have := W_ch (n + 2 + 1) (far + k + 1)
    rw [show (2 * ((far + k + 1 : Nat) : Int) - ((n + 2 + 1 : Nat) : Int)) = (far : Int) by omega] at this
    rw [this]
    exact ch_sym _ _ _ (by omega)
  have c := ch_two (n + 1) k (by omega)
  rw [w1] at b1
  rw [w2] at b2
  rw [hn, show n + 1 + 2 = n + 2 + 1 by omega]
  have hf : (far : Int) = (n : Int) + 1 - 2 * k := by omega
  have p : ((n : Int) + 3) ≠ 0 := by omega
  simp only [Int.natCast_add, Int.natCast_one] at c b1 b2 ⊢
  rw [show n + 2 + 1 = n + 1 + 2 by omega] at b2 ⊢
  refine Int.eq_of_mul_eq_mul_left p ?_
  have b2' : ((n : Int) + 3) * (fst (far : Int) (n + 1 + 2) : Int) = (far : Int) * (ch (n + 1 + 2) (k + 1) : Int) := by
    have : ((n : Int) + ((2 : Nat) : Int) + 1) = (n : Int) + 3 := by omega
    rw [← this]
    exact b2
  have e1 : (far : Int) + k + 1 = (n : Int) + 1 + 1 - k := by omega
  have e2 : (far : Int) + 2 * k = (n : Int) + 1 := by omega
  rw [e1, e2]
  calc ((n : Int) + 3) * ((fst (far : Int) (n + 1 + 2) : Int) * (((k : Int) + 1) * ((n : Int) + 1 + 1 - k)))
      = (((n : Int) + 3) * (fst (far : Int) (n + 1 + 2) : Int)) * (((k : Int) + 1) * ((n : Int) + 1 + 1 - k)) := by grind
    _ = (far : Int) * ((ch (n + 1 + 2) (k + 1) : Int) * (((k : Int) + 1) * ((n : Int) + 1 + 1 - k))) := by rw [b2']; grind
    _ = (far : Int) * (((n : Int) + 1 + 2) * ((n : Int) + 1 + 1) * (ch (n + 1) k : Int)) := by rw [c]
    _ = ((n : Int) + 3) * (((n : Int) + 1) * ((n : Int) + 1 + 1) * (fst (far : Int) (n + 1) : Int)) := by grind
end Nd
namespace Nd
open PySem PySem.Spec PyProof.Rows L2
theorem FrN.same {H H1 H' : Hp} {v : V} {q : Rat} (h : FrN H H1 v q) (s : Same H1 H') : FrN H H' v q := by
  obtain ⟨a, h1, h2, h3⟩ := h
  exact ⟨a, h1, h2, s _ _ h3⟩
theorem FrN.put {D : Addr} {H H1 : Hp} {xs ys : List V} {v : V} {q : Rat} (h : FrN H H1 v q) (hD : H1 D = some (.lst xs)) : FrN H (upd H1 D (.lst ys)) v q := by
  obtain ⟨a, h1, h2, h3⟩ := h
  refine ⟨a, h1, h2, ?_⟩
  rw [upd_ne]
  · exact h3
  · rintro rfl
    rw [hD] at h3
    cases h3
theorem lcIn_frsR {lo : Int} {n : Nat} {j : Nat} {te : TE} {vs : List Nat} {σ : L2.St} {H1 : Hp} {Q : VK} (q : Nat → Rat) (hz : n ≤ 50000)
    (hw : ∀ x, wipe ((wipe σ vs).set j (some x)) vs = wipe σ vs)
    (step : ∀ i H2, i < n → Same H1 H2 → ∀ QE : VK, (∀ H4 y, Same H2 H4 → FrN H2 H4 y (q i) → QE y H4) → te ((wipe σ vs).set j (some (.int (lo + i)))) H2 QE)
    (fin : ∀ p H' ys, H1 p = none → Same H1 H' → H' p = some (.lst ys) → Paired (FrN H1 H') ys ((List.range n).map q) → Q (.ref p) H') :
    LcIn (Itr lo n) (gName j) tYes te vs σ H1 Q := fun D hD =>
  lc_range (lo := lo) (n := n) (fun i H => Same H1 H ∧ ∃ ys, H D = some (.lst ys) ∧ Paired (FrN H1 H) ys ((List.range i).map q)) ⟨Same.new hD, [], upd_same, .nil⟩
    (fun i H hi p => by
      obtain ⟨s1, ys, eD, hp⟩ := p
      refine ⟨hw _, ?_⟩
      refine k_tYes ?_
      rw [if_pos rfl]
      refine step i H hi s1 _ fun H4 y s4 hy => ?_
      have eD4 := s4 _ _ eD
      refine ⟨ys, eD4, ?_, fun b o e => ?_, ys ++ [y], upd_same, ?_⟩
      · rw [pairs_len hp, List.length_map, List.length_range]
        exact Nat.lt_of_lt_of_le hi (Nat.le_trans hz (by decide))
      · rw [upd_ne (ne_of_none e hD)]
        exact s4 _ _ (s1 _ _ e)
      · rw [List.range_succ, List.map_append]
        exact Paired.snoc (pairs_mono (fun _ _ h => FrN.put (h.same s4) eD4) hp) ((hy.from s1).put eD4))
    (fun H' p => by
      obtain ⟨s1, ys, eD, hp⟩ := p
      exact fin D H' ys hD s1 eD hp)
end Nd

namespace Nd
open PySem PySem.Spec PyProof.Rows L2
/-! ### enumerate of a tuple -/
def IteT (K : PySem.W.Frag) (a : Addr) : It where
  go n G := ∃ zs : List V, ∃ z : V, SqT K G a zs ∧ zs[n]? = some z
  yld n G v G' := ∃ q z, v = .ref q ∧ G q = none ∧ G' = upd G q (.tup [.int (n : Nat), z]) ∧ ∀ zs, SqT K G a zs → zs[n]? = some z
  stop n G := ∃ zs : List V, SqT K G a zs ∧ zs.length = n
/-- an enumerate at e over a tuple's walk at d -/
structure EnT (a e d : Addr) (n : Nat) (g : Heap) : Prop where
  en : ∃ was, IsEnum g e d ((n : Nat) : Int) was
  walk : g.IsTupleIter d a n
  ed : e ≠ d
  ae : a ≠ e
  ad : a ≠ d
theorem turnEnT {P : Program} {w : World} {K : PySem.W.Frag} {els : List Expr} {kk : Nat} {tp : Pos} (a e d : Addr) : L2.Turn P w K (.Tuple els kk tp) (IteT K a) [e, d] e (EnT a e d) where
  mem := List.mem_cons_self
  obj := fun n g S c hc => by
    obtain ⟨was, he⟩ := S.en
    obtain ⟨ob, ho, _, hd⟩ := S.walk
    rcases List.mem_cons.mp hc with rfl | hc
    · exact ⟨_, he, fun _ z => nomatch z⟩
    · obtain rfl := List.mem_singleton.mp hc
      exact ⟨ob, ho, fun _ z => by rw [hd] at z; cases z⟩
  keep := fun n g g' S k => by
    obtain ⟨was, he⟩ := S.en
    exact ⟨⟨was, k e List.mem_cons_self _ he⟩, S.walk.at fun o z => k d (by simp) o z, S.ed, S.ae, S.ad⟩
  item := by
    intro X rfl rfl rfl hc n pins s σ G E I hf S hg
    obtain ⟨was, he⟩ := S.en
    obtain ⟨zs, z, hq, hz⟩ := hg
    obtain ⟨its, rv, pt, _⟩ := I.tuple hq
    obtain ⟨u, hu, ru⟩ := rv.get hz
    have hle : e < s.heap.objs.size := Heap.lt_size he
    have hld : d < s.heap.objs.size := by obtain ⟨_, y, _⟩ := S.walk; exact Heap.lt_size y
    have tupA : s.heap.IsTuple a its.toArray := pt
    have nin : e ∉ [d, a] := by simp only [List.mem_cons, List.not_mem_nil, or_false, not_or]; exact ⟨S.ed, fun y => S.ae y.symm⟩
    refine wpAny_pyNext_enum_itemD (Draws.tuple (A := X.A.in1) (I.ok.hd hc) d a S.ad its.toArray) he ⟨S.walk, tupA⟩ (by simpa using (List.getElem?_eq_some_iff.mp hu).1) S.ed nin fun x g' tk hx ho hs' hT hsz hk => ?_
    obtain rfl : u = x := by
      have : its[n]? = some x := by simpa using hx
      exact Option.some.inj (hu.symm.trans this)
    refine ⟨_, rfl, wpAny_letOwnedTupleGo_enum (s := { s with heap := g', toks := tk + 1 }) ho fun g2 he2 sb => ?_⟩
    have eT : g2.get? s.heap.objs.size = some { cls := .type "tuple", data := .seq #[.int n tk, u] } := (sb.2 _ (Nat.ne_of_gt hle)).trans hT
    have ob : ObjOk X.prog X.w (upd G s.heap.objs.size (.tup [.int (n : Nat), z])) g2 s.heap.objs.size (.tup [.int (n : Nat), z]) :=
      ⟨show 2 ≤ sizeLine by decide, [.int n tk, u], .cons ⟨_, rfl⟩ (.cons ru .nil), ⟨_, eT, rfl, _, rfl⟩⟩
    have J : Inv X pins σ (upd G s.heap.objs.size (.tup [.int (n : Nat), z])) { s with heap := g2, toks := tk + 1 } :=
      I.turnedNew (ch := [e, d]) (fun b o nb y => (sb.2 b fun t => nb (by rw [t]; exact List.mem_cons_self)).trans (hk b o (fun t => nb (by rw [t]; exact List.mem_cons_self)) (fun t => nb (by rw [t]; simp)) y)) hf (Nat.le_refl _) ob
    refine ⟨.ref s.heap.objs.size, _, J, rfl, ⟨_, z, rfl, I.hok.fresh (Nat.le_refl _), rfl, fun ws hw => (I.tuple_inj hw hq).symm ▸ hz⟩, ⟨⟨u, ?_⟩, hs'.1.at fun o y => (sb.2 d S.ed.symm).trans y, S.ed, S.ae, S.ad⟩, fun b hb => ?_⟩
    · rw [show ((n + 1 : Nat) : Int) = (n : Int) + 1 from rfl]
      exact he2
    · rw [upd_ne]
      · exact (hf b hb).1
      · rcases List.mem_cons.mp hb with rfl | hb
        · exact Nat.ne_of_lt hle
        · rw [List.mem_singleton.mp hb]
          exact Nat.ne_of_lt hld
  done := by
    intro X rfl rfl rfl hc n pins s σ G E I hf S hg
    obtain ⟨was, he⟩ := S.en
    obtain ⟨zs, hq, hz⟩ := hg
    obtain ⟨its, rv, pt, _⟩ := I.tuple hq
    have tupA : s.heap.IsTuple a its.toArray := pt
    obtain ⟨f0, f1, f2, f3, f4, f5⟩ := hf d (by simp)
    have hl : its.toArray.size = n := by have := rv.length; simp; omega
    have D := Draws.tuple (prog := X.prog) (w := X.w) (A := X.A.in1) (I.ok.hd hc) d a S.ad its.toArray
    rw [hl] at D
    exact wpAny_pyNext_enum_endD D he ⟨S.walk, tupA⟩ fun g' eb => ⟨rfl, I.turned (t' := s.toks) (fun b o hb y => eb b o hb y) f0 f1 f3 f4 f5⟩
  self := fun A n s Q E S h => by
    obtain ⟨was, he⟩ := S.en
    exact wpAny_pyIter_enum he h
theorem callEnT {prog : Program} {w : World} {A : Around} {E : Value → Shared → Prop} {s : Shared} {a : Addr} {zs : Array Value} {Q : Value → Shared → Prop} (ht : s.heap.IsTuple a zs)
    (h : ∀ g, IsEnum g (s.heap.objs.size + 1) s.heap.objs.size 0 .none → g.IsTupleIter s.heap.objs.size a 0 → (∀ b o, s.heap.get? b = some o → g.get? b = some o) → Q (.ref (s.heap.objs.size + 1)) { s with heap := g }) :
    wpAny (model prog w) A (call (.type "enumerate") [.ref a]) Q E s := by
  have M : Meets (Builtin.«enumerate.__new__» ⟨[.type "enumerate", .ref a], []⟩) (fun _ R s => s.heap.IsTuple a zs ∧
      R (.ok (.ret (.ref (s.heap.push { cls := .type "tuple_iterator", data := .fields #[.ref a, .int 0 0] }).objs.size)))
        { s with heap := (s.heap.push { cls := .type "tuple_iterator", data := .fields #[.ref a, .int 0 0] }).push { cls := .type "enumerate", data := .fields #[.none, .bool false, .ref s.heap.objs.size, rawInt 0, .none, .none] } }) := .of_wp fun pr ww AA R sh hh => by
    obtain ⟨hp, g, dd, tk, os⟩ := sh
    obtain ⟨tA, k⟩ := hh
    have hsub := sub_enumerate
    have go : ∀ {A' : Around} {E' : Value → Shared → Prop} {Q' : Value → Shared → Prop}, Q' (.ref hp.objs.size) ⟨hp.push { cls := .type "tuple_iterator", data := .fields #[.ref a, .int 0 0] }, g, dd, tk, os⟩ → wpAny (model pr ww) A' (pyIter (.ref a)) Q' E' ⟨hp, g, dd, tk, os⟩ := fun k => wpAny_pyIter_tuple (s := ⟨hp, g, dd, tk, os⟩) tA k
    wp_walk using go
    refine wpAny_stack_any fun st => wpAny_pure ?_
    split
    · rename_i c _ _ _ _ _
      cases (c == Value.type "enumerate") <;> (wp_walk using go; exact ⟨_, rfl, k⟩)
    · wp_walk using go
      exact ⟨_, rfl, k⟩
  have hz : (s.heap.push { cls := .type "tuple_iterator", data := .fields #[.ref a, .int 0 0] }).objs.size = s.heap.objs.size + 1 := Heap.size_push ..
  refine callType_new F.called_enumerate (by decide) (F.typeCall_enumerate_1 _) (F.newCall_enumerate_1 _) (fun ob => F.args_object_init_2 ob _) F.entry_enumerate_new M ⟨ht, ?_⟩
  rw [hz]
  have e1 := Heap.get?_push_size (s.heap.push { cls := .type "tuple_iterator", data := .fields #[.ref a, .int 0 0] }) (o := { cls := .type "enumerate", data := .fields #[.none, .bool false, .ref s.heap.objs.size, rawInt 0, .none, .none] }) rfl
  rw [hz] at e1
  exact ⟨⟨_, e1, rfl⟩, h _ e1 ⟨_, Heap.get?_push_of_some _ (Heap.get?_push_size _ rfl), rfl, rfl⟩ fun b o y => Heap.get?_push_of_some _ (Heap.get?_push_of_some _ y)⟩
def iEnumT (K : PySem.W.Frag) (ta : TA) : TI := fun σ G R => ta σ G fun vs G1 => ∃ a zs, vs = [.ref a] ∧ SqT K G1 a zs ∧ R (IteT K a) G1
theorem pi_enumT {X : Cx} {e : Expr} {ta : TA} {p pos tp : Pos} {els : List Expr} {kk : Nat} (hg : Gl X "enumerate") (hm : X.mg "enumerate" = none) (ha : PA X [e] ta) (hs : starEach [e] X.env = [(false, eval e X.env)] := by rfl) :
    PI X (.Tuple els kk tp) (.Call (.Name "enumerate" p) [e] [] pos) (iEnumT X.K ta) := by
  refine ⟨fun pins s σ G R I k => Call_ (ld_blt I hg hm PyProof.Rows.boot_enumerate (PyProof.Rows.callWith_type1 (thn (ha.run pos pins s σ G _ I k) fun us t hh => ?_) hs rfl))⟩
  obtain ⟨vs, G1, I1, r1, a, zs, rfl, hq, q⟩ := hh
  cases r1 with
  | cons r rr =>
    cases rr
    cases r
    obtain ⟨its, rv, pt, _⟩ := I1.tuple hq
    have tupA : t.heap.IsTuple a its.toArray := pt
    have ha' : a < t.heap.objs.size := by obtain ⟨_, y, _⟩ := tupA; exact Heap.lt_size y
    refine callEnT tupA fun g he hi hk => wpAny_pyIter_enum he ?_
    refine ⟨t.heap.objs.size + 1, [t.heap.objs.size + 1, t.heap.objs.size], EnT a (t.heap.objs.size + 1) t.heap.objs.size, IteT X.K a, G1, rfl, I1.kept (t' := t.toks) hk, turnEnT a _ _, ⟨⟨_, he⟩, hi, Nat.succ_ne_self _, Nat.ne_of_lt (Nat.lt_succ_of_lt ha'), Nat.ne_of_lt ha'⟩, fun b hb => ?_, q⟩
    have le : t.heap.objs.size ≤ b := by
      rcases List.mem_cons.mp hb with rfl | hb
      · exact Nat.le_succ _
      · rw [List.mem_singleton.mp hb]
        exact Nat.le_refl _
    exact I1.fpOk le (I1.hok.fresh le)
theorem k_iEnumT {K : PySem.W.Frag} {ta : TA} {σ : L2.St} {H : Hp} {R : It → Hp → Prop} (h : ta σ H fun vs H1 => ∃ a xs, vs = [.ref a] ∧ SqT K H1 a xs ∧ R (IteT K a) H1) : iEnumT K ta σ H R := h
theorem walk_enumT {K : PySem.W.Frag} {a : Addr} {xs : List V} : Walk (IteT K a) xs.length (fun H => SqT K H a xs) (YPair (fun i => some (.int (i : Nat))) (fun i => xs[i]?)) where
  goes i H hi q := ⟨xs, xs[i], q, by simp [hi]⟩
  stops H q := ⟨xs, q, rfl⟩
  yields i H v H' _ q y := by
    obtain ⟨T, x, h1, h2, h3, h4⟩ := y
    exact ⟨T, _, x, h1, h2, h3, rfl, h4 xs q⟩
theorem walk_zipT {K : PySem.W.Frag} {a b : Addr} {xs ys : List V} {n : Nat} (h1 : xs.length = n) (h2 : ys.length = n) : Walk (RZ.ItzT K a b) n (fun H => SqT K H a xs ∧ SqT K H b ys) (YPair (fun i => xs[i]?) (fun i => ys[i]?)) where
  goes i H hi q := ⟨xs, ys, xs[i], ys[i], q.1, q.2, by simp [h1, hi], by simp [h2, hi]⟩
  stops H q := ⟨xs, ys, q.1, q.2, .inl (by omega)⟩
  yields i H v H' _ q y := by
    obtain ⟨T, x, z, g1, g2, g3, g4, g5⟩ := y
    exact ⟨T, x, z, g1, g2, g3, g4 xs q.1, g5 ys q.2⟩
theorem k_iZipA {K : PySem.W.Frag} {ta : TA} {σ : L2.St} {H : Hp} {R : It → Hp → Prop} (h : ta σ H fun vs H1 => ∃ a b xs ys, vs = [.ref a, .ref b] ∧ ((SqL K H1 a xs ∧ SqL K H1 b ys ∧ R (Itz K a b) H1) ∨ (SqT K H1 a xs ∧ SqT K H1 b ys ∧ R (RZ.ItzT K a b) H1))) : RZ.iZipA K ta σ H R := h
end Nd

namespace Nd
open PySem PySem.Spec PyProof.Rows L2
/-! ### where first shares are greatest: tick by tick of one parity -/
def tk (far m : Nat) : Nat := far + 2 * m
def aF (far m : Nat) : Nat := fst (far : Int) (tk far m)
def jF (far : Nat) : Nat := (far * far + 1 - 3 * far) / 6
theorem fst_pos {far m : Nat} (h : 1 ≤ far) : 0 < aF far m := by
  obtain ⟨n, hn⟩ : ∃ n, tk far m = n + 1 := ⟨far + 2 * m - 1, by unfold tk; omega⟩
  have b := ballot n (far : Int) (by omega)
  have w1 : W (n + 1) (far : Int) = ch (n + 1) (far + m) := by
    have := W_ch (n + 1) (far + m)
    rwa [show (2 * ((far + m : Nat) : Int) - ((n + 1 : Nat) : Int)) = (far : Int) by unfold tk at hn; omega] at this
  have p : 0 < ch (n + 1) (far + m) := ch_pos (by unfold tk at hn; omega)
  unfold aF
  rw [hn]
  rw [w1] at b
  rcases Nat.eq_zero_or_pos (fst (far : Int) (n + 1)) with z | z
  · rw [z] at b
    have q : (0 : Int) < (far : Int) * (ch (n + 1) (far + m) : Int) := Int.mul_pos (by omega) (by omega)
    simp only [Int.natCast_zero, Int.mul_zero] at b
    omega
  · exact z
theorem fst_other {far t : Nat} (h : 1 ≤ far) (ht : 1 ≤ t) (hn : ∀ m, t ≠ tk far m) : fst (far : Int) t = 0 := by
  by_cases h1 : t < far
  · exact fst_far t _ (by omega)
  · refine (fst_zero h ht).mpr (.inr ?_)
    have := hn ((t - far) / 2)
    unfold tk at this
    omega
theorem step_eq {far m : Nat} (h : 1 ≤ far) : (aF far (m + 1) : Int) * (4 * (((m : Int) + 1) * ((far : Int) + m + 1))) = (4 * (aF far m : Int)) * (((tk far m : Nat) : Int) * (((tk far m : Nat) : Int) + 1)) := by
  have e := fst_two (far := far) (k := m) h
  rw [show far + 2 * m + 2 = tk far (m + 1) by unfold tk; omega, show far + 2 * m = tk far m from rfl] at e
  unfold aF
  rw [show ((far : Int) + 2 * m) = ((tk far m : Nat) : Int) by unfold tk; omega] at e
  grind
theorem four_d (far m : Nat) : 4 * (((m : Int) + 1) * ((far : Int) + m + 1)) = ((tk far m : Nat) : Int) * (((tk far m : Nat) : Int) + 1) + (3 * ((tk far m : Nat) : Int) + 4 - (far : Int) * far) := by
  have : ((tk far m : Nat) : Int) = (far : Int) + 2 * m := by unfold tk; omega
  rw [this]
  grind
theorem lt_of_cross {x y c d : Int} (hy : 0 < y) (hd : 0 < d) (e : x * d = y * c) (h : c < d) : x < y := by
  by_cases z : x < y
  · exact z
  · have h1 : y * d ≤ x * d := Int.mul_le_mul_of_nonneg_right (by omega) (by omega)
    have h2 : y * c < y * d := Int.mul_lt_mul_of_pos_left h hy
    omega
theorem gt_of_cross {x y c d : Int} (hy : 0 < y) (hd : 0 < d) (e : x * d = y * c) (h : d < c) : y < x := by
  by_cases z : y < x
  · exact z
  · have h1 : x * d ≤ y * d := Int.mul_le_mul_of_nonneg_right (by omega) (by omega)
    have h2 : y * d < y * c := Int.mul_lt_mul_of_pos_left h hy
    omega
theorem d_pos (far m : Nat) : 0 < 4 * (((m : Int) + 1) * ((far : Int) + m + 1)) := Int.mul_pos (by decide) (Int.mul_pos (by omega) (by omega))
theorem a_down {far m : Nat} (h : 1 ≤ far) (c : far * far < 3 * tk far m + 4) : aF far (m + 1) < 4 * aF far m := by
  have e := step_eq (m := m) h
  have p := fst_pos (m := m) h
  have f := four_d far m
  have c' : (far : Int) * far < 3 * ((tk far m : Nat) : Int) + 4 := by
    rw [← Int.natCast_mul]
    omega
  have := lt_of_cross (x := (aF far (m + 1) : Int)) (y := 4 * (aF far m : Int)) (by omega) (d_pos far m) e (by omega)
  omega
theorem a_up {far m : Nat} (h : 1 ≤ far) (c : 3 * tk far m + 4 < far * far) : 4 * aF far m < aF far (m + 1) := by
  have e := step_eq (m := m) h
  have p := fst_pos (m := m) h
  have f := four_d far m
  have c' : 3 * ((tk far m : Nat) : Int) + 4 < (far : Int) * far := by
    rw [← Int.natCast_mul]
    omega
  have := gt_of_cross (x := (aF far (m + 1) : Int)) (y := 4 * (aF far m : Int)) (by omega) (d_pos far m) e (by omega)
  omega
theorem a_same {far m : Nat} (h : 1 ≤ far) (c : 3 * tk far m + 4 = far * far) : aF far (m + 1) = 4 * aF far m := by
  have e := step_eq (m := m) h
  have f := four_d far m
  have c' : 3 * ((tk far m : Nat) : Int) + 4 = (far : Int) * far := by
    rw [← Int.natCast_mul]
    omega
  have d0 := d_pos far m
  have f' : 4 * (((m : Int) + 1) * ((far : Int) + m + 1)) = ((tk far m : Nat) : Int) * (((tk far m : Nat) : Int) + 1) := by omega
  rw [← f'] at e
  have := Int.eq_of_mul_eq_mul_right (Int.ne_of_gt d0) e
  omega
theorem jF_lt {far m : Nat} : m < jF far ↔ 3 * tk far m + 4 < far * far := by
  unfold jF tk
  omega
theorem a_chain {far m : Nat} (h : 1 ≤ far) (hm : jF far ≤ m) : ∀ d : Nat, aF far (m + d) ≤ aF far m * 4 ^ d
  | 0 => by simp
  | d + 1 => by
    have ih := a_chain h hm d
    have : ¬ m + d < jF far := by omega
    rw [jF_lt] at this
    rw [show m + (d + 1) = m + d + 1 by omega, Nat.pow_succ]
    by_cases c : 3 * tk far (m + d) + 4 = far * far
    · rw [a_same h c]
      grind
    · have := a_down h (m := m + d) (by omega)
      grind
theorem a_chain2 {far m : Nat} (h : 1 ≤ far) (hm : jF far ≤ m) (c : far * far < 3 * tk far m + 4) (d : Nat) : aF far (m + (d + 1)) < aF far m * 4 ^ (d + 1) := by
  have h1 := a_down h c
  have h2 := a_chain h (m := m + 1) (by omega) d
  rw [show m + (d + 1) = m + 1 + d by omega]
  refine Nat.lt_of_le_of_lt h2 ?_
  have p : 0 < 4 ^ d := Nat.pow_pos (by decide)
  have := Nat.mul_lt_mul_of_pos_right h1 p
  rw [Nat.pow_succ]
  grind
/-- the share at a is less than that at b -/
def LS (far a b : Nat) : Bool := decide (fst (far : Int) a * 2 ^ b < fst (far : Int) b * 2 ^ a)
theorem LS_tk (far m d : Nat) : LS far (tk far m) (tk far (m + d)) = decide (aF far m * 4 ^ d < aF far (m + d)) ∧ LS far (tk far (m + d)) (tk far m) = decide (aF far (m + d) < aF far m * 4 ^ d) := by
  have e : 2 ^ tk far (m + d) = 4 ^ d * 2 ^ tk far m := by
    rw [show tk far (m + d) = 2 * d + tk far m by unfold tk; omega, Nat.pow_add, Nat.pow_mul]
  have p : 0 < 2 ^ tk far m := Nat.pow_pos (by decide)
  unfold LS
  rw [e]
  change decide (aF far m * (4 ^ d * 2 ^ tk far m) < aF far (m + d) * 2 ^ tk far m) = _ ∧ decide (aF far (m + d) * 2 ^ tk far m < aF far m * (4 ^ d * 2 ^ tk far m)) = _
  rw [← Nat.mul_assoc]
  exact ⟨decide_eq_decide.mpr (Nat.mul_lt_mul_right p), decide_eq_decide.mpr (Nat.mul_lt_mul_right p)⟩
/-- what own search finds among the first n ticks -/
def bs (far : Nat) : Nat → List Nat
  | 0 => []
  | m + 1 => if m ≤ jF far then [tk far m] else if 3 * tk far (jF far) + 4 = far * far then [tk far (jF far), tk far (jF far + 1)] else [tk far (jF far)]
def bestL (far most : Nat) : List Nat := if most < far then [] else if 3 * fb far most + 4 = far * far ∧ fb far most + 2 ≤ most then [fb far most, fb far most + 2] else [fb far most]
theorem bs_best {far most : Nat} : bs far (if far ≤ most then (most - far) / 2 + 1 else 0) = bestL far most := by
  unfold bestL
  by_cases h : far ≤ most
  · rw [if_pos h, if_neg (by omega), bs]
    have ef : fb far most = tk far (min ((most - far) / 2) (jF far)) := rfl
    by_cases h1 : (most - far) / 2 ≤ jF far
    · rw [if_pos h1, ef, Nat.min_eq_left h1, if_neg]
      unfold tk
      omega
    · rw [if_neg h1, ef, Nat.min_eq_right (by omega)]
      by_cases h2 : 3 * tk far (jF far) + 4 = far * far
      · rw [if_pos h2, if_pos ⟨h2, by unfold tk; omega⟩]
        rfl
      · rw [if_neg h2, if_neg (fun z => h2 z.1)]
  · rw [if_neg h, if_pos (by omega)]
    rfl
/-- own search, a tick on: of a list that begins with b -/
theorem bs_step {far m : Nat} (h : 1 ≤ far) : ∃ l : List Nat, bs far m = l ∧ bs far (m + 1) = match l with
    | [] => [tk far m]
    | b :: r => if LS far b (tk far m) = true then [tk far m] else if LS far (tk far m) b = true then b :: r else b :: r ++ [tk far m] := by
  refine ⟨_, rfl, ?_⟩
  cases m with
  | zero => rw [bs, bs, if_pos (Nat.zero_le _)]
  | succ k =>
    rw [bs, bs]
    by_cases h1 : k + 1 ≤ jF far
    · rw [if_pos h1, if_pos (by omega)]
      have up := a_up (m := k) h (jF_lt.mp (by omega))
      obtain ⟨e1, _⟩ := LS_tk far k 1
      dsimp only
      rw [e1, if_pos (decide_eq_true (by omega))]
    · rw [if_neg h1]
      by_cases h2 : k ≤ jF far
      · obtain rfl : k = jF far := by omega
        rw [if_pos (Nat.le_refl _)]
        obtain ⟨e1, e2⟩ := LS_tk far (jF far) 1
        dsimp only
        rw [e1, e2]
        have nlt : ¬ jF far < jF far := Nat.lt_irrefl _
        rw [jF_lt] at nlt
        by_cases h3 : 3 * tk far (jF far) + 4 = far * far
        · have s := a_same h h3
          rw [if_pos h3, if_neg (by simp; omega), if_neg (by simp; omega)]
          rfl
        · have s := a_down h (m := jF far) (by omega)
          rw [if_neg h3, if_neg (by simp; omega), if_pos (by simp; omega)]
      · rw [if_neg h2]
        obtain ⟨d, hd⟩ : ∃ d, k + 1 = jF far + (d + 1 + 1) := ⟨k - jF far - 1, by omega⟩
        have nlt : ¬ jF far < jF far := Nat.lt_irrefl _
        rw [jF_lt] at nlt
        have lt : aF far (jF far + (d + 1 + 1)) < aF far (jF far) * 4 ^ (d + 1 + 1) := by
          by_cases h3 : 3 * tk far (jF far) + 4 = far * far
          · have s := a_same h h3
            have c2 : far * far < 3 * tk far (jF far + 1) + 4 := by unfold tk at h3 ⊢; omega
            have := a_chain2 h (m := jF far + 1) (by omega) c2 d
            rw [show jF far + 1 + (d + 1) = jF far + (d + 1 + 1) by omega, s] at this
            rw [Nat.pow_succ 4 (d + 1)]
            grind
          · exact a_chain2 h (Nat.le_refl _) (by omega) (d + 1)
        obtain ⟨e1, e2⟩ := LS_tk far (jF far) (d + 1 + 1)
        rw [hd]
        by_cases h3 : 3 * tk far (jF far) + 4 = far * far
        · rw [if_pos h3]
          dsimp only
          rw [e1, e2, if_neg (by simp; omega), if_pos (by simp; omega)]
        · rw [if_neg h3]
          dsimp only
          rw [e1, e2, if_neg (by simp; omega), if_pos (by simp; omega)]
end Nd

namespace Nd
open PySem PySem.Spec PyProof.Rows L2
/-! ### an error that stays known behind its clause -/
/-- at a: an error of the class cls, its own dict d -/
def ExV (cls : Value) (d : Option Addr) (a : Addr) : HO := .ext fun g => ∃ (ob : Obj) (fs : Array Value), g.get? a = some ob ∧ Zc cls d ob ∧ ob.data = .fields fs
theorem exV_ok {P : Program} {w : World} {H : Hp} {g : Heap} {a : Addr} {cls : Value} {d : Option Addr} {ob : Obj} {fs : Array Value} (e : g.get? a = some ob) (z : Zc cls d ob) (hd : ob.data = .fields fs) : ObjOk P w H g a (ExV cls d a) :=
  ⟨⟨ob, fs, e, z, hd⟩, ⟨ob, e⟩, fun g1 g2 ⟨o1, f1, e1, z1, d1⟩ k => ⟨o1, f1, k _ e1, z1, d1⟩⟩
theorem Inv.track {X : Cx} {pins : List (Addr × Obj)} {σ : L2.St} {H : Hp} {s : Shared} {a : Addr} {cls : Value} {d : Option Addr} {ob : Obj} {fs : Array Value} (I : Inv X pins σ H s) (e : s.heap.get? a = some ob) (z : Zc cls d ob) (hd : ob.data = .fields fs)
    (n0 : X.s_0.heap.get? a = none) (n : H a = none) (nl : a ≠ X.env.locals) (np : ∀ p ∈ X.pn ++ pins, p.1 ≠ a) : Inv X pins σ (upd H a (ExV cls d a)) s where
  ok := I.ok
  os := I.os
  bare := I.bare
  base := {
    keep := I.base.keep
    slot := I.base.slot
    free := fun b o h1 h2 h3 => by
      rw [upd_ne (fun t => by rw [t, n0] at h1; cases h1)]
      exact I.base.free b o h1 h2 h3
    there := I.base.there
    tups := fun b xs h1 => by
      have h2 := I.base.tups b xs h1
      rw [upd_ne (ne_of_none h2 n)]
      exact h2
    frzs := fun b o u h1 => by
      have h2 := I.base.frzs b o u h1
      rw [upd_ne (ne_of_none h2 n)]
      exact h2
    tbls := fun b ps h1 => by
      obtain ⟨more, h2⟩ := I.base.tbls b ps h1
      exact ⟨more, by rw [upd_ne (ne_of_none h2 n)]; exact h2⟩ }
  loc := I.loc
  cell := I.cell
  free := by rw [upd_ne (Ne.symm nl)]; exact I.free
  freeC := fun x c hc => by
    rw [upd_ne]
    · exact I.freeC x c hc
    · rintro rfl
      obtain ⟨v, o2, h1, h2⟩ := I.cell x _ hc
      rw [e] at h1
      cases h1
      rw [hd] at h2
      cases h2
  pin := fun p hp => by
    obtain ⟨h1, h2, h3⟩ := I.pin p hp
    exact ⟨h1, by rw [upd_ne (np p hp)]; exact h2, h3⟩
  hok := L2.HOk.laidN I.hok (fun _ _ t => t) n (exV_ok e z hd)
  len := I.len
/-- what a clause wishes that keeps the error it caught -/
def wKeep (K : PySem.W.Frag) (c : Value) (i : Nat) (ts : Addr → Value → Option Addr → TS) (D : Ends) : WX := fun cls d σ H =>
  PySem.W.exmOne K cls c = some true ∧ ∀ a, H a = none → ts a cls d (Ends.mk (fun σ2 H2 => D.nx (σ2.set i none) (upd H2 a (ExV cls d a))) (fun _ _ => False) (fun _ _ => False) (fun _ _ => False)) (σ.set i (some (.ref a))) H
/-- try: body, which always raises / except x as n: suite, which ends -/
theorem ps_tryX {X : Cx} {x n : Str} {c : Value} {i : Nat} {body su : List Stmt} {b0 : Stmt} {q1 q2 q3 : Pos} {tb : WX → TS} {ts : Addr → Value → Option Addr → TS} (hst : X.stack = X.env :: X.outer) (hfr : X.env.frame = some X.env.locals) (hex : X.ex = [])
    (nd : X.N.Nodup) (hi : X.N[i]? = some n) (hln : X.env.kindOf n = some .local) (hc : Names X x c)
    (hB : ∀ (W : WX) (pn : List (Addr × Obj)) (xe : Value → Shared → Prop), Takes (X.tr pn xe) W → PassesOwn (model X.prog X.w) X.A X.env xe → PSs (X.tr pn xe) body (tb W))
    (hS : ∀ (a : Addr) (ob : Obj) (cls : Value) (d : Option Addr) (pn : List (Addr × Obj)), Zc cls d ob → (∃ fs, ob.data = .fields fs) → PSs (X.suite a ((a, ob) :: pn)) (b0 :: su) (ts a cls d)) :
    PS X (.Try body [.ExceptHandler (some (.Name x q1)) (some n) (b0 :: su) q2] [] [] q3) (fun D σ H => tb (wKeep X.K c i ts D) (Ends.mk (fun _ _ => False) (fun _ _ => False) (fun _ _ => False) (fun _ _ => False)) σ H) := by
  refine ⟨fun pins s σ H D I rd => ?_⟩
  have ok := I.ok
  have hA : X.A.frames = some (X.env :: X.outer) := by rw [ok.frames, hst]
  have own : Loc X.env.scope n := .inl hln
  refine wpAny_Try_except ?_
  let up1 : Value → Shared → Prop := fun e t => wpAny (model X.prog X.w) X.A (noteFrame e X.env) (fun _ t2 => wpAny (model X.prog X.w) X.A (setFlight e none) (fun _ t3 =>
    wpAny (model X.prog X.w) X.A (handleBy e X.env [.ExceptHandler (some (.Name x q1)) (some n) (b0 :: su) q2]) (SP X pins D) X.xe t3) X.xe t2) X.xe t
  refine wpAny_mono ((hB (wKeep X.K c i ts D) (X.pn ++ pins) up1 (fun u t xx => ?_) PassesOwn.looking).run [] s σ H _ (I.toTry _) rd) (fun fl t hsp => ?_) (fun e t h => h)
  · obtain ⟨a, B, sI, pns, σ1, H1, cls, d, rfl, J1, nb, upS, sky, na, os, bare, hyes, hrd⟩ := xx
    have J : Inv X pins σ1 H1 sI := J1.ofTry ok
    replace sky : Sky B (X.env :: X.outer) a (Zc cls d) X.env.locals t.heap := hst ▸ sky
    change wpAny (model X.prog X.w) X.A (noteFrame (.ref a) X.env) _ _ _
    refine Sky.land Zc.steady hA hfr sky fun g3 f3 u3 => ?_
    have J3 : Inv X pins σ1 H1 { t with heap := g3 } := J.landed nb f3.1 (upS.trans u3) os bare
    obtain ⟨o3, v3, e3, z3, d3⟩ := f3.there
    have frn : a ∉ frs (X.env :: X.outer) := fun hm => by
      obtain ⟨_, o', e', no⟩ := f3.2.2.1.mem hm
      rw [e3] at e'
      cases e'
      exact no _ d3
    have nL : a ≠ X.env.locals := fun z => frn (List.mem_filterMap.mpr ⟨X.env, List.mem_cons_self, by rw [hfr, z]⟩)
    have nF : a ∉ X.fs := fun hm => by
      obtain ⟨e, he, q⟩ := List.mem_filterMap.mp hm
      exact frn (List.mem_filterMap.mpr ⟨e, List.mem_cons_of_mem _ he, q⟩)
    have notI : ∀ o, sI.heap.get? a ≠ some o := fun o e => by
      have := nb a o e (hst ▸ frn)
      rw [f3.2.1] at this
      cases this
    have n0 : X.s_0.heap.get? a = none := by
      cases h0 : X.s_0.heap.get? a with
      | none => rfl
      | some o =>
        obtain ⟨o', e'⟩ := J.base.there a o h0 (by rw [hex]; exact List.not_mem_nil)
        exact (notI _ e').elim
    have npin : ∀ p ∈ X.pn ++ pins, p.1 ≠ a := fun p hp z => notI p.2 (z ▸ (J.pin p hp).1)
    have S3 := J3.suite e3 d3 na nL nF
    refine wpAny_handleBy_cons (codeAny_handlers_test ?_) (by intro q; cases q)
    have LT : PySem.W.Looks (model X.prog X.w) g3 (typeOf (.ref a)) cls := fun A Q E s k q => wpAny_typeOf_ref (k _ _ e3) (z3.1.symm ▸ q)
    have LM := PySem.W.exm_one (M := model X.prog X.w) J3.kIn LT hyes
    have nm : ∀ {Q : Value → Shared → Prop} {E : Value → Shared → Prop}, Q c { t with heap := g3 } → wpAny (model X.prog X.w) (X.A.mark (some (.ref a))) (eval (.Name x q1) X.env) Q E { t with heap := g3 } := fun {Q E} k => by
      obtain ⟨hg, hdb, hm | ⟨hm, hv, hnn⟩⟩ := hc
      · exact ld_glob (X := X.suite a ((a, o3) :: (X.pn ++ pins))) S3 hg hm k hdb
      · exact ld_blt (X := X.suite a ((a, o3) :: (X.pn ++ pins))) S3 hg hm hv k hnn hdb
    refine nm (LM.here ?_)
    refine codeAny_handlers_suite_as ?_
    refine HandSPX.lands_againZ f3 fun g4 f4 u4 => ?_
    have J4 : Inv X pins σ1 H1 { t with heap := g4 } := J.landed nb f4.1 ((upS.trans u3).trans u4) os bare
    obtain ⟨o4, v4, e4, z4, d4⟩ := f4.there
    refine store_ok (X := X.suite a ((a, o4) :: (X.pn ++ pins))) (v := .ref a) (J4.suite e4 d4 na nL nF) nd hi own rfl (fun s5 S5 => ?_) (.inr hln)
    refine wpAny_mono ((hS a o4 cls d (X.pn ++ pins) z4 ⟨_, d4⟩).run [] s5 _ H1 _ S5 (hrd a na)) (fun fl s6 hsp => ?_) (fun _ _ z => z.elim)
    cases fl with
    | next =>
      obtain ⟨σ6, H6, S6, q6⟩ := hsp
      obtain ⟨p1, p2, _⟩ := S6.pin (a, o4) (by simp)
      exact gone_ok (Inv.track (S6.unsuite ok) p1 z4 d4 n0 p2 nL npin) nd hi hln fun s7 J7 => ⟨_, _, J7, q6⟩
    | brk =>
      obtain ⟨σ6, H6, S6, q6⟩ := hsp
      exact q6.elim
    | cont =>
      obtain ⟨σ6, H6, S6, q6⟩ := hsp
      exact q6.elim
    | ret u =>
      obtain ⟨v6, σ6, H6, S6, r6, q6⟩ := hsp
      exact q6.elim
  · cases fl with
    | next =>
      obtain ⟨_, _, _, q⟩ := hsp
      exact q.elim
    | brk =>
      obtain ⟨_, _, _, q⟩ := hsp
      exact q.elim
    | cont =>
      obtain ⟨_, _, _, q⟩ := hsp
      exact q.elim
    | ret u =>
      obtain ⟨_, _, _, _, _, q⟩ := hsp
      exact q.elim
end Nd

namespace Nd
open PySem PySem.Spec PyProof.Rows L2
/-! ### an error that was kept: its class, its fields -/
theorem exV_inst {X : Cx} {pins : List (Addr × Obj)} {σ : L2.St} {H : Hp} {s : Shared} {a C d : Addr} {fs : List (Str × V)} (I : Inv X pins σ H s) (ha : H a = some (ExV (.ref C) (some d) a)) (hd : H d = some (.xd fs)) :
    ∃ (ob od : Obj) (m : Str → Option Value), PySem.W.InstAt s.heap a ob C (some od) ∧ (∀ f, PySem.W.lookIn f od = some (m f)) ∧ ∀ f, RelO (fs.lookup f) (m f) := by
  obtain ⟨⟨ob, vs, e, z, dt⟩, _⟩ := I.hok a _ ha
  obtain ⟨m, hns, hr⟩ : ∃ m, s.heap.Ns1 d m ∧ ∀ f, RelO (fs.lookup f) (m f) := I.hok d _ hd
  obtain ⟨od, ho, hl⟩ := lookIn_ns hns
  exact ⟨ob, od, m, ⟨e, z.1, by unfold PySem.W.notCls; rw [dt] <;> rfl, by rw [z.2]; exact ho⟩, hl, hr⟩
/-- isinstance(e, c), e a kept error of the class at C -/
def rIsX (K : PySem.W.Frag) : List V → Hp → VK → Prop := fun xs H Q => ∃ (a C d : Addr) (fs : List (Str × V)) (c : V) (cv : Value) (b : Bool), xs = [.ref a, c] ∧ H a = some (ExV (.ref C) (some d) a) ∧ H d = some (.xd fs) ∧ ExcC K C ∧ (PySem.W.clsIn K C).isSome = true ∧
  (∀ u, RelV c u → u = cv) ∧ PySem.W.kitOne K (.ref C) cv = some b ∧ Q (.bl b) H
theorem call_isX {X : Cx} : CallR X (.builtin "isinstance") (rIsX X.K) := by
  intro pins s σ H xs us Q I r h
  obtain ⟨a, C, d, fs, c, cv, b, rfl, ha, hd, T, hcl, hcv, e, q⟩ := h
  cases r with
  | cons rx rr =>
    cases rr with
    | cons rt rr =>
      cases rr
      cases rx
      obtain rfl := hcv _ rt
      obtain ⟨ob, od, m, J, _⟩ := exV_inst I ha hd
      exact PySem.W.kia_one (PySem.W.kitx_exc (od := some od) hcl T.hg T.hk T.hs T.ha T.hn T.ht T.hm) I.kIn J e (fun z => nomatch z) fun tk => ⟨.bl b, H, I.kept (t' := tk) fun _ _ z => z, rfl, q⟩
/-- e.f, e a kept error -/
def tXg (K : PySem.W.Frag) (f : Str) (te : TE) : TE := fun σ H Q => te σ H fun x H1 => ∃ (a C d : Addr) (fs : List (Str × V)) (v : V), x = .ref a ∧ H1 a = some (ExV (.ref C) (some d) a) ∧ H1 d = some (.xd fs) ∧ XfC K C ∧ PySem.W.findIn K (.ref C) f = some none ∧ fs.lookup f = some v ∧ Q v H1
theorem pe_xg {X : Cx} {e : Expr} {te : TE} {pos : Pos} {n : Str} (he : PE X e te) (hb : attributeBase e n X.env (eval e X.env) = eval e X.env := by rfl) : PE X (.Attribute e n pos) (tXg X.K n te) := by
  refine ⟨fun pins s σ H Q I h => ?_⟩
  refine attr_of hb (thn (he.run pins s σ H _ I h) fun u s1 ⟨x, H1, I1, rx, a, C, d, fs, v, ex, ha, hd, T, hno, l, q⟩ => ?_)
  subst ex
  obtain rfl : u = Value.ref a := rx
  obtain ⟨ob, od, m, J, hl, hr⟩ := exV_inst I1 ha hd
  obtain ⟨u, hu, ru⟩ := RelO.some_of (v := v) (o := m n) (l ▸ hr n)
  exact HandSPX.exc_get I1.kIn J T.ga T.gg T.exC (PySem.W.findObj_own T.hdC hno rfl (by rw [hl n, hu])) (handed_of ru) ⟨v, H1, I1.tok _, ru, q⟩
end Nd
namespace Nd
open PySem PySem.Spec PyProof.Rows L2
/-! ### an error's making: its base's __init__, read off a class of the program that has none itself -/
structure HeC (K : PySem.W.Frag) (C : Addr) : Prop where
  rd : PySem.W.readsIn K C (.type "type") = true
  ga : PySem.W.specialIn K (.ref C) "__getattribute__" = some (some (.builtin "type.__getattribute__"))
  at_ : PySem.W.findCls K (.ref C) (.type "type") "__init__" = some (.val (.builtin "ValueError.__init__"))
theorem pe_heinit {X : Cx} {e : Expr} {es : List Expr} {ta : TA} {x : Str} {C : Addr} {p1 p2 pos : Pos} {pl : Sem Bool} (R : HeC X.K C) (hg : Gl X x) (hm : X.mg x = some (.ref C)) (ha : PA X (e :: es) ta)
    (hdb : (x == ("__debug__" : Str)) = false := by decide)
    (hc : eval (.Call (.Attribute (.Name x p1) "__init__" p2) (e :: es) [] pos) X.env = (do
      let ov ← eval (.Name x p1) X.env
      standAt p2.atName
      let (f, first) ← holding [ov] (getMethod ov "__init__" pl)
      callWith pos f first (backTo pos (starEach (e :: es) X.env)) (backToKw pos (keywordEach [] X.env))) := by rfl)
    (he : starEach (e :: es) X.env = (false, eval e X.env) :: starEach es X.env := by rfl) (hpl : (backTo pos (starEach es X.env)).any (·.1) = false := by rfl) :
    PE X (.Call (.Attribute (.Name x p1) "__init__" p2) (e :: es) [] pos) (tVeI X.K ta) := by
  refine ⟨fun pins s σ H Q I h => PySem.W.methodCall_KW (ld_glob I hg hm ?_ hdb) hc⟩
  refine PySem.W.method_cls I.kIn R.ga (PySem.W.cls_value I.kIn R.rd R.at_ (by decide +kernel) ?_)
  change wpAny _ _ (callWith pos (Value.builtin "ValueError.__init__") [] (backTo pos (starEach (e :: es) X.env)) []) _ _ _
  refine PyProof.Rows.callWith_method1 (thn (ha.run pos pins _ σ H _ (I.tok _) h) fun us t hh => ?_) he hpl
  obtain ⟨vs, H1, I1, r1, a, D, ws, rfl, hl, T, ea, q⟩ := hh
  cases r1 with
  | @cons _ u0 _ ur ra rr =>
    obtain rfl : u0 = Value.ref a := ra
    refine oinit_ok T I1 ea ?_ fun s' J => ⟨.non, H1, J, rfl, q⟩
    rw [← Paired.length rr, sizeLine_eq]
    omega
end Nd

namespace Nd
open PySem PySem.Spec PyProof.Rows L2 LamX
/-! ### a lambda, perhaps with one default, handed to a def -/
abbrev fnL (q : Str) (ps : Arguments) (bo : Expr) (sc : Scope) (cl : List (Str × Addr)) (pm cv ct dv : Value) : FuncData :=
  { name := "<lambda>", qualname := q, params := ps, body := .expr bo, scope := sc, globals := mainGlobals, closure := cl, defaults := dv, kwdefaults := .none, doc := .none, pyModule := pm, annotations := none, code := cv, closureTuple := ct, builtins := builtinsNs }
abbrev obL (q : Str) (ps : Arguments) (bo : Expr) (sc : Scope) (cl : List (Str × Addr)) (pm cv ct dv : Value) : Obj := { cls := .type "function", data := .func (fnL q ps bo sc cl pm cv ct dv) }
section
variable {M : Model} {A : Around} {E : Value → Shared → Prop} {s : Shared} {q : Str} {ps : Arguments} {bo : Expr} {sc : Scope} {env : Env} {c P : Addr} {tab : Array Value} {pos : Pos} {ln : Nat} {mg : Str → Option Value} {cl : List (Str × Addr)} {dv : Value} {Q : Value → Shared → Prop}
theorem tailNew (hcl : closureFor sc env = pure cl) (hge : env.globals = mainGlobals) (hns : s.heap.Ns mainGlobals mg) (hcode : env.code = .ref c) (C : PySem.W.CodeHd s.heap c P) (hP : s.heap.get? P = some { cls := .none, data := .fields tab }) (ok : TriplesOk tab.toList)
    (no : codeAmong pos tab.toList = none) (hgP : mainGlobals ≠ P) (hbi : s.heap.BuiltinsAt mg P)
    (k : ∀ c' ct g tk, Heap.ExtBut P s.heap g → s.heap.objs.size ≤ c' → c' < g.objs.size → g.CodeRec (.ref c') q → g.get? P = some { cls := .none, data := .fields (tab ++ #[rawInt pos.line, rawInt pos.col, .ref c']) } →
      Q (.ref g.objs.size) { s with heap := g.push (obL q ps bo sc cl ((mg "__name__").getD .none) (.ref c') ct dv), toks := tk }) :
    wpAny M A (makeTail "<lambda>" q ps (.expr bo) sc env dv .none none pos ln) Q E s := by
  obtain ⟨bm, ob, b1, b2, _, b3, b4, b5, b6, b7⟩ := hbi
  unfold makeTail
  rw [hcl, hge]
  refine wpAny_bind (wpAny_pure ?_)
  cases cl
  case nil =>
    rw [show ([] : List (Str × Addr)).isEmpty = true from rfl, if_pos rfl]
    refine wpAny_bind (wpAny_pure (wpAny_bind (wpAny_functionCodeX hcode (C.code hP ok) (C.tab hP) no fun c' g tk hx h1 h2 _ h3 h4 _ => ?_)))
    have hn2 := hns.extBut hx hgP
    exact wpAny_bind (wpAny_builtinsFor hn2 b1 b2 (hx _ _ b3 b4) b5 b6 b7 (wpAny_bind (wpAny_nsGet hn2 (wpAny_bind (wpAny_pure (wpAny_newObj_type (k c' .none g tk hx h1 h2 h3 h4.2) (by size_fits)))))))
  case cons y r =>
    rw [show (y :: r).isEmpty = false from rfl, if_neg Bool.false_ne_true]
    refine wpAny_bind (wpAny_newTextTuple (wpAny_bind ?_))
    have C2 : ∀ o2 : Obj, PySem.W.CodeHd (s.heap.push o2) c P := fun o2 => C.keeps fun b o e => Heap.get?_push_of_some o2 e
    refine wpAny_functionCodeX hcode ((C2 _).code (Heap.get?_push_of_some _ hP) ok) ((C2 _).tab (Heap.get?_push_of_some _ hP)) no fun c' g tk hx h1 h2 _ h3 h4 _ => ?_
    have hn2 := (hns.push _).extBut hx hgP
    have hx2 : Heap.ExtBut P s.heap g := fun b o nb e => hx b o nb (Heap.get?_push_of_some _ e)
    have le := h1
    rw [Heap.size_push] at le
    exact wpAny_bind (wpAny_builtinsFor hn2 b1 b2 (hx2 _ _ b3 b4) b5 b6 b7 (wpAny_bind (wpAny_nsGet hn2 (wpAny_bind (wpAny_pure (wpAny_newObj_type (k c' _ g tk hx2 (Nat.le_of_succ_le le) h2 h3 h4.2) (by size_fits)))))))
theorem tailHit {cv : Value} (hcl : closureFor sc env = pure cl) (hge : env.globals = mainGlobals) (hns : s.heap.Ns mainGlobals mg) (hcode : env.code = .ref c) (C : PySem.W.CodeHd s.heap c P) (hP : s.heap.get? P = some { cls := .none, data := .fields tab }) (ok : TriplesOk tab.toList)
    (yes : codeAmong pos tab.toList = some cv) (hbi : s.heap.BuiltinsAt mg P)
    (k : ∀ (ct : Value) (g : Heap) (tk : Nat), (∀ b o, s.heap.get? b = some o → g.get? b = some o) → s.heap.objs.size ≤ g.objs.size → Q (.ref g.objs.size) { s with heap := g.push (obL q ps bo sc cl ((mg "__name__").getD .none) cv ct dv), toks := tk }) :
    wpAny M A (makeTail "<lambda>" q ps (.expr bo) sc env dv .none none pos ln) Q E s := by
  obtain ⟨bm, ob, b1, b2, _, b3, b4, b5, b6, b7⟩ := hbi
  unfold makeTail
  rw [hcl, hge]
  refine wpAny_bind (wpAny_pure ?_)
  cases cl
  case nil =>
    rw [show ([] : List (Str × Addr)).isEmpty = true from rfl, if_pos rfl]
    refine wpAny_bind (wpAny_pure (wpAny_bind (wpAny_functionCode_hit hcode (C.code hP ok) yes ?_)))
    exact wpAny_bind (wpAny_builtinsFor hns b1 b2 b4 b5 b6 b7 (wpAny_bind (wpAny_nsGet hns (wpAny_bind (wpAny_pure (wpAny_newObj_type (k .none s.heap s.toks (fun _ _ e => e) (Nat.le_refl _)) (by size_fits)))))))
  case cons y r =>
    rw [show (y :: r).isEmpty = false from rfl, if_neg Bool.false_ne_true]
    refine wpAny_bind (wpAny_newTextTuple (wpAny_bind ?_))
    have C2 : ∀ o2 : Obj, PySem.W.CodeHd (s.heap.push o2) c P := fun o2 => C.keeps fun b o e => Heap.get?_push_of_some o2 e
    refine wpAny_functionCode_hit hcode ((C2 _).code (Heap.get?_push_of_some _ hP) ok) yes ?_
    refine wpAny_bind (wpAny_builtinsFor (hns.push _) b1 b2 (Heap.get?_push_of_some _ b4) b5 b6 b7 (wpAny_bind (wpAny_nsGet (hns.push _) (wpAny_bind (wpAny_pure (wpAny_newObj_type (k _ _ s.toks (fun b o e => Heap.get?_push_of_some _ e) ?_) (by size_fits)))))))
    rw [Heap.size_push]
    exact Nat.le_succ _
end
section
variable {X : Cx} {pins : List (Addr × Obj)} {σ : L2.St} {H : Hp} {s : Shared}
theorem nofrs (I : Inv X pins σ H s) {f : Addr} (hf : s.heap.objs.size ≤ f) : f ∉ frs X.stack := fun z => by
  rcases List.mem_cons.mp (I.stkSub _ z) with rfl | e
  · exact absurd I.lt (Nat.not_lt.mpr hf)
  · exact I.nofs hf e
/-- a lambda's object is laid, its code object new or told by the table -/
theorem lamTail {T : List (Addr × Str)} {c P : Addr} {ps : Arguments} {bo : Expr} {sc : Scope} {pos : Pos} {ln : Nat} {dv : Value} {E Q : Value → Shared → Prop} (I : Inv X pins σ H s) (TB : TabB X.base X.mg c P) (hcode : X.env.code = .ref c)
    (hm : (P, X.env.qual ++ "<lambda>") ∈ T) (hu : ∀ p ∈ T, p.1 = P → p.2 = X.env.qual ++ "<lambda>") (hT : Tabs T H) (hfree : ∀ y ∈ sc.names, y.2 = .free → ∃ c, X.env.cells.lookup y.1 = some c)
    (k : ∀ (f c' : Addr) (pm ct : Value) (H1 : Hp) (t : Shared), Inv X pins σ H1 t → ExtN H H1 → Tabs T H1 → t.heap.get? f = some (obL (X.env.qual ++ "<lambda>") ps bo sc (cloFrom X.env.cells sc.names []) pm (.ref c') ct dv) → H1 f = none → f ∉ frs X.stack → H1 c' = some (CodeO c' (X.env.qual ++ "<lambda>")) → Q (.ref f) t) :
    wpAny (model X.prog X.w) X.A (makeTail "<lambda>" (X.env.qual ++ "<lambda>") ps (.expr bo) sc X.env dv .none none pos ln) Q E s := by
  obtain ⟨tab, hP, ok, among⟩ := hT _ hm
  have eP : s.heap.get? P = some { cls := .none, data := .fields tab } := I.hok P _ hP
  have bi : s.heap.BuiltinsAt X.mg P := TB.bm.keeps I.bk
  cases hc : codeAmong pos tab.toList
  case some cv =>
    obtain ⟨c', rfl, hco⟩ := among pos cv hc
    refine tailHit (mg := X.mg) (c := c) (P := P) (tab := tab) (closure_ok hfree) I.ok.glob (I.mod.glob.keeps I.bk) hcode (TB.code.keeps I.bk) eP ok hc bi fun ct g tk hk le => ?_
    exact k _ c' _ ct H _ (I.kept fun b o e => Heap.get?_push_of_some _ (hk b o e)) (ExtN.refl H) hT (Heap.get?_push_size _ rfl) (I.hok.fresh le) (nofrs I le) hco
  case none =>
    refine tailNew (mg := X.mg) (c := c) (P := P) (tab := tab) (closure_ok hfree) I.ok.glob (I.mod.glob.keeps I.bk) hcode (TB.code.keeps I.bk) eP ok hc TB.gP bi fun c' ct g tk hx h1 h2 hr ht => ?_
    obtain ⟨c2, oc, vs, t, e2, hoc, hd, hv⟩ := hr
    cases e2
    have le : s.heap.objs.size ≤ g.objs.size := Nat.le_trans h1 (Nat.le_of_lt h2)
    have nC : H c' = none := I.hok.fresh h1
    have I1 := inv_table (t' := tk) (more := #[rawInt pos.line, rawInt pos.col, .ref c']) (h' := g.push (obL (X.env.qual ++ "<lambda>") ps bo sc (cloFrom X.env.cells sc.names []) ((X.mg "__name__").getD .none) (.ref c') ct dv)) I hP
      (fun b o nb e => Heap.get?_push_of_some _ (hx b o nb e)) (Heap.get?_push_of_some _ ht) h1 ⟨oc, vs, t, Heap.get?_push_of_some _ hoc, hd, hv⟩
    have hE : ExtN H (upd (upd H P (.tbl (tab ++ #[rawInt pos.line, rawInt pos.col, .ref c']))) c' (CodeO c' (X.env.qual ++ "<lambda>"))) := fun b o e n => by
      have nb : b ≠ P := fun z => n tab (Option.some.inj (e.symm.trans (z ▸ hP)))
      rw [upd_ne (ne_of_none e nC), upd_ne nb]
      exact e
    have eL : (tab ++ #[rawInt pos.line, rawInt pos.col, .ref c']).toList = tab.toList ++ [rawInt pos.line, rawInt pos.col, .ref c'] := by simp
    refine k g.objs.size c' _ ct _ _ I1 hE (fun p hp => ?_) (Heap.get?_push_size _ rfl) ?_ (nofrs I le) upd_same
    · by_cases hb : p.1 = P
      · rw [hu p hp hb, hb]
        refine ⟨_, by rw [upd_ne (ne_of_none hP nC), upd_same], eL ▸ PySem.TriplesOk_snoc _ _ _ _ ok, fun p2 cv z => ?_⟩
        rw [eL] at z
        rcases among_app _ ok z with y | y
        · obtain ⟨c0, rfl, e0⟩ := among p2 cv y
          exact ⟨c0, rfl, hE _ _ e0 codeO_ne⟩
        · exact ⟨c', y, upd_same⟩
      · obtain ⟨tab2, a1, a2, a3⟩ := hT p hp
        refine ⟨tab2, by rw [upd_ne (ne_of_none a1 nC), upd_ne hb]; exact a1, a2, fun p2 cv z => ?_⟩
        obtain ⟨c0, rfl, e0⟩ := a3 p2 cv z
        exact ⟨c0, rfl, hE _ _ e0 codeO_ne⟩
    · have n2 : g.objs.size ≠ P := Nat.ne_of_gt (Nat.lt_of_lt_of_le (Heap.lt_size eP) le)
      rw [upd_ne (Nat.ne_of_gt h2), upd_ne n2]
      exact I.hok.fresh le
end
end Nd

namespace Nd
open PySem PySem.Spec PyProof.Rows L2 LamX
section
variable {X : Cx} {pins : List (Addr × Obj)} {σ : L2.St} {H HZ : Hp} {s s1 : Shared} {ps : Arguments} {bo : Expr} {sc : Scope} {pos : Pos} {Q : Value → Shared → Prop}
theorem lamEval0 (hdef : defaultsOf ps X.env = ([], [])) (k : wpAny (model X.prog X.w) X.A (makeTail "<lambda>" (X.env.qual ++ "<lambda>") ps (.expr bo) sc X.env .none .none none pos pos.line) Q X.xe s) :
    wpAny (model X.prog X.w) X.A (eval (.Lambda ps bo sc pos) X.env) Q X.xe s := by
  refine PySem.W.kla_eval hdef ?_
  rw [makeFunction_eq]
  simp only [List.zip_nil_right, List.filterMap_nil, List.isEmpty_nil, if_true, pure_bind]
  exact k
abbrev tupO (u : Value) : Obj := { cls := .type "tuple", data := .seq #[u] }
theorem lamEval1 {e : Expr} {x0 : V} (I : Inv X pins σ H s) (hdef : defaultsOf ps X.env = ([eval e X.env], [])) (he : PE X e (tC x0))
    (k : ∀ (D : Addr) (u : Value) (t : Shared), RelV x0 u → Inv X ((D, tupO u) :: pins) σ H t → wpAny (model X.prog X.w) X.A (makeTail "<lambda>" (X.env.qual ++ "<lambda>") ps (.expr bo) sc X.env (.ref D) .none none pos pos.line) Q X.xe t) :
    wpAny (model X.prog X.w) X.A (eval (.Lambda ps bo sc pos) X.env) Q X.xe s := by
  rw [arm_eval_Lambda, hdef]
  show wpAny _ _ (do let dv ← (do let v ← eval e X.env; return v :: (← holding [v] (pure []))); let kdv ← holding dv (pure []); makeFunction "<lambda>" (X.env.qual ++ "<lambda>") ps (.expr bo) sc X.env dv kdv [] pos pos.line) _ _ _
  refine wpAny_bind (wpAny_bind (thn (he.run pins s σ H (fun v H1 => v = x0 ∧ H1 = H) I ⟨rfl, rfl⟩) fun u t ⟨v, H1, I1, r, ev, eH⟩ => ?_))
  subst ev
  subst eH
  refine wpAny_bind (wpAny_holding (wpAny_pure (wpAny_pure (wpAny_bind (wpAny_holding (wpAny_pure ?_))))))
  rw [makeFunction_eq]
  simp only [List.zip_nil_right, List.filterMap_nil, List.isEmpty_cons, List.isEmpty_nil, if_true, Bool.false_eq_true, if_false, pure_bind]
  refine wpAny_bind (wpAny_newTextTuple ?_)
  obtain ⟨hp, g, d, tk, os⟩ := t
  refine k hp.objs.size u _ r ?_
  have I2 : Inv X pins σ H1 ⟨hp.push (tupO u), g, d, tk, os⟩ := I1.kept (t' := tk) fun b o e => Heap.get?_push_of_some _ e
  refine I2.pins_of fun p hp2 => ?_
  rcases List.mem_cons.mp hp2 with rfl | hp2
  · exact ⟨Heap.get?_push_size _ rfl, I1.hok.fresh (Nat.le_refl _), Nat.ne_of_gt I1.lt, I1.nofs (Nat.le_refl _), fun v z => by cases z⟩
  · exact I2.pin p (List.mem_append_right _ hp2)
/-- a lambda's names: captured ones, globals, and parameters that the def has not -/
structure LamD (N : List Str) (so sc : Scope) : Prop where
  kind : sc.kind = .function
  co : sc.isCoroutine = false
  gen : sc.isGenerator = false
  own : ∀ y ∈ sc.names, y.2 ≠ .cell ∧ (y.2 = .local → y.1 ∉ N)
  free : ∀ y ∈ sc.names, y.2 = .free → so.names.lookup y.1 = some .cell ∨ so.names.lookup y.1 = some .free
def lamDB (N : List Str) (so sc : Scope) : Bool :=
  decide (sc.kind = .function) && !sc.isCoroutine && !sc.isGenerator && sc.names.all fun y => !decide (y.2 = .cell) && (!decide (y.2 = .local) || !decide (y.1 ∈ N)) && (!decide (y.2 = .free) || decide (so.names.lookup y.1 = some .cell) || decide (so.names.lookup y.1 = some .free))
theorem lamD_by {N : List Str} {so sc : Scope} (h : lamDB N so sc = true) : LamD N so sc := by
  unfold lamDB at h
  simp only [Bool.and_eq_true, Bool.or_eq_true, Bool.not_eq_true', decide_eq_true_eq, decide_eq_false_iff_not, List.all_eq_true] at h
  obtain ⟨⟨⟨h1, h2⟩, h3⟩, h4⟩ := h
  refine ⟨h1, h2, h3, fun y hy => ⟨(h4 y hy).1.1, fun e => ?_⟩, fun y hy e => ?_⟩
  · rcases (h4 y hy).1.2 with z | z
    · exact absurd e z
    · exact z
  · rcases (h4 y hy).2 with (z | z) | z
    · exact absurd e z
    · exact .inl z
    · exact .inr z
theorem LamD.has (L : LamD X.N X.env.scope sc) (ok : X.Ok) : ∀ y ∈ sc.names, y.2 = .free → ∃ c, X.env.cells.lookup y.1 = some c := fun y hy e => (L.free y hy e).elim (fun k => ok.has _ (.inl k)) fun k => ok.has _ (.inr k)
theorem lamStart {A : Around} {outer : List Env} {E : XK} {f c' : Addr} {g : Heap} {tk : Nat} {m : Str → Option Value} (I : Inv X pins σ H s) (L : LamD X.N X.env.scope sc) (e0 : Env0 X.prog X.w X.K X.mg X.base A outer s1 HZ) (hd : A.handled = none)
    (un : Un (frs X.stack) [] H HZ s.heap s1.heap) (hns : g.Ns s1.heap.objs.size m) (kp : ∀ b o, s1.heap.get? b = some o → g.get? b = some o) : Inv (lamCx X A outer s1 HZ E sc f c') [] σ HZ { s1 with heap := g, toks := tk } := by
  have hf := L.has I.ok
  have one : ∀ {y : Str} {c : Addr}, (cloFrom X.env.cells sc.names []).lookup y = some c → X.env.cells.lookup y = some c := fun {y c} e => by
    rcases cloFrom_mem (PySem.mem_of_lookup e) with z | ⟨z1, z2⟩
    · cases z
    · obtain ⟨c1, hc⟩ := hf _ z1 rfl
      have hc : X.env.cells.lookup y = some c1 := hc
      rw [hc]
      congr 1
      exact (z2.trans (by rw [hc] <;> rfl)).symm
  have two : ∀ {y : Str}, sc.names.lookup y = some .free → ∃ c, (cloFrom X.env.cells sc.names []).lookup y = some c := fun {y} hl => mem_lookup (cloFrom_has (cells := X.env.cells) (acc := []) (PySem.mem_of_lookup hl))
  have cellK : ∀ {c : Addr} {v : Option Value}, H c = none → s.heap.IsCell c v → g.IsCell c v := fun {c v} n ⟨o, ho, hd⟩ => by
    obtain ⟨sl, q⟩ := un.any ho n List.not_mem_nil
    exact ⟨_, kp _ _ q, hd⟩
  have noA : ∀ b : Addr, b ∉ (lamCx X A outer s1 HZ E sc f c').ex := fun b z => absurd (show b ∈ ([] : List Addr) from z) List.not_mem_nil
  have okL : (lamCx X A outer s1 HZ E sc f c').Ok := ⟨e0.mod, L.kind, rfl, rfl, Nat.le_refl _, fun y z c e1 e2 => I.ok.inj y z c (one e1) (one e2), fun y hy => by
      rcases (show sc.names.lookup y = some .cell ∨ sc.names.lookup y = some .free from hy) with hy | hy
      · exact absurd rfl (L.own _ (PySem.mem_of_lookup hy)).1
      · exact two hy, fun y c z _ => Bool.noConfusion (show false = true from z), fun _ => hd, Around.frames_deeper e0.frames, .inr ⟨rfl, rfl⟩, fun b z => absurd z (noA b), e0.bs, e0.bsz, fun b _ _ => noA b, fun b z => absurd z (noA b), e0.funs, e0.frf⟩
  refine ⟨okL, rfl, e0.bare, Un.kept kp, ⟨_, hns, fun i y v e1 e2 e3 => ?_⟩, fun y c e => ?_, e0.hok.fresh (Nat.le_refl _), fun y c e => ?_, fun p hp => absurd (show p ∈ ([] : List (Addr × Obj)) ++ [] from hp) List.not_mem_nil, e0.hok.kept kp, I.len⟩
  · rcases (show Vis sc y from e3) with k | k | k
    · exact absurd (List.mem_of_getElem? e1) ((L.own _ (PySem.mem_of_lookup k)).2 rfl)
    · exact absurd rfl (L.own _ (PySem.mem_of_lookup k)).1
    · have fr := L.free _ (PySem.mem_of_lookup k) rfl
      obtain ⟨m0, hn, hl⟩ := I.loc
      obtain ⟨w', r, q⟩ := hl i y v e1 e2 (fr.elim (fun k => .inr (.inl k)) fun k => .inr (.inr k))
      obtain ⟨c2, h2⟩ := two k
      refine ⟨w', r, .inr ⟨.inr k, c2, h2, ?_⟩⟩
      rcases q with ⟨k2, _⟩ | ⟨_, c3, e', z⟩
      · replace k2 : X.env.scope.names.lookup y = some .local := k2
        rcases fr with k3 | k3 <;> · rw [show X.env.scope.names.lookup y = _ from k3] at k2; cases k2
      · have h3 := one h2
        obtain rfl : c2 = c3 := Option.some.inj (h3.symm.trans e')
        exact cellK (I.freeC y _ h3) z
  · obtain ⟨w', z⟩ := I.cell y c (one e)
    exact ⟨w', cellK (I.freeC y c (one e)) z⟩
  · obtain ⟨v, o, ho, hd⟩ := I.cell y c (one e)
    exact un.free c o ho (I.freeC y c (one e)) List.not_mem_nil
end
end Nd

namespace Nd
open PySem PySem.Spec PyProof.Rows L2 LamX
section
variable {X : Cx} {pins : List (Addr × Obj)} {σ : L2.St} {H : Hp} {s : Shared} {ps : Arguments} {bo : Expr} {sc : Scope}
/-- what a call without arguments binds, wherever what was untracked at s stands still -/
def LamBinds (X : Cx) (H : Hp) (s : Shared) (sc : Scope) (fd : FuncData) : Prop :=
  ∀ t : Shared, (∀ b o, s.heap.get? b = some o → H b = none → b ∉ frs X.stack → t.heap.get? b = some o) → ∃ bs, BindsTo t fd ⟨[], []⟩ bs ∧ ∀ y ∈ bs, sc.names.lookup y.1 = some .local
/-- a(), in the def that was given the lambda -/
theorem pe_actL {CXg : CXT} {Eg : XK} {Ng : List Str} {qg : Str} {sg : Scope} {g f c' : Addr} {cdg pm ct dv : Value} {k i : Nat} {a : Str} {pn : List (Addr × Obj)} {xe : Value → Shared → Prop} {W : WX} {E : L2.St → XK} {tb : L2.St → TE} {p1 p2 : Pos}
    (I : Inv X pins σ H s) (L : LamD X.N X.env.scope sc) (hf : s.heap.get? f = some (obL (X.env.qual ++ "<lambda>") ps bo sc (cloFrom X.env.cells sc.names []) pm (.ref c') ct dv)) (hfn : H f = none) (hfr : f ∉ frs X.stack)
    (hB : LamBinds X H s sc (fnL (X.env.qual ++ "<lambda>") ps bo sc (cloFrom X.env.cells sc.names []) pm (.ref c') ct dv))
    (tk : Takes ((cxOf CXg X.prog X.w X.K X.mg X.base Ng qg sg g cdg X.A X.stack s H Eg).tr pn xe) W) (hW : ∀ cls d σ' H', E σ' cls d H' → W cls d σ' H') (hr : Room (k + 1) (X.A.deeper (envOfC qg sg s.heap.objs.size g cdg))) (hG : X.A.guards = some [])
    (hbody : ∀ (σ' : L2.St) (A : Around) (outer : List Env) (t : Shared) (G : Hp), A.guards = some [] → Room k (A.deeper (lamEnv X sc t.heap.objs.size f c')) → PE (lamCx X A outer t G (E σ') sc f c') bo (tb σ'))
    (hN : Ng[i]? = some a) (hv : Vis sg a) (hd : (a == ("__debug__" : Str)) = false := by decide) (hcd : (a == ("__classdict__" : Str)) = false := by decide) :
    PE ((cxOf CXg X.prog X.w X.K X.mg X.base Ng qg sg g cdg X.A X.stack s H Eg).tr pn xe) (.Call (.Name a p1) [] [] p2)
      (fun σZ HZ Q => σZ[i]? = some (some (.ref f)) ∧ HZ c' = some (CodeO c' (X.env.qual ++ "<lambda>")) ∧ tb σZ σ HZ Q) := by
  refine ⟨fun pinsZ sZ σZ HZ Q IZ ⟨hs, hc, ht⟩ => ?_⟩
  refine wpAny_Call_Name_kw (thn ((pe_var (pos := p1) (i := i) hN hv hd hcd).run pinsZ sZ σZ HZ (fun v H1 => v = .ref f ∧ H1 = HZ) IZ ⟨.ref f, hs, rfl, rfl⟩) fun u t ⟨v, H1, I1, r1, ev, eH⟩ => ?_)
  subst ev
  rw [eH] at I1
  obtain rfl : u = Value.ref f := r1
  have un : Un (frs X.stack) [] H HZ s.heap t.heap := I1.base
  have stays : ∀ b o, s.heap.get? b = some o → H b = none → b ∉ frs X.stack → t.heap.get? b = some o := fun b o e n nf => un.keep b o e n nf List.not_mem_nil
  have of1 := stays f _ hf hfn hfr
  refine PySem.W.callWith_F0 ⟨_, _, _, _, of1⟩ ?_
  obtain ⟨⟨oc, vs, tq, hoc, hdc, hvc⟩, _, _⟩ := I1.hok c' _ hc
  obtain ⟨bs, bt, bl⟩ := hB t stays
  have rc : codeAny (model X.prog X.w) (X.A.deeper (envOfC qg sg s.heap.objs.size g cdg)) (.call (.ref f) ⟨[], []⟩) (CR (L2.CX X.prog X.w) (envOfC qg sg s.heap.objs.size g cdg :: X.stack) X.prog X.w HZ t Q (E σZ)) t := by
    refine PySem.W.kla_callFunE hr.depth of1 rfl L.co L.gen rfl ⟨c', oc, vs, tq, rfl, hoc, hdc, hvc⟩ (bt _ _ _ _ (wpAny_newFunctionEnv (fun y hy => (L.own y hy).1) bl (fun h1 hns hsb => ⟨I1.nolimit.fresh _ hsb, ?_⟩) L.kind))
    change codeAny _ _ (.expr bo (lamEnv X sc t.heap.objs.size f c')) _ _
    have kp : ∀ b o, t.heap.get? b = some o → h1.get? b = some o := fun b o e => hsb.extBut b o (Nat.ne_of_lt (Heap.lt_size e)) (Heap.get?_push_of_some _ e)
    have J : Inv (lamCx X (X.A.deeper (envOfC qg sg s.heap.objs.size g cdg)) (envOfC qg sg s.heap.objs.size g cdg :: X.stack) t HZ (E σZ) sc f c') [] σ HZ { t with heap := h1, toks := t.toks + bs.length } := lamStart I L I1.env0 hr.hd un hns kp
    refine PySem.W.kla_codeExpr (wpAny_mono ((hbody σZ (X.A.deeper (envOfC qg sg s.heap.objs.size g cdg)) (envOfC qg sg s.heap.objs.size g cdg :: X.stack) t HZ hG (hr.deeper _)).run [] _ _ HZ Q J ht) (fun v s' ⟨w', H', J', rv, q⟩ => ?_) fun e s' hq => hq)
    exact ⟨w', H', J'.os, J'.bare, J'.base, J'.hok, rv, q⟩
  refine wpAny_call (codeAny_mono rc fun r s' hq => ?_)
  rcases r with e | (_ | _ | _ | u)
  · exact tk e s' (XE.of_call I1 (fun cls d H' h => hW cls d σZ H' h) hq)
  all_goals first | exact False.elim hq | exact I1.after hq
/-- the def that is given a lambda: a calls it; TT: what it makes of the lambda's reading -/
def GivesG (X : Cx) (Ng : List Str) (x : Str) (sg : Scope) (g : Addr) (cdg : Value) (bg : List Stmt) (a : Str) (q : Str) (k : Nat) (TT : (XK → Hp → VK → Prop) → Hp → VK → Prop) : Prop :=
  ∀ (f c' : Addr) (s : Shared) (H : Hp) (Q : VK) (tl : XK → Hp → VK → Prop),
    (∀ (W : WX) (pn : List (Addr × Obj)) (xe : Value → Shared → Prop) (p1 p2 : Pos), Takes ((cxOf L2.CX0 X.prog X.w X.K X.mg X.base Ng x sg g cdg X.A X.stack s H L2.E0).tr pn xe) W →
      PE ((cxOf L2.CX0 X.prog X.w X.K X.mg X.base Ng x sg g cdg X.A X.stack s H L2.E0).tr pn xe) (.Call (.Name a p1) [] [] p2) (fun σZ HZ Q => σZ[0]? = some (some (.ref f)) ∧ HZ c' = some (CodeO c' q) ∧ tl (fun cls d H' => W cls d σZ H') HZ Q)) →
    H c' = some (CodeO c' q) → Room k (X.A.deeper (envOfC x sg s.heap.objs.size g cdg)) → TT tl H Q →
    ∃ t, PSs (cxOf L2.CX0 X.prog X.w X.K X.mg X.base Ng x sg g cdg X.A X.stack s H L2.E0).nox bg t ∧ t (Ends.mk (fun _ H' => Q .non H') Q (fun _ _ => False) (fun _ _ => False)) (L2.start Ng [.ref f]) H
/-- x(lambda: bo), or x(lambda p=e: bo) -/
theorem pe_lamL {T : List (Addr × Str)} {TT : (XK → Hp → VK → Prop) → Hp → VK → Prop} {x a : Str} {g c P : Addr} {k : Nat} {pg : Arguments} {bg : List Stmt} {sg : Scope} {dV kV doc pm cdv ct oc : Value} {an od : Option Addr} {osl : Array (Option Value)} {Ng : List Str} {t : XK → TE} {p lpos pos : Pos}
    (hg : Gl X x) (hm : X.mg x = some (.ref g)) (hk : PySem.W.keepIn X.K (.ref g) = true) (lk : X.K.lookup g = some ⟨oc, od, .func (PySem.W.fnOf x x pg bg sg dV kV doc pm an cdv ct), osl⟩) (hcg : PySem.W.codeIn X.K cdv x = true) (hb : L2.Binds X.K (PySem.W.fnOf x x pg bg sg dV kV doc pm an cdv ct) [a] [])
    (Sg : FnScope Ng [a] sg) (hNg : Ng[0]? = some a) (hva : Vis sg a) (hGv : GivesG X Ng x sg g cdv bg a (X.env.qual ++ "<lambda>") (k + 1) TT) (hG : X.A.guards = some [])
    (TB : TabB X.base X.mg c P) (hcode : X.env.code = .ref c) (hmT : (P, X.env.qual ++ "<lambda>") ∈ T) (hu : ∀ p ∈ T, p.1 = P → p.2 = X.env.qual ++ "<lambda>") (hr : Room (k + 2) X.A) (L : LamD X.N X.env.scope sc)
    (hdef : (defaultsOf ps X.env = ([], []) ∧ ∀ (q : Str) (cl : List (Str × Addr)) (pm cv ct : Value), bindArgs (fnL q ps bo sc cl pm cv ct .none) ⟨[], []⟩ = pure []) ∨
      ∃ (e : Expr) (x0 : V) (y : Str), defaultsOf ps X.env = ([eval e X.env], []) ∧ PE X e (tC x0) ∧ sc.names.lookup y = some .local ∧
        ∀ (q : Str) (cl : List (Str × Addr)) (pm cv ct u : Value) (D : Addr), ∃ kk, bindArgs (fnL q ps bo sc cl pm cv ct (.ref D)) ⟨[], []⟩ = seqItems? (.ref D) >>= kk ∧ kk (some #[u]) = pure [(y, u)])
    (hbody : ∀ (A : Around) (outer : List Env) (s : Shared) (H : Hp) (E : XK) (f c' : Addr), A.guards = some [] → Room k (A.deeper (lamEnv X sc s.heap.objs.size f c')) → PE (lamCx X A outer s H E sc f c') bo (t E))
    (hdb : (x == ("__debug__" : Str)) = false := by decide) (hd : (a == ("__debug__" : Str)) = false := by decide) (hcd : (a == ("__classdict__" : Str)) = false := by decide) :
    PE X (.Call (.Name x p) [.Lambda ps bo sc lpos] [] pos) (tLam T TT t) := by
  refine ⟨fun pins s σ H Q I ⟨hT, rd⟩ => ?_⟩
  refine wpAny_Call_Name_kw (ld_glob I hg hm ?_ hdb)
  refine PySem.W.callWith_K (h₀ := X.base) I.ok.mod.kin hk ?_ (by rfl) (by rfl)
  change wpAny _ _ (spliced ((false, eval (.Lambda ps bo sc lpos) X.env) :: backTo pos (starEach [] X.env))) _ _ s
  have go : ∀ (dv : Value) (pins2 : List (Addr × Obj)) (t0 : Shared), Inv X pins2 σ H t0 → (∀ t1 H1, Inv X pins2 σ H1 t1 → Inv X pins σ H1 t1) →
      (∀ (t1 : Shared) (H1 : Hp) (q : Str) (cl : List (Str × Addr)) (pm cv ct : Value), Inv X pins2 σ H1 t1 → LamBinds X H1 t1 sc (fnL q ps bo sc cl pm cv ct dv)) →
      wpAny (model X.prog X.w) X.A (makeTail "<lambda>" (X.env.qual ++ "<lambda>") ps (.expr bo) sc X.env dv .none none lpos lpos.line) (fun v s' => wpAny (model X.prog X.w) X.A (spliced (backTo pos (starEach [] X.env))) (fun vs s2 => X.K.In s2.heap ∧ wpAny (model X.prog X.w) X.A (call (.ref g) (v :: vs)) (EP X pins σ Q) X.xe s2) X.xe s') X.xe t0 := fun dv pins2 t0 I0 back lb => by
    refine lamTail I0 TB hcode hmT hu hT (L.has I0.ok) fun f c' pm' ct' H1 t1 I1 eN T1 hf hfn hfr hco => ?_
    have J1 := back t1 H1 I1
    refine Calls.spliced_nil ⟨J1.kIn, ?_⟩
    have rc : codeAny (model X.prog X.w) X.A (.call (.ref g) ⟨[.ref f], []⟩) (CR L2.CX0 X.stack X.prog X.w H1 t1 Q L2.E0) t1 := by
      refine run_ofS (N := Ng) (ps := [a]) (us := [.ref f]) (vs := [.ref f]) lk hcg Sg hr J1.env0 (hb t1 [.ref f] J1.kIn rfl) (.cons rfl .nil) rfl fun hr' => ?_
      obtain ⟨t', ht', hq'⟩ := hGv f c' t1 H1 Q (fun E H' Q' => t E σ H' Q') (fun W pn xe p1 p2 tk => pe_actL (i := 0) (E := fun σZ cls d H' => W cls d σZ H') (tb := fun σZ => t (fun cls d H' => W cls d σZ H')) J1 L hf hfn hfr (lb t1 H1 _ _ _ _ _ I1) tk (fun _ _ _ _ h => h) hr' hG (fun σ' A outer s H hg2 hr2 => hbody A outer s H _ f c' hg2 hr2) hNg hva hd hcd) hco hr' (rd H1 eN T1)
      exact ⟨t', ht'.nox, hq'⟩
    refine wpAny_call (codeAny_mono rc fun r s2 hq => ?_)
    rcases r with e | (_ | _ | _ | u)
    all_goals first | exact (show False from hq).elim | exact J1.after hq
  refine Calls.spliced_cons ?_
  rcases hdef with ⟨e0, b0⟩ | ⟨e, x0, y, e1, he, hy, b1⟩
  · exact lamEval0 e0 (go .none pins s I (fun _ _ h => h) fun t1 H1 q cl pm cv ct I1 t2 st => ⟨[], BindsTo.of_eq (b0 q cl pm cv ct), fun z hz => absurd hz List.not_mem_nil⟩)
  · refine lamEval1 I e1 he fun D u t0 r I' => go (.ref D) _ t0 I' (fun t1 H1 h => h.pins_of fun p hp => h.pin p (List.mem_append_right _ (List.mem_cons_of_mem _ hp))) fun t1 H1 q cl pm cv ct I1 t2 st => ?_
    obtain ⟨g1, g2, g3, g4, _⟩ := I1.pin (D, tupO u) (List.mem_append_right _ List.mem_cons_self)
    have nf : D ∉ frs X.stack := fun z => (List.mem_cons.mp (I1.stkSub _ z)).elim g3 g4
    have e2 := st D _ g1 g2 nf
    obtain ⟨kk, k1, k2⟩ := b1 q cl pm cv ct u D
    refine ⟨[(y, u)], fun M A E Q k => ?_, fun z hz => ?_⟩
    · rw [k1]
      refine wpAny_bind (wpAny_seqItems e2 rfl ?_)
      rw [k2]
      exact wpAny_pure k
    · rw [List.mem_singleton.mp hz]
      exact hy
end
end Nd

namespace Nd
open PySem PySem.Spec PyProof.Rows L2 LamX
/-! ### a law's own call, where code tables are told -/
theorem fields_nil {b : Addr} {g : Heap} {o : Obj} (e : g.get? b = some o) (z : g.get? b = some ({ cls := .none, data := .fields #[] } : Obj)) : o = { cls := .none, data := .fields #[] } := Option.some.inj (e.symm.trans z)
theorem entT {P : Program} {w : World} {K : PySem.W.Frag} {mg mb : Str → Option Value} {CX : CXT} {k : Nat} {fa a c P1 : Addr} {fd : FuncData} {x : Str} {sp : Sp} {s₁ : Shared} {vs : List Value} {ns : List Int}
    (KX : K.In s₁.heap) (hns : s₁.heap.Ns mainGlobals mg) (hb : s₁.heap.Ns builtinsNs mb) (hbb : ∀ y : Str, y ≠ "__name__" → mb y = bootBuiltins y) (hlim : s₁.heap.NoLimit) (hg : s₁.gens = #[])
    (tP : s₁.heap.get? P1 = some { cls := .none, data := .fields #[] }) (nP : K.lookup P1 = none) (cP : PySem.W.CodeHd s₁.heap c P1)
    (bm : ∃ (m : Addr) (om : Obj), mg "__builtins__" = some (.ref m) ∧ m ≠ builtinsNs ∧ s₁.heap.get? m = some om ∧ om.cls = .type "module" ∧ om.dict = some builtinsNs ∧ om.data = .plain)
    (ha : s₁.heap.get? a = some { cls := .type "list", data := .seq vs.toArray }) (hi : IntsAre vs ns) (hl : ns.length ≤ sizeLine) (hr : Room k callerA)
    (F : ∀ base : Heap, K.In base → base.Ns mainGlobals mg → TabB base mg c P1 → FnG P w K mg base CX k fa fd [x] sp)
    (hbind : ∀ (s : Shared) (u : Value), BindsTo s fd ⟨[u], []⟩ [(x, u)])
    (hsp : ∀ H : Hp, H P1 = some (.tbl #[]) → SqL K H a (ns.map V.int) → sp [.ref a] H (fun v _ => v = .bl true) E0)
    (hCX : ∀ H e s', CX [] H s₁ E0 e s' → False) :
    codeAny (model P w) callerA (.call (.ref fa) ⟨[.ref a], []⟩) (fun r s' => r = .ok (.ret (.bool true)) ∧ OldK s₁.heap s'.heap ∧ s'.os = s₁.os ∧ AllBare s'.gens) s₁ := by
  have rv := vals_ints hi
  have aP : a ≠ P1 := fun z => by
    have q := fields_nil (z ▸ ha) tP
    cases congrArg Obj.data q
  obtain ⟨H, eP, eA, eO⟩ : ∃ H : Hp, H P1 = some (.tbl #[]) ∧ (H a = if K.lookup a = none then some (.frz { cls := .type "list", data := .seq vs.toArray } (.lst (ns.map V.int))) else none) ∧ ∀ b, b ≠ P1 → b ≠ a → H b = none :=
    ⟨fun b => if b = P1 then some (.tbl #[]) else if b = a then (if K.lookup a = none then some (.frz { cls := .type "list", data := .seq vs.toArray } (.lst (ns.map V.int))) else none) else none,
      if_pos rfl, (if_neg aP).trans (if_pos rfl), fun b n1 n2 => (if_neg n1).trans (if_neg n2)⟩
  have hid : ∀ {b : Addr} {o : Obj}, s₁.heap.get? b = some o → (b = a → K.lookup a ≠ none) → b ≠ P1 → (hidT s₁.heap H).get? b = some o := fun {b o} e n1 n2 => by
    refine hidT_get e ?_
    by_cases z : b = a
    · rw [z, eA, if_neg (n1 z)]
    · exact eO b n2 z
  have ofDict : ∀ {b : Addr} {o : Obj} {es : Array DictEntry} {ep : Nat}, s₁.heap.get? b = some o → o.data = .dict es ep → (hidT s₁.heap H).get? b = some o := fun {b o es ep} e d => by
    refine hid e (fun z => ?_) fun z => ?_
    · rw [z, ha] at e
      cases e
      cases d
    · rw [z] at e
      rw [fields_nil e tP] at d
      cases d
  have toNs : ∀ {b : Addr} {m : Str → Option Value}, s₁.heap.Ns b m → (hidT s₁.heap H).Ns b m := fun {b m} ⟨o, es, ep, e, d, r⟩ => ⟨o, es, ep, ofDict e d, d, r⟩
  have inB : K.In (hidT s₁.heap H) := fun b o e => hid (KX b o e) (fun z => by rw [← z, e]; exact fun q => nomatch q) fun z => by rw [z, nP] at e; cases e
  obtain ⟨mc, l1, l2⟩ := hlim
  have md : Mod K mg (hidT s₁.heap H) := ⟨inB, toNs hns, ⟨mb, toNs hb, hbb⟩, mc, toNs l1, l2⟩
  have nG : mainGlobals ≠ P1 := fun z => by
    obtain ⟨o, es, ep, e, d, _⟩ := hns
    rw [z] at e
    rw [fields_nil e tP] at d
    cases d
  have tb : TabB (hidT s₁.heap H) mg c P1 := by
    obtain ⟨oc, us, e0, e1, e2, e3, e4, e5, e6, g1, g2, g3, gr⟩ := cP
    obtain ⟨m, om, m1, m2, m3, m4, m5, m6⟩ := bm
    refine ⟨⟨oc, us, e0, e1, e2, e3, e4, e5, e6, hid g1 (fun z => ?_) (fun z => ?_), g2, g3, gr⟩, ⟨m, om, m1, m2, fun z => ?_, fun z => ?_, hid m3 (fun z => ?_) (fun z => ?_), m4, m5, m6⟩, nG⟩
    · rw [z, ha] at g1
      rw [← Option.some.inj g1] at g2
      injection g2 with g2
      exact absurd g2 (by decide)
    · rw [z] at g1
      rw [fields_nil g1 tP] at g2
      cases g2
    · obtain ⟨o, es, ep, e, d, _⟩ := hns
      rw [z, e] at m3
      cases m3
      rw [d] at m6
      cases m6
    · rw [z] at m3
      rw [fields_nil m3 tP] at m6
      cases m6
    · rw [z, ha] at m3
      cases m3
      cases m6
    · rw [z] at m3
      rw [fields_nil m3 tP] at m6
      cases m6
  have ok : HOk P w H s₁.heap := fun b u z => by
    by_cases q : b = P1
    · rw [q, eP] at z
      cases z
      rw [q]
      exact tP
    · by_cases q2 : b = a
      · rw [q2, eA] at z
        by_cases hk : K.lookup a = none
        · rw [if_pos hk] at z
          cases z
          rw [q2]
          exact ⟨ha, by rw [List.length_map]; exact hl, vs, _, rv, ha⟩
        · rw [if_neg hk] at z
          cases z
      · rw [eO b q q2] at z
        cases z
  have env : Env0 P w K mg (hidT s₁.heap H) callerA [] s₁ H :=
    { frames := rfl, mod := md, bs := fun b o e => of_hidT e
      bsz := Nat.le_of_eq (hidT_size _ _), funs := trivial
      frf := fun b hb => (List.not_mem_nil (show b ∈ ([] : List Addr) from hb)).elim
      hok := ok, bare := .of_eq hg }
  have sq : SqL K H a (ns.map V.int) := by
    by_cases hk : K.lookup a = none
    · exact .inl (.inr ⟨_, by rw [eA, if_pos hk]⟩)
    · obtain ⟨o, e⟩ := Option.ne_none_iff_exists'.mp hk
      obtain rfl := Option.some.inj ((KX a o e).symm.trans ha)
      refine .inr ⟨_, vs.toArray, _, e, rfl, rfl, rfl, ?_, by simpa using rv⟩
      rw [List.size_toArray, hi.length]
      exact hl
  have run := (F _ inB (toNs hns) tb).go callerA [] s₁ H ⟨[.ref a], []⟩ [.ref a] [.ref a] _ _ rfl hr env (hbind s₁ (.ref a)) (.cons rfl .nil) (hsp H eP sq)
  refine codeAny_mono run fun r s' h => ?_
  rcases r with e | fl
  · exact (hCX H e s' h).elim
  rcases fl with _ | _ | _ | u
  all_goals first | exact False.elim h | skip
  obtain ⟨v, H', os, bare, un, ok', rv', rfl⟩ := h
  cases (show u = Value.bool true from rv')
  have stays : ∀ b o, b ≠ P1 → s₁.heap.get? b = some o → s'.heap.get? b = some o := fun b o n e => by
    by_cases z : b = a
    · subst z
      by_cases hk : K.lookup b = none
      · have new := (ok' b _ (un.frzs b _ _ (by rw [eA, if_pos hk]))).1
        exact new.trans (ha.symm.trans e)
      · exact un.keep b o e (by rw [eA, if_neg hk]) (fun m => (List.not_mem_nil (show b ∈ ([] : List Addr) from m)).elim) (by simp)
    · exact un.keep b o e (eO b n z) (fun m => (List.not_mem_nil (show b ∈ ([] : List Addr) from m)).elim) (by simp)
  obtain ⟨more, hm⟩ : ∃ more : Array Value, s'.heap.get? P1 = some { cls := .none, data := .fields more } := by
    obtain ⟨more, z⟩ := un.tbls P1 #[] eP
    exact ⟨_, ok' P1 _ z⟩
  refine ⟨rfl, ⟨fun b o e => ?_, fun b o e => ?_⟩, os, bare⟩
  · by_cases z : b = P1
    · subst z
      obtain rfl := fields_nil e tP
      exact .inr (.inl ⟨(cP.tab tP).isCodeTable, rfl, #[], more, rfl, by rw [Array.empty_append]; exact hm⟩)
    · exact .inl (stays b o z e)
  · by_cases z : b = P1
    · exact ⟨_, z ▸ hm⟩
    · exact ⟨o, stays b o z e⟩
theorem walkT {l : PySem.W.OpenLaw} {n k : Nat} {q : Program} {loose : List Str} {XP : (Str → Option Value) → Heap → Prop} {YP : World → Heap → Prop} {d : DefRec}
    {K : Params → PySem.W.Frag} {CX : World → CXT} {x : Str} (hn : l.most = some n) (hn2 : n ≤ sizeLine) (hdf : d.params.defaults = []) (hr : Room k callerA)
    (hY : ∀ (w : World) (h : Heap), YP w h → (K w.params).In h)
    (F : ∀ (w : World) (mg : Str → Option Value) (fa : Addr) (h : Heap), YP w h → (K w.params).In h → h.Ns mainGlobals mg → mg d.name = some (.ref fa) →
      ∃ (fd : FuncData) (c P1 : Addr) (sp : Sp), h.get? P1 = some { cls := .none, data := .fields #[] } ∧ (K w.params).lookup P1 = none ∧ PySem.W.CodeHd h c P1 ∧ (∀ (s : Shared) (u : Value), BindsTo s fd ⟨[u], []⟩ [(x, u)]) ∧
        (∀ (H : Hp) (a : Addr) (ns : List Int), ns.length ≤ n → H P1 = some (.tbl #[]) → SqL (K w.params) H a (ns.map V.int) → sp [.ref a] H (fun v _ => v = .bl true) E0) ∧
        ∀ base : Heap, (K w.params).In base → base.Ns mainGlobals mg → TabB base mg c P1 → FnG l.prog w (K w.params) mg base (CX w) k fa fd [x] sp)
    (hCX : ∀ (w : World) (H : Hp) (s : Shared) (e : Value) (s' : Shared), CX w [] H s E0 e s' → False) :
    PySem.W.WalkO q loose XP YP l.row.toRowW d [] (fun f vs => PySem.call f vs) := by
  apply Att.attach_callB hn hdf
  intro w s₀ s₁ mg mb fa o pm cd doc a vs ns G Y _ _ _ hmg hobj hints hlen _ hg
  obtain ⟨fd, c, P1, sp, tP, nP, cP, hb, hsp, hF⟩ := F w mg fa _ Y (hY w _ Y) G.T.g hmg
  exact entT (hY w _ Y) G.T.g G.T.b G.T.builtins G.T.nolimit hg tP nP cP G.T.bmain hobj hints (Nat.le_trans hlen hn2) hr hF hb (fun H hT hS => hsp H a ns hlen hT hS) (fun H e s' => hCX w H s₁ e s')
end Nd

namespace Nd
open PySem PySem.Spec PyProof.Rows L2 LamX
/-! ### defs that raise -/
section
variable {P : Program} {w : World} {K : PySem.W.Frag} {mg : Str → Option Value} {base : Heap}
theorem takesX {N : List Str} {qual : Str} {scope : Scope} {f : Addr} {cdv : Value} {A : Around} {outer : List Env} {s : Shared} {H : Hp} {E : XK} :
    Takes (cxOf (L2.CX P w) P w K mg base N qual scope f cdv A outer s H E) (fun cls d _ H' => E cls d H') := takes_of rfl rfl rfl rfl
theorem passX {N : List Str} {qual : Str} {scope : Scope} {f : Addr} {cdv : Value} {A : Around} {outer : List Env} {s : Shared} {H : Hp} {E : XK} :
    Passes (L2.CX P w) (cxOf (L2.CX P w) P w K mg base N qual scope f cdv A outer s H E) E := passes_call takesX fun _ _ _ _ h => h
theorem takesLam {X : Cx} {A : Around} {outer : List Env} {s : Shared} {H : Hp} {E : XK} {sc : Scope} {f c' : Addr} : Takes (lamCx X A outer s H E sc f c') (fun cls d _ H' => E cls d H') := takes_of rfl rfl rfl rfl
theorem passLam {X : Cx} {A : Around} {outer : List Env} {s : Shared} {H : Hp} {E : XK} {sc : Scope} {f c' : Addr} : Passes (L2.CX X.prog X.w) (lamCx X A outer s H E sc f c') E := passes_call takesLam fun _ _ _ _ h => h
theorem FnG.calm {k : Nat} {f : Addr} {fd : FuncData} {ps : List Str} {sp : Sp} (F : FnG P w K mg base (L2.CX P w) k f fd ps sp) : FnG P w K mg base CX0 k f fd ps (fun vs H Q _ => sp vs H Q E0) := by
  refine ⟨fun vs H Q _ h => F.many vs H Q _ h, fun A fr s H args us vs Q E hG hr e0 hb r h => ?_⟩
  refine codeAny_mono (F.go A fr s H args us vs Q E0 hG hr e0 hb r h) fun q s' hq => ?_
  rcases q with e | fl
  · obtain ⟨_, _, _, _, _, _, _, _, _, _, _, _, z⟩ := hq
    exact z.elim
  · rcases fl with _ | _ | _ | u <;> exact hq
theorem Cal.calm {k : Nat} {x : Str} {sp : Sp} (c : Cal P w K mg base (L2.CX P w) k x sp) : Cal P w K mg base CX0 k x (fun vs H Q _ => sp vs H Q E0) := by
  obtain ⟨f, fd, ps, F, r⟩ := c.ex
  exact ⟨f, fd, ps, F.calm, r⟩
theorem CalK.calm {k : Nat} {x : Str} {ks : List Str} {ix : List Nat} {sp : Sp} (c : CalK P w K mg base (L2.CX P w) k x ks ix sp) : CalK P w K mg base CX0 k x ks ix (fun vs H Q _ => sp vs H Q E0) := by
  obtain ⟨f, fd, ps, F, r⟩ := c.ex
  exact ⟨f, fd, ps, F.calm, r⟩
/-- an own error's class at C, whose __init__ keeps sp -/
structure MkE (P : Program) (w : World) (K : PySem.W.Frag) (mg : Str → Option Value) (base : Heap) (x : Str) (C : Addr) (k : Nat) (sp : Sp) : Prop where
  oex : OexC K C
  gm : mg x = some (.ref C)
  ini : ∃ (fI : Addr) (fd : FuncData) (ps : List Str), PySem.W.findIn K (.ref C) "__init__" = some (some (.ref fI)) ∧ PySem.W.typeIn K (.ref fI) = some (.type "function") ∧ FnG P w K mg base CX0 k fI fd ps sp ∧ Binds K fd ps []
end
theorem pmk_e {X : Cx} {x : Str} {C : Addr} {k : Nat} {sp : Sp} {e : Expr} {es : List Expr} {ta : TA} {p pos : Pos} (M : MkE X.prog X.w X.K X.mg X.base x C k sp) (hG : X.A.guards = some []) (hr : Room (k + 1) X.A) (hg : Gl X x) (ha : PA X (e :: es) ta)
    (hdb : (x == ("__debug__" : Str)) = false := by decide) (he : starEach (e :: es) X.env = (false, eval e X.env) :: starEach es X.env := by rfl) (hpl : (backTo pos (starEach es X.env)).any (·.1) = false := by rfl) :
    PMk X (.Call (.Name x p) (e :: es) [] pos) (tMkO C sp [] ta) := by
  obtain ⟨fI, fd, ps, iC, tI, Fi, hB⟩ := M.ini
  obtain ⟨nm, q, N, bs, bm, sn, sub, ab, col, dd, k0, k1, k2, k3, k5, hC, hbm⟩ := M.oex.cls
  intro pins s σ H Q I h
  apply wpAny_Call_Name_kw (ld_glob I hg M.gm ?_ hdb)
  apply PySem.W.callWith_K (h₀ := X.base) I.ok.mod.kin M.oex.kC ?_ he hpl
  apply thn (ha.run pos pins s σ H _ I h)
  rintro us ⟨hp, g, dr, tk, os⟩ ⟨vs, H1, I1, r1, hz, q1⟩
  refine ⟨I1.kIn, ?_⟩
  change wpAny _ _ (call (Value.ref C) us) _ _ _
  have n1 : H1 (hp.objs.size + 1) = none := I1.hok.fresh (Nat.le_succ _)
  have want := q1 _ n1
  rw [List.append_nil] at want
  have stay : ∀ b o, hp.get? b = some o → ((hp.push (PySem.W.kdv_tup us)).push (PySem.HandSPX.excO C hp.objs.size)).get? b = some o := fun b o z => Heap.get?_push_of_some _ (Heap.get?_push_of_some _ z)
  have at1 : ((hp.push (PySem.W.kdv_tup us)).push (PySem.HandSPX.excO C hp.objs.size)).get? (hp.objs.size + 1) = some (PySem.HandSPX.excO C hp.objs.size) := by heap_get
  have I2 : Inv X pins σ (upd H1 (hp.objs.size + 1) (exo (hp.objs.size + 1) C none)) ⟨(hp.push (PySem.W.kdv_tup us)).push (PySem.HandSPX.excO C hp.objs.size), g, dr, tk, os⟩ :=
    I1.laid (t' := tk) (h' := (hp.push (PySem.W.kdv_tup us)).push (PySem.HandSPX.excO C hp.objs.size)) stay (Nat.le_succ _) (exo_ok at1)
  have rr : Vals (V.ref (hp.objs.size + 1) :: vs) (Value.ref (hp.objs.size + 1) :: us) := .cons rfl r1
  have lu : (Value.ref (hp.objs.size + 1) :: us ++ []).length = ps.length := by
    rw [List.append_nil]
    exact rr.length.symm.trans (Fi.many _ _ _ _ want)
  have bb := hB _ (Value.ref (hp.objs.size + 1) :: us) I2.kIn lu
  rw [List.append_nil] at bb
  have small : us.length ≤ sizeLine := by
    rw [← r1.length, sizeLine_eq]
    omega
  refine wpAny_call (PySem.HandSPX.call_own F.excBase_ValueError (fun Y => PySem.HandSPX.refsVE_contains Y bm hbm) (I1.kIn _ _ hC) (PySem.W.looks_findIn I1.kIn iC) (fun self => PySem.W.bind_fn I1.kIn self tI) small ?_)
  refine codeAny_mono (Fi.go _ X.stack _ _ ⟨Value.ref (hp.objs.size + 1) :: us, []⟩ (Value.ref (hp.objs.size + 1) :: us) _ _ (fun _ _ _ => False) ?_ (hr.make C us []) (I2.env0.make C us []) bb rr want) fun r s' hq => ?_
  · exact hG
  rcases r with e' | (_ | _ | _ | u)
  all_goals first | exact (show False from hq).elim | skip
  obtain ⟨v, H2, o2, b2, un2, ok2, rv, ev, d, fs, e1, e2, e3, q2⟩ := hq
  subst ev
  obtain ⟨h2, g2, d2, t2, os'⟩ := s'
  exact ⟨rv, mk_end (raises_own M.oex.exC M.oex.tyC) I1 (Nat.le_succ _) stay un2 ok2 o2 b2 e1 e2 e3 q2⟩
/-- raise x(..) -/
def tRaiseE (W : WX) (C : Addr) (sp : Sp) (ta : TA) : TS := fun _ σ H => tMkO C sp [] ta σ H fun cls d H' => W cls d σ H'
theorem ps_raiseE {X : Cx} {W : WX} {x : Str} {C : Addr} {k : Nat} {sp : Sp} {e : Expr} {es : List Expr} {ta : TA} {p pos pos2 : Pos} (hc : X.calm = true) (tk : Takes X W) (M : MkE X.prog X.w X.K X.mg X.base x C k sp) (hG : X.A.guards = some []) (hr : Room (k + 1) X.A) (hg : Gl X x) (ha : PA X (e :: es) ta)
    (hdb : (x == ("__debug__" : Str)) = false := by decide) (he : starEach (e :: es) X.env = (false, eval e X.env) :: starEach es X.env := by rfl) (hpl : (backTo pos (starEach es X.env)).any (·.1) = false := by rfl) :
    PS X (.Raise (some (.Call (.Name x p) (e :: es) [] pos)) none pos2) (tRaiseE W C sp ta) := ps_raise hc tk (pmk_e M hG hr hg ha hdb he hpl)
/-! ### errors that keep texts: fl, the names of their fields -/
def spInit (C : Addr) (fl : List Str) : Sp := fun vs H Q _ => ∃ (a : Addr) (zs : List Str), vs = .ref a :: zs.map V.str ∧ zs.length = fl.length ∧ (∀ z ∈ zs, z.length ≤ 100) ∧ H a = some (exo a C none) ∧
  ∀ d, H d = none → d ≠ a → Q .non (upd (upd H d (exd d (fl.zip (zs.map V.str)).reverse)) a (exo a C (some d)))
theorem k_raiseE {W : WX} {C : Addr} {fl : List Str} {ta : TA} {D : Ends} {σ : L2.St} {H : Hp}
    (h : ta σ H fun vs H1 => ∃ zs : List Str, vs = zs.map V.str ∧ zs.length = fl.length ∧ fl.length ≤ 10 ∧ (∀ z ∈ zs, z.length ≤ 100) ∧ ∀ d, H1 d = none → W (.ref C) (some d) σ (upd H1 d (.xd (fl.zip (zs.map V.str)).reverse)))
    (mono : ∀ {Q Q' : List V → Hp → Prop}, (∀ vs H', Q vs H' → Q' vs H') → ta σ H Q → ta σ H Q') : tRaiseE W C (spInit C fl) ta D σ H := by
  refine mono (fun vs H1 ⟨zs, e, hl, h10, hz, q⟩ => ?_) h
  subst e
  refine ⟨by rw [List.length_map]; omega, fun a na => ⟨a, zs, by rw [List.append_nil], hl, hz, upd_same, fun d hd ne => ?_⟩⟩
  rw [upd_ne ne] at hd
  refine ⟨rfl, d, _, upd_same, (upd_ne ne).trans upd_same, hd, ?_⟩
  have eH : upd (del (upd (upd (upd H1 a (exo a C none)) d (exd d (fl.zip (zs.map V.str)).reverse)) a (exo a C (some d))) a) d (.xd (fl.zip (zs.map V.str)).reverse) = upd H1 d (.xd (fl.zip (zs.map V.str)).reverse) := by
    funext b
    by_cases e1 : b = d
    · rw [e1, upd_same, upd_same]
    · rw [upd_ne e1, upd_ne e1]
      by_cases e2 : b = a
      · rw [e2, del_same, na]
      · rw [del_ne e2, upd_ne e2, upd_ne e1, upd_ne e2]
  rw [eH]
  exact q d hd
/-- an error of the class at C is out, which keeps the text z in part -/
def Outs (E : XK) (C : Addr) (z : Str) (H : Hp) : Prop := ∀ H' dd, Same H H' → H dd = none → H' dd = some (.xd [("part", .str z)]) → E (.ref C) (some dd) H'
theorem Outs.same {E : XK} {C : Addr} {z : Str} {H H1 : Hp} (o : Outs E C z H) (s : Same H H1) : Outs E C z H1 := fun H' dd s' n e => o H' dd (s.trans s') (s.free n) e
def spNeedX (C : Addr) : Sp := fun vs H Q E => ∃ (r : Addr) (v : V) (z : Str) (d : PyData) (l m : Option Int), vs = [v, .str z, optV l, optV m] ∧ z.length ≤ 100 ∧ Dr r H v d ∧
  (withinD d l m = true → ∀ H', Same H H' → Q .non H') ∧ (withinD d l m = false → Outs E C z H)
/-- the j-th statement of a class's text -/
def mem (st : Stmt) (j : Nat) : Stmt := match st with
  | .ClassDef (body := b) .. => b.getD j (.Pass ⟨0, 0, 0, 0⟩)
  | _ => st
/-- what a def makes of a lambda that raises such an error: the text that it keeps -/
def TTpart (C : Addr) (z : Str) : (XK → Hp → VK → Prop) → Hp → VK → Prop := fun tl H Q =>
  ∀ E : XK, (∀ d H', H' d = some (.xd [("part", .str z)]) → (∀ H2, Same H' H2 → Q (.str z) H2) → E (.ref C) (some d) H') → tl E H (fun _ _ => False)
/-- a def that is given a lambda, for its callers -/
structure Tells (P : Program) (w : World) (K : PySem.W.Frag) (mg : Str → Option Value) (base : Heap) (x : Str) (k : Nat) (TT : Str → (XK → Hp → VK → Prop) → Hp → VK → Prop) : Prop where
  ex : ∃ (g : Addr) (a : Str) (pg : Arguments) (bg : List Stmt) (sg : Scope) (dV kV doc pm cdv ct oc : Value) (an od : Option Addr) (osl : Array (Option Value)) (Ng : List Str), mg x = some (.ref g) ∧ PySem.W.keepIn K (.ref g) = true ∧
    K.lookup g = some ⟨oc, od, .func (PySem.W.fnOf x x pg bg sg dV kV doc pm an cdv ct), osl⟩ ∧ PySem.W.codeIn K cdv x = true ∧ Binds K (PySem.W.fnOf x x pg bg sg dV kV doc pm an cdv ct) [a] [] ∧ FnScope Ng [a] sg ∧ Ng[0]? = some a ∧ Vis sg a ∧
    (a == ("__debug__" : Str)) = false ∧ (a == ("__classdict__" : Str)) = false ∧
    ∀ (X : Cx) (q z : Str), X.prog = P → X.w = w → X.K = K → X.mg = mg → X.base = base → X.A.guards = some [] → GivesG X Ng x sg g cdv bg a q k (TT z)
theorem pe_tells {X : Cx} {T : List (Addr × Str)} {TT : Str → (XK → Hp → VK → Prop) → Hp → VK → Prop} {x z : Str} {c P : Addr} {k : Nat} {ps : Arguments} {bo : Expr} {sc : Scope} {t : XK → TE} {p lpos pos : Pos}
    (L0 : Tells X.prog X.w X.K X.mg X.base x (k + 1) TT) (hg : Gl X x) (hG : X.A.guards = some []) (TB : TabB X.base X.mg c P) (hcode : X.env.code = .ref c) (hmT : (P, X.env.qual ++ "<lambda>") ∈ T) (hu : ∀ p ∈ T, p.1 = P → p.2 = X.env.qual ++ "<lambda>") (hr : Room (k + 2) X.A) (L : LamD X.N X.env.scope sc)
    (hdef : (defaultsOf ps X.env = ([], []) ∧ ∀ (q : Str) (cl : List (Str × Addr)) (pm cv ct : Value), bindArgs (fnL q ps bo sc cl pm cv ct .none) ⟨[], []⟩ = pure []) ∨
      ∃ (e : Expr) (x0 : V) (y : Str), defaultsOf ps X.env = ([eval e X.env], []) ∧ PE X e (tC x0) ∧ sc.names.lookup y = some .local ∧
        ∀ (q : Str) (cl : List (Str × Addr)) (pm cv ct u : Value) (D : Addr), ∃ kk, bindArgs (fnL q ps bo sc cl pm cv ct (.ref D)) ⟨[], []⟩ = seqItems? (.ref D) >>= kk ∧ kk (some #[u]) = pure [(y, u)])
    (hbody : ∀ (A : Around) (outer : List Env) (s : Shared) (H : Hp) (E : XK) (f c' : Addr), A.guards = some [] → Room k (A.deeper (lamEnv X sc s.heap.objs.size f c')) → PE (lamCx X A outer s H E sc f c') bo (t E))
    (hdb : (x == ("__debug__" : Str)) = false := by decide) :
    PE X (.Call (.Name x p) [.Lambda ps bo sc lpos] [] pos) (tLam T (TT z) t) := by
  obtain ⟨g, a, pg, bg, sg, dV, kV, doc, pm, cdv, ct, oc, an, od, osl, Ng, hm, hk, lk, hcd, hB, S, h0, hv, d1, d2, gv⟩ := L0.ex
  exact pe_lamL hg hm hk lk hcd hB S h0 hv (gv X _ z rfl rfl rfl rfl rfl hG) hG TB hcode hmT hu hr L hdef hbody hdb d1 d2
theorem k_lamP {T : List (Addr × Str)} {C : Addr} {z : Str} {t : XK → TE} {σ : L2.St} {H : Hp} {Q : VK} (hT : Tabs T H) (h : ∀ (H1 : Hp) (E : XK), ExtN H H1 → Tabs T H1 → Outs E C z H1 → t E σ H1 (fun _ _ => False))
    (k : ∀ H2, ExtN H H2 → Tabs T H2 → Q (.str z) H2) : tLam T (TTpart C z) t σ H Q :=
  ⟨hT, fun H1 x1 T1 E hE => h H1 E x1 T1 fun H' dd s _ e => hE dd H' e fun H2 s2 => k H2 (x1.trans (ExtN.of (s.trans s2))) (T1.ext (s.trans s2))⟩
/-! ### what stays where all but the tables stays -/
theorem Rid.ext {r : Addr} {n : Nat} {H H' : Hp} (h : Rid r n H) (s : ExtN H H') : Rid r n H' := by
  obtain ⟨c, ns, a, z, h1, h2, h3, h4⟩ := h.ex
  exact ⟨c, ns, a, z, h1, s _ _ h2 (fun _ e => nomatch e), s _ _ h3 (fun _ e => nomatch e), h4⟩
mutual
theorem Dr.ext {r : Addr} {H H' : Hp} (g : ExtN H H') : ∀ {v : V} {d : PyData}, Dr r H v d → Dr r H' v d
  | _, _, .non => .non
  | _, _, .bl b => .bl b
  | _, _, .int i => .int i
  | _, _, .str x => .str x
  | _, _, .lst n e h => .lst n (g _ _ e fun _ z => nomatch z) (DrAll.ext g h)
  | _, _, .tup n e h => .tup n (g _ _ e fun _ z => nomatch z) (DrAll.ext g h)
  | _, _, .dct n e h => .dct n (g _ _ e fun _ z => nomatch z) (DrAll.ext g h)
theorem DrAll.ext {r : Addr} {H H' : Hp} (g : ExtN H H') : ∀ {vs : List V} {ds : List PyData}, DrAll r H vs ds → DrAll r H' vs ds
  | _, _, .nil => .nil
  | _, _, .cons h t => .cons (Dr.ext g h) (DrAll.ext g t)
end
theorem _root_.LamX.Tabs.gr {T : List (Addr × Str)} {r : Addr} {n : Nat} {H H' : Hp} (t : Tabs T H) (R : Rid r n H) (g : Gr r H H') : Tabs T H' := by
  obtain ⟨c, ns, a, z, h1, h2, h3, h4⟩ := R.ex
  intro p hp
  obtain ⟨ps, e1, e2, e3⟩ := t p hp
  refine ⟨ps, g.all _ _ (fun q => ?_) e1, e2, fun pos cv hc => ?_⟩
  · rw [q, h2] at e1
    cases e1
  · obtain ⟨c', q1, q2⟩ := e3 pos cv hc
    refine ⟨c', q1, g.all _ _ (fun q => ?_) q2⟩
    rw [q, h2] at q2
    have := Option.some.inj q2
    unfold CodeO at this
    cases this
theorem _root_.LamX.Tabs.one {P : Addr} {q : Str} {H : Hp} (e : H P = some (.tbl #[])) : Tabs [(P, q)] H := by
  intro p hp
  rw [List.mem_singleton.mp hp]
  exact ⟨#[], e, trivial, fun pos cv hc => nomatch hc⟩
/-! ### a def whose code object is told -/
theorem okGd {P : Program} {w : World} {K : PySem.W.Frag} {mg : Str → Option Value} {base : Heap} {x qual : Str} {st : Stmt} {f c : Addr} {fd : FuncData} {N ps : List Str}
    {k : Nat} {sp : Sp} (F : Fun K x qual st f fd) (hc : fd.code = .ref c) (S : FnScope N ps (defScope st)) (many : ∀ vs H Q E, sp vs H Q E → vs.length = ps.length)
    (body : ∀ (A : Around) (fr : List Env) (s : Shared) (H : Hp) (vs : List V) (Q : VK) (E : XK),
      (cxOf CX0 P w K mg base N qual (defScope st) f (.ref c) A fr s H E).nox.A.guards = some [] → Room k (cxOf CX0 P w K mg base N qual (defScope st) f (.ref c) A fr s H E).nox.A → sp vs H Q E →
      ∃ t, PSs (cxOf CX0 P w K mg base N qual (defScope st) f (.ref c) A fr s H E).nox (defBody st) t ∧ t { nx := fun _ H' => Q .non H', rt := Q } (start N vs) H) :
    FnG P w K mg base CX0 (k + 1) f fd ps sp := by
  obtain ⟨oc, od, kV, doc, pm, an, cdv, ct, osl, rfl, lk, hcd⟩ := F.ex
  obtain rfl : cdv = .ref c := hc
  refine ⟨many, ?_⟩
  intro A fr s H args us vs Q E hG room env bind rel want
  have inK := env.mod.kin.keeps fun b o e => (env.bs b o e).1
  have noL := env.mod.nolimit.keeps fun b o e => (env.bs b o e).1
  have kinds : ∀ y ∈ ps.zip us, (defScope st).names.lookup y.1 = some .local ∨ ((defScope st).names.lookup y.1 = some .cell ∧ ((cellsFrom (s.heap.objs.size + 1) (defScope st).names []).lookup y.1).isSome = true) := by
    rintro ⟨n, v⟩ hy
    cases S.par n (List.of_mem_zip hy).1 with
    | inl q => exact .inl q
    | inr q => exact .inr ⟨q, PySem.W.cellsFrom_some _ _ _ (.inl q)⟩
  apply codeAny_call_function room.depth (inK _ _ lk) rfl S.co S.gen rfl (PySem.W.codeRec_of inK hcd) (bind _ _ _ _ ?_)
  apply wpAny_newFunctionEnv_cells S.kind kinds
  rintro env' rfl s1 x
  refine ⟨noL.keeps x.toInCall.keep, codeAny_func ?_⟩
  obtain ⟨t, ht, hq⟩ := body A fr s H vs Q E hG (room.deeper _) want
  have I := inv_start (CX := CX0) (E := E) S room.hd env (many _ _ _ _ want) rel x
  refine wpAny_mono (ht.nox.run [] s1 (start N vs) H _ I hq) ?_ fun e s' hs => hs
  intro fl s' hs
  cases fl with
  | brk => exact False.elim hs.choose_spec.choose_spec.2
  | cont => exact False.elim hs.choose_spec.choose_spec.2
  | next =>
    obtain ⟨σ', H', J, q⟩ := hs
    exact ⟨V.non, H', J.os, J.bare, J.base, J.hok, rfl, q⟩
  | ret u =>
    obtain ⟨v, σ', H', J, rv, q⟩ := hs
    exact ⟨v, H', J.os, J.bare, J.base, J.hok, rv, q⟩
/-- what is told of an own error's class at C, and of its base's, at B -/
structure ErrT (K : PySem.W.Frag) (mg : Str → Option Value) (x bx : Str) (C B : Addr) : Prop where
  gC : mg x = some (.ref C)
  gB : mg bx = some (.ref B)
  exm : PySem.W.exmOne K (.ref C) (.ref B) = some true
  oex : OexC K C
  exc : ExcC K C
  cls : (PySem.W.clsIn K C).isSome = true
  xf : XfC K C
  he : HeC K B
  noP : PySem.W.findIn K (.ref C) "part" = some none
theorem k_vei {K : PySem.W.Frag} {ta : TA} {σ : L2.St} {H : Hp} {Q : VK} (h : ta σ H fun vs H1 => ∃ (a C : Addr) (ws : List V), vs = .ref a :: ws ∧ ws.length ≤ 1000 ∧ OexC K C ∧ H1 a = some (exo a C none) ∧ Q .non H1) : tVeI K ta σ H Q := h
theorem k_fmtS {te : TE} {σ : L2.St} {H : Hp} {Q : VK} (h : te σ H fun x H1 => ∃ y : Str, x = .str y ∧ y.length ≤ sizeLine ∧ Q (.str y) H1) (mono : ∀ {Q Q' : VK}, (∀ v H', Q v H' → Q' v H') → te σ H Q → te σ H Q') : tFmt te σ H Q := mono (fun _ _ z => .inl z) h
theorem k_xg {K : PySem.W.Frag} {f : Str} {te : TE} {σ : L2.St} {H : Hp} {Q : VK} (h : te σ H fun x H1 => ∃ (a C d : Addr) (fs : List (Str × V)) (v : V), x = .ref a ∧ H1 a = some (ExV (.ref C) (some d) a) ∧ H1 d = some (.xd fs) ∧ XfC K C ∧ PySem.W.findIn K (.ref C) f = some none ∧ fs.lookup f = some v ∧ Q v H1) : tXg K f te σ H Q := h
theorem k_ost1 {K : PySem.W.Frag} {f : Str} {i j : Nat} {a C : Addr} {y : V} {D : Ends} {σ : L2.St} {H : Hp} (hi : σ[i]? = some (some (.ref a))) (hj : σ[j]? = some (some y)) (T : OexC K C) (n : PySem.W.findIn K (.ref C) f = some none) (e : H a = some (exo a C none))
    (q : ∀ d, H d = none → d ≠ a → D.nx σ (upd (upd H d (exd d [(f, y)])) a (exo a C (some d)))) : tOst K f (tVar i) (tVar j) D σ H := ⟨y, hj, .ref a, hi, a, C, rfl, T, n, .inl ⟨e, q⟩⟩
theorem k_raise1 {W : WX} {C : Addr} {i : Nat} {z : Str} {D : Ends} {σ : L2.St} {H : Hp} (hv : σ[i]? = some (some (.str z))) (hz : z.length ≤ 100) (q : ∀ d, H d = none → W (.ref C) (some d) σ (upd H d (.xd [("part", .str z)]))) :
    tRaiseE W C (spInit C ["part"]) (tCons (tVar i) tNil) D σ H :=
  k_raiseE ⟨.str z, hv, [z], rfl, rfl, by decide, fun y hy => by rw [List.mem_singleton.mp hy]; exact hz, q⟩ fun imp ⟨v, h1, h2⟩ => ⟨v, h1, imp _ _ h2⟩
theorem Outs.new {E : XK} {C : Addr} {z : Str} {H H1 : Hp} (o : Outs E C z H) (s : Same H H1) : ∀ d, H1 d = none → E (.ref C) (some d) (upd H1 d (.xd [("part", .str z)])) := fun d hd => o _ d (s.trans (Same.new hd)) (s.free hd) upd_same
end Nd

namespace Nd
open PySem PySem.Spec PyProof.Rows L2
/-! ### lists of fractions, sums of ways -/
theorem rep3 {q : Rat} (h1 : q.num.natAbs ≤ 999999999998) (h2 : q.den ≤ 999999999998) : PyData.showable (.list [fq q, fq q, fq q]) = true ∧ PyData.depth (.list [fq q, fq q, fq q]) ≤ 60 ∧ (PyData.shown (.list [fq q, fq q, fq q])).length ≤ sizeLine := by
  have l1 : q.num.natAbs.log2 < 1920 := Nat.lt_of_lt_of_le (PySem.Flt.log2_lt_of (k := 40) (by decide) (by omega)) (by decide)
  have l2 : q.den.log2 < 1920 := Nat.lt_of_lt_of_le (PySem.Flt.log2_lt_of (k := 40) (by decide) (by omega)) (by decide)
  have i1 : PyData.intsShort 13 (.int q.num) = true := intsShort_of_noneOrIn (lo := -999999999999) (hi := 999999999999) (by decide) (by decide) _ (by simp [noneOrIn]; omega)
  have i2 : PyData.intsShort 13 (.int (q.den : Int)) = true := intsShort_of_noneOrIn (lo := -999999999999) (hi := 999999999999) (by decide) (by decide) _ (by simp [noneOrIn]; omega)
  refine ⟨by simp [PyData.showable, PyData.showableAll, fq, l1, l2], by simp [PyData.depth, PyData.depthAll, fq], ?_⟩
  refine Nat.le_trans (shown_le13 ?_ ?_) (by decide)
  · simp [PyData.layable0, PyData.canLay0, PyData.canLayAll0, PyData.depth, PyData.depthAll, PyData.weight, PyData.weightAll, fq]
    split <;> split <;> omega
  · simp [PyData.intsShort, PyData.intsShortAll, fq] at i1 i2 ⊢
    exact ⟨i1, i2⟩
theorem k_rep {l : Addr} {n : Nat} {xs : List V} {H : Hp} {Q : VK} (h : H l = some (.lst xs)) (hn : n ≤ 1000) (hx : xs.length ≤ 1000) (q : ∀ p, H p = none → Q (.ref p) (upd H p (.lst (List.replicate n xs).flatten))) : rRep (.ref l) (.int (n : Int)) H Q :=
  ⟨l, _, xs, rfl, rfl, h, by omega, by omega, by
    rw [Int.toNat_natCast]
    exact Nat.le_trans (Nat.mul_le_mul hx hn) (by decide), by simpa using q⟩
theorem paired_get {α β : Type} {F : α → β → Prop} : ∀ {l : List α} {m : List β} {i : Nat} {y : α}, Paired F l m → l[i]? = some y → ∃ z, m[i]? = some z ∧ F y z
  | _, _, 0, _, .cons h _, e => by cases e; exact ⟨_, rfl, h⟩
  | _, _, i + 1, _, .cons _ t, e => paired_get (i := i) t e
  | _, _, 0, _, .nil, e => nomatch e
  | _, _, _ + 1, _, .nil, e => nomatch e
theorem lcIn_frp {K : PySem.W.Frag} {a r : Addr} {ys : List V} {n i j : Nat} {te : TE} {vs : List Nat} {σ : L2.St} {H1 : Hp} {Q : VK} (q : Nat → Rat) (v : Nat → Int) (hx : SqL K H1 a ys) (hf : Paired (Fr r H1) ys ((List.range n).map q)) (hz : n ≤ 50000)
    (hw : ∀ x y, wipe (((wipe σ vs).set i (some x)).set j (some y)) vs = wipe σ vs)
    (step : ∀ m H2, m < n → Same H1 H2 → ∀ QE : VK, (∀ H4, Same H2 H4 → QE (.int (v m)) H4) → te (((wipe σ vs).set i (some (.int (q m).num))).set j (some (.int ((q m).den : Int)))) H2 QE)
    (fin : ∀ p H', H1 p = none → Same H1 H' → H' p = some (.lst (((List.range n).map v).map V.int)) → Q (.ref p) H') :
    LcIn (Itl K a) (gTup K 2 (gCons (gName i) (gCons (gName j) gNil))) tYes te vs σ H1 Q := fun D hD =>
  lc_list (xs := ys) (fun m H => Same H1 H ∧ H D = some (.lst (((List.range m).map v).map V.int))) ⟨Same.new hD, upd_same⟩ (fun m H _ p => p.1.seq hx)
    (fun m y H hm p => by
      obtain ⟨s1, eD⟩ := p
      obtain ⟨z, hz1, f⟩ := paired_get hf hm
      have hlt : m < n := by
        have := (List.getElem?_eq_some_iff.mp hz1).1
        rwa [List.length_map, List.length_range] at this
      rw [List.getElem?_map, List.getElem?_range hlt] at hz1
      obtain rfl : q m = z := Option.some.inj hz1
      obtain ⟨pa, rfl, _, e⟩ := f
      refine k_gtup (.inl (.inl (s1 _ _ e))) rfl ?_
      refine k_gcons ?_
      refine k_gname ?_
      refine k_gcons ?_
      refine k_gname ?_
      refine k_gnil ?_
      refine ⟨hw _ _, ?_⟩
      refine k_tYes ?_
      rw [if_pos rfl]
      refine step m H hlt s1 _ fun H4 s4 => ?_
      refine ⟨_, s4 _ _ eD, ?_, fun b o e => ?_, ?_⟩
      · rw [List.length_map, List.length_map, List.length_range]
        exact Nat.lt_of_lt_of_le hlt (Nat.le_trans hz (by decide))
      · rw [upd_ne (ne_of_none e hD)]
        exact s4 _ _ (s1 _ _ e)
      · rw [upd_same, List.range_succ, List.map_append, List.map_append]
        rfl)
    (fun H' p => by
      have hl := pairs_len hf
      rw [List.length_map, List.length_range] at hl
      exact fin D H' hD p.1 (hl ▸ p.2))
theorem canStrs : ∀ zs : List Str, zs.all PyData.strOk = true → PyData.canLayAll0 (zs.map PyData.str) = true
  | [], _ => by simp only [List.map_nil, PyData.canLayAll0]
  | z :: zs, h => by
    rw [List.all_cons, Bool.and_eq_true] at h
    simp only [List.map_cons, PyData.canLayAll0, PyData.canLay0, canStrs zs h.2, h.1, Bool.and_self]
theorem depStrs : ∀ zs : List Str, PyData.depthAll (zs.map PyData.str) = 0
  | [] => by simp only [List.map_nil, PyData.depthAll]
  | z :: zs => by simp only [List.map_cons, PyData.depthAll, PyData.depth, depStrs zs, Nat.max_self]
theorem sh_strs (zs : List Str) (h : zs.all PyData.strOk = true) : SeqAt.shaped (.list (zs.map PyData.str)) = true := by
  simp [SeqAt.shaped, PyData.canLay0, PyData.depth, canStrs zs h, depStrs zs]
theorem eqvs_strs : ∀ zs : List Str, PyData.eqvAll (zs.map PyData.str) (zs.map PyData.str) = true
  | [] => by simp only [List.map_nil, PyData.eqvAll]
  | z :: zs => by simp [PyData.eqvAll, PyData.eqv, eqvs_strs zs]
theorem ne_strs (zs : List Str) : (!PyData.eqv (.list (zs.map PyData.str)) (.list (zs.map PyData.str))) = false := by
  simp only [PyData.eqv, eqvs_strs, Bool.not_true]
theorem num_part {u w : Int} (w0 : 0 < w) : (Rat.divInt u w).num * (w / ((Rat.divInt u w).den : Int)) = u := by
  have d0 : ((Rat.divInt u w).den : Int) ≠ 0 := Int.ne_of_gt (by have := (Rat.divInt u w).den_pos; omega)
  have e : Rat.divInt (Rat.divInt u w).num ((Rat.divInt u w).den : Int) = Rat.divInt u w := Rat.num_divInt_den _
  have e2 := (Rat.divInt_eq_divInt_iff d0 (Int.ne_of_gt w0)).mp e
  have e4 := Int.ediv_mul_cancel (den_dvd (u := u) (Int.ne_of_gt w0))
  generalize (Rat.divInt u w).num = x at e2 ⊢
  generalize ((Rat.divInt u w).den : Int) = y at d0 e2 e4 ⊢
  refine Int.eq_of_mul_eq_mul_right d0 ?_
  rw [Int.mul_assoc, e4]
  exact e2
theorem sum_add2 (f g : Nat → Int) : ∀ l : List Nat, (l.map fun i => f i + g i).sum = (l.map f).sum + (l.map g).sum
  | [] => rfl
  | a :: l => by
    rw [List.map_cons, List.map_cons, List.map_cons, List.sum_cons, List.sum_cons, List.sum_cons, sum_add2 f g l]
    omega
theorem sum_one (lo : Int) : ∀ n : Nat, ((List.range n).map fun i : Nat => (if lo + (i : Int) = 0 then (1 : Int) else 0)).sum = if lo ≤ 0 ∧ 0 < lo + n then 1 else 0
  | 0 => by
    rw [if_neg (by omega)]
    rfl
  | n + 1 => by
    rw [List.range_succ, List.map_append, List.sum_append, sum_one lo n]
    simp only [List.map_cons, List.map_nil, List.sum_cons, List.sum_nil, Int.add_zero]
    split <;> split <;> split <;> omega
theorem sumW : ∀ (t n : Nat) (lo : Int), lo ≤ -(t : Int) → (t : Int) < lo + n → ((List.range n).map fun i : Nat => (W t (lo + (i : Int)) : Int)).sum = 2 ^ t
  | 0, n, lo, h1, h2 => by
    have e : (fun i : Nat => (W 0 (lo + (i : Int)) : Int)) = fun i : Nat => if lo + (i : Int) = 0 then (1 : Int) else 0 := funext fun i => by
      rw [W]
      split <;> rfl
    rw [e, sum_one, if_pos ⟨by omega, by omega⟩]
    rfl
  | t + 1, n, lo, h1, h2 => by
    have e : (fun i : Nat => (W (t + 1) (lo + (i : Int)) : Int)) = fun i : Nat => (W t ((lo - 1) + (i : Int)) : Int) + (W t ((lo + 1) + (i : Int)) : Int) := funext fun i => by
      rw [W_succ, show lo + (i : Int) - 1 = (lo - 1) + (i : Int) by omega, show lo + (i : Int) + 1 = (lo + 1) + (i : Int) by omega, Int.natCast_add]
    rw [e, sum_add2, sumW t n (lo - 1) (by omega) (by omega), sumW t n (lo + 1) (by omega) (by omega), Int.pow_succ]
    omega
end Nd

local macro_rules | `(tactic| walk_at "nd") => `(tactic| (first
  | with_reducible refine Nd.k_cons ?_
  | with_reducible refine Nd.k_nil ?_
  | with_reducible refine Nd.k_op ?_
  | with_reducible refine Nd.k_c ?_
  | with_reducible refine Nd.k_call ?_
  | with_reducible refine Nd.k_cb ?_
  | with_reducible refine Nd.k_seq ?_
  | with_reducible refine Nd.k_next ?_
  | with_reducible refine Nd.k_ret ?_
  | with_reducible refine Nd.k_if ?_
  | with_reducible refine Nd.k_asg ?_
  | with_reducible refine Nd.k_I0 ?_
  | with_reducible refine Nd.k_U ?_
  | with_reducible refine Nd.k_un ?_
  | with_reducible refine Nd.k_drop ?_
  | with_reducible refine Nd.k_retN ?_
  | with_reducible refine Nd.k_brk ?_
  | with_reducible refine Nd.k_cont ?_
  | with_reducible refine Nd.k_gname ?_
  | with_reducible refine Nd.k_gsub ?_
  | with_reducible refine Nd.k_gcons ?_
  | with_reducible refine Nd.k_gnil ?_
  | with_reducible refine Nd.k_par ?_
  | with_reducible refine Nd.k_par3 ?_
  | with_reducible refine Nd.k_tup ?_
  | with_reducible refine Nd.k_lst ?_
  | with_reducible refine Nd.k_ife ?_
  | with_reducible refine Nd.k_andV ?_
  | with_reducible refine Nd.k_orV ?_
  | with_reducible refine Nd.k_notV ?_
  | with_reducible refine Nd.k_tB ?_
  | with_reducible refine Nd.k_test ?_
  | with_reducible refine Nd.k_tAnd ?_
  | with_reducible refine Nd.k_tOr ?_
  | with_reducible refine Nd.k_tNot ?_
  | with_reducible refine Nd.k_tYes ?_
  | with_reducible refine Nd.k_kw ?_
  | with_reducible refine Nd.k_for ?_
  | with_reducible refine Nd.k_lc ?_
  | with_reducible refine Nd.k_iList ?_
  | with_reducible refine Nd.k_iTup ?_
  | with_reducible refine Nd.k_iR1 ?_
  | with_reducible refine Nd.k_iR2 ?_
  | with_reducible refine Nd.k_sl ?_
  | with_reducible refine Nd.k_noPart ?_
  | with_reducible refine Nd.k_part ?_
  | with_reducible refine Nd.k_bm ?_
  | with_reducible refine Nd.k_gcd ?_
  | with_reducible refine Nd.k_tru ?_
  | with_reducible refine Nd.k_bits ?_
  | with_reducible refine Nd.k_dnewK ?_
  | with_reducible refine Nd.k_dget2 ?_
  | with_reducible refine Nd.k_dput ?_
  | with_reducible refine Nd.k_items ?_
  | with_reducible refine Nd.k_iEnum ?_
  | with_reducible refine Nd.k_iEnumT ?_
  | with_reducible refine Nd.k_iZipA ?_
  | focus ((with_reducible refine Nd.k_var (v := ?vv) ?hv ?hq); (case hv => exact rfl))
  | focus ((with_reducible refine Nd.k_aug (x := ?vv) ?hv ?hq); (case hv => exact rfl))
  | focus ((with_reducible refine Nd.k_eq ?hv ?hq); (case hv => exact rfl))
  | focus ((with_reducible refine Nd.k_ne ?hv ?hq); (case hv => exact rfl))
  | with_reducible refine ⟨rfl, ?_⟩
  | with_reducible refine ⟨_, rfl, ?_⟩
  | with_reducible refine ⟨_, _, rfl, ?_⟩
  | with_reducible refine ⟨_, _, _, rfl, ?_⟩
  | with_reducible refine Or.inl ⟨_, rfl, ?_⟩
  | with_reducible refine Or.inr ⟨_, rfl, ?_⟩
  | with_reducible refine Nd.k_nx ?_
  | with_reducible refine Nd.k_rt ?_
  | with_reducible refine Nd.k_bk ?_
  | with_reducible refine Nd.k_ct ?_))
local macro_rules | `(tactic| walk_at "go") => `(tactic| repeat (walk_at "nd"))
local macro_rules | `(tactic| walk_at "nd2") => `(tactic| (first
  | with_reducible refine Nd.k_cons ?_
  | with_reducible refine Nd.k_nil ?_
  | with_reducible refine Nd.k_op ?_
  | with_reducible refine Nd.k_c ?_
  | with_reducible refine Nd.k_call ?_
  | with_reducible refine Nd.k_cb ?_
  | with_reducible refine Nd.k_seq ?_
  | with_reducible refine Nd.k_next ?_
  | with_reducible refine Nd.k_ret ?_
  | with_reducible refine Nd.k_if ?_
  | with_reducible refine Nd.k_asg ?_
  | with_reducible refine Nd.k_I0 ?_
  | with_reducible refine Nd.k_U ?_
  | with_reducible refine Nd.k_un ?_
  | with_reducible refine Nd.k_drop ?_
  | with_reducible refine Nd.k_retN ?_
  | with_reducible refine Nd.k_brk ?_
  | with_reducible refine Nd.k_cont ?_
  | with_reducible refine Nd.k_gname ?_
  | with_reducible refine Nd.k_gsub ?_
  | with_reducible refine Nd.k_gcons ?_
  | with_reducible refine Nd.k_gnil ?_
  | with_reducible refine Nd.k_par ?_
  | with_reducible refine Nd.k_par3 ?_
  | with_reducible refine Nd.k_tup ?_
  | with_reducible refine Nd.k_lst ?_
  | with_reducible refine Nd.k_notV ?_
  | with_reducible refine Nd.k_tB ?_
  | with_reducible refine Nd.k_test ?_
  | with_reducible refine Nd.k_tNot ?_
  | with_reducible refine Nd.k_tYes ?_
  | with_reducible refine Nd.k_kw ?_
  | with_reducible refine Nd.k_for ?_
  | with_reducible refine Nd.k_lc ?_
  | with_reducible refine Nd.k_iList ?_
  | with_reducible refine Nd.k_iTup ?_
  | with_reducible refine Nd.k_iR1 ?_
  | with_reducible refine Nd.k_iR2 ?_
  | with_reducible refine Nd.k_sl ?_
  | with_reducible refine Nd.k_noPart ?_
  | with_reducible refine Nd.k_part ?_
  | with_reducible refine Nd.k_bm ?_
  | with_reducible refine Nd.k_gcd ?_
  | with_reducible refine Nd.k_tru ?_
  | with_reducible refine Nd.k_bits ?_
  | with_reducible refine Nd.k_dnewK ?_
  | with_reducible refine Nd.k_dget2 ?_
  | with_reducible refine Nd.k_dput ?_
  | with_reducible refine Nd.k_items ?_
  | with_reducible refine Nd.k_iEnum ?_
  | with_reducible refine Nd.k_iEnumT ?_
  | with_reducible refine Nd.k_iZipA ?_
  | focus ((with_reducible refine Nd.k_var (v := ?vv) ?hv ?hq); (case hv => exact rfl))
  | focus ((with_reducible refine Nd.k_aug (x := ?vv) ?hv ?hq); (case hv => exact rfl))
  | focus ((with_reducible refine Nd.k_eq ?hv ?hq); (case hv => exact rfl))
  | focus ((with_reducible refine Nd.k_ne ?hv ?hq); (case hv => exact rfl))
  | with_reducible refine ⟨rfl, ?_⟩
  | with_reducible refine ⟨_, rfl, ?_⟩
  | with_reducible refine ⟨_, _, rfl, ?_⟩
  | with_reducible refine ⟨_, _, _, rfl, ?_⟩
  | with_reducible refine Or.inl ⟨_, rfl, ?_⟩
  | with_reducible refine Or.inr ⟨_, rfl, ?_⟩
  | with_reducible refine Nd.k_nx ?_
  | with_reducible refine Nd.k_rt ?_
  | with_reducible refine Nd.k_bk ?_
  | with_reducible refine Nd.k_ct ?_))
local macro_rules | `(tactic| walk_at "ga") => `(tactic| repeat (walk_at "nd2"))


namespace K21
open PySem PySem.Spec PyProof.Rows L2 Nd
def top (i : Nat) : Stmt := PySem.Challenge.pw_nodice_k21_reaches_by_own_first_shares.main.body.getD i (.Pass ⟨0, 0, 0, 0⟩)
structure Txt (mg : Str → Option Value) : Prop where
  m_int : mg "int" = none
  m_len : mg "len" = none
  m_abs : mg "abs" = none
abbrev s__law_tug : Stmt := top 28
theorem sc__law_tug : FnScope ["tether", "many", "rest", "at", "cell", "mixed"] ["tether", "many"] (defScope s__law_tug) := ⟨rfl, rfl, rfl, by decide +kernel, rfl, by decide +kernel, by decide +kernel⟩
section
variable {P : Program} {w : World} {K : PySem.W.Frag} {mg : Str → Option Value} {base : Heap}
theorem ok_shake {f : Addr} {fd : FuncData} (F : Fun K "_law_tug" "_law_tug" s__law_tug f fd) (T : Txt mg) : FnG P w K mg base CX0 1 f fd ["tether", "many"] spDraw := by
  refine okG0 F sc__law_tug (fun vs H Q E h => ?_) (fun cdv A outer s H vs Q E hG hr h => ?_)
  · obtain ⟨r, n, m, rfl, _⟩ := h
    rfl
  · obtain ⟨r, n, m, rfl, R, hn, m0, m1, q⟩ := h
    refine ⟨_, (pss_cons (ps_if (pt_cmpR op_gt (pe_ix ix_list (pv 0) pe_int (fun _ _ => rfl)) pe_int (nomark _)) (pss_cons (ps_set (i := 2) sc__law_tug.nd rfl (.inl rfl) (pe_callTy call_int1 (by rfl) T.m_int (by decide +kernel) (pa_cons (pe_ix ix_list (pv 0) pe_int (fun _ _ => rfl)) pa_nil)))
      (pss_cons (ps_asg (pe_op op_fdiv (pv 2) (pv 1)) (pg_sub (pv 0) pe_int set_list))
      (pss_one (ps_ret (pe_op op_mod (pe_callTy call_int1 (by rfl) T.m_int (by decide +kernel) (pa_cons (pv 2) pa_nil)) (pv 1)))))) pss_nil)
      (pss_cons (ps_set (i := 3) sc__law_tug.nd rfl (.inl rfl) (pe_ix ix_list (pv 0) pe_int (fun _ _ => rfl)))
      (pss_cons (ps_asg (pe_op op_add (pv 3) pe_int) (pg_sub (pv 0) pe_int set_list))
      (pss_cons (ps_if (pt_cmpR (op_eqD hr.units) (pe_ix ix_list (pv 0) pe_int (fun _ _ => rfl)) (pe_lst pa_nil) (nomark _)) (pss_one (ps_ret pe_int)) pss_nil)
      (pss_cons (ps_set (i := 4) sc__law_tug.nd rfl (.inl rfl) (pe_ix ix_list (pe_ix ix_list (pv 0) pe_int (fun _ _ => rfl)) (pe_op op_mod (pe_callTy call_int1 (by rfl) T.m_int (by decide +kernel) (pa_cons (pv 3) pa_nil)) (pe_callB (id := "len") call_len_seq (by rfl) T.m_len PySem.boot_len (pa_cons (pe_ix ix_list (pv 0) pe_int (fun _ _ => rfl)) pa_nil))) (fun _ _ => rfl)))
      (pss_cons (ps_if (PW.pt (pw_and (pt_cmpR op_lt (pv 3) (pe_callB (id := "len") call_len_seq (by rfl) T.m_len PySem.boot_len (pa_cons (pe_ix ix_list (pv 0) pe_int (fun _ _ => rfl)) pa_nil)) (nomark _)) (pw_and1 (pt_cmpR op_ge (pe_callB (id := "abs") call_abs (by rfl) T.m_abs (by decide +kernel) (pa_cons (pv 4) pa_nil)) (pe_op op_pow pe_int pe_int) (nomark _))))) (pss_cons (ps_set (i := 2) sc__law_tug.nd rfl (.inl rfl) (pe_op op_add (pe_op op_mul pe_int (pe_op op_sub (pe_callB (id := "abs") call_abs (by rfl) T.m_abs (by decide +kernel) (pa_cons (pv 4) pa_nil)) (pe_op op_pow pe_int pe_int))) (pe_callTy call_int1 (by rfl) T.m_int (by decide +kernel) (pa_cons (pe_cmpR op_lt (pv 4) pe_int (nomark _)) pa_nil))))
      (pss_cons (ps_asg (pe_op op_fdiv (pe_callTy call_int1 (by rfl) T.m_int (by decide +kernel) (pa_cons (pv 2) pa_nil)) (pv 1)) (pg_sub (pv 0) pe_int set_list))
      (pss_one (ps_ret (pe_op op_mod (pe_callTy call_int1 (by rfl) T.m_int (by decide +kernel) (pa_cons (pv 2) pa_nil)) (pv 1)))))) pss_nil)
      (pss_cons (ps_set (i := 5) sc__law_tug.nd rfl (.inl rfl) (pe_op op_mod (pe_callTy call_int1 (by rfl) T.m_int (by decide +kernel) (pa_cons (pe_op op_pow (pe_op op_add (pe_op op_add (pe_op op_mod (pe_callTy call_int1 (by rfl) T.m_int (by decide +kernel) (pa_cons (pv 4) pa_nil)) pe_int) (pe_op op_mul pe_int (pv 3))) pe_int) pe_int) pa_nil)) pe_int))
      (pss_cons (ps_set (i := 5) sc__law_tug.nd rfl (.inl rfl) (pe_op op_mod (pe_callTy call_int1 (by rfl) T.m_int (by decide +kernel) (pa_cons (pe_op op_pow (pe_op op_add (pe_op op_add (pe_op op_mul (pv 5) (pe_op op_add (pe_op op_mul pe_int (pv 3)) pe_int)) (pe_op op_mul (pe_op op_mul pe_int (pv 3)) (pv 3))) pe_int) pe_int) pa_nil)) pe_int))
      (pss_one (ps_ret (pe_op op_mod (pe_callTy call_int1 (by rfl) T.m_int (by decide +kernel) (pa_cons (pe_op op_fdiv (pv 5) pe_int) pa_nil)) (pv 1)))))))))))), ?_⟩
    dsimp only [cxOf, Cx.nox, Cx.wish]
    obtain ⟨c, ns, a, z, rc, hR, hC, hl, a0, a1, z0⟩ := R.ex
    have at2 : atI [V.ref c, V.int a, V.int z] 2 = some (V.int z) := rfl
    have at1 : atI [V.ref c, V.int a, V.int z] 1 = some (V.int a) := rfl
    walk_at "go"
    refine k_ixL (.inl (.inl hR)) at2 ?_
    walk_at "go"
    refine ite2 (fun h => ?_) (fun h => ?_)
    · walk_at "go"
      refine k_ixL (.inl (.inl hR)) at2 ?_
      walk_at "go"
      refine k_I ⟨m0, m1⟩ ?_
      walk_at "go"
      refine k_setL hR rfl ?_
      walk_at "go"
      refine k_I m0 ?_
      walk_at "go"
      refine q _ _ (Gr.put hR) ⟨c, ns, a, z / m, rc, upd_same, (upd_ne rc.symm).trans hC, hl, a0, by omega, Int.ediv_nonneg z0 (by omega)⟩ (Int.emod_nonneg _ (by omega)) (Int.emod_lt_of_pos _ m0)
    · walk_at "go"
      refine k_ixL (.inl (.inl hR)) at1 ?_
      walk_at "go"
      refine k_setL (j := 1) hR rfl ?_
      walk_at "go"
      refine k_ixL (.inl (.inl upd_same)) rfl ?_
      walk_at "go"
      refine ⟨by decide, fun p hp => ?_⟩
      have np : p ≠ r := fun e => by rw [e, upd_same] at hp; cases hp
      have hc' : c ≠ p := fun e => by rw [← e, upd_ne rc.symm, hC] at hp; cases hp
      have e1 : (upd (upd H r (.lst ([V.ref c, V.int a, V.int z].set 1 (V.int (a + 1))))) p (.lst [])) c = some (.lst (ns.map V.int)) := by
        rw [upd_ne hc', upd_ne rc.symm, hC]
      refine k_eqD (Dp.lst (.inl (.inl e1)) (dpInts ns)) (Dp.lst (.inl (.inl upd_same)) .nil) (shInts ns) shNil ?_
      rw [eqvNil]
      walk_at "go"
      refine ite2 (fun he => ?_) (fun he => ?_)
      · walk_at "go"
        refine q _ _ ((Gr.put hR).trans (Gr.new hp)) (Rid.new ⟨c, ns, a + 1, z, rc, upd_same, (upd_ne rc.symm).trans hC, hl, by omega, by omega, z0⟩ hp) (by omega) m0
      · have hne : 0 < ns.length := by
          cases ns with
          | nil => exact absurd rfl he
          | cons _ _ => exact Nat.succ_pos _
        have hR2 : (upd (upd H r (.lst ([V.ref c, V.int a, V.int z].set 1 (V.int (a + 1))))) p (.lst [])) r = some (.lst [V.ref c, V.int (a + 1), V.int z]) := by
          rw [upd_ne np.symm, upd_same]
          rfl
        have g2 : Gr r H (upd (upd H r (.lst ([V.ref c, V.int a, V.int z].set 1 (V.int (a + 1))))) p (.lst [])) := (Gr.put hR).trans (Gr.new hp)
        clear he hp hc' np
        revert hR2 e1 g2
        generalize (upd (upd H r (.lst ([V.ref c, V.int a, V.int z].set 1 (V.int (a + 1))))) p (.lst [])) = H2
        intro e1 hR2 g2
        have L2 : SqL K H2 r [V.ref c, V.int (a + 1), V.int z] := .inl (.inl hR2)
        have LC : SqL K H2 c (ns.map V.int) := .inl (.inl e1)
        have hlen : (0 : Int) < ((ns.map V.int).length : Int) := by
          rw [List.length_map]
          omega
        walk_at "go"
        refine k_ixL L2 rfl ?_
        walk_at "go"
        refine k_ixL L2 rfl ?_
        walk_at "go"
        refine ⟨c, ns.map V.int, rfl, .inl LC, ?_⟩
        refine k_I hlen ?_
        obtain ⟨v, _, hv⟩ := atInts (ns := ns) (i := a % ((ns.map V.int).length : Int)) (Int.emod_nonneg _ (by omega)) (by
          have := Int.emod_lt_of_pos a hlen
          rw [List.length_map] at this ⊢
          exact this)
        refine k_ixL LC hv ?_
        walk_at "go"
        refine k_ixL L2 rfl ?_
        walk_at "go"
        refine ⟨c, ns.map V.int, rfl, .inl LC, ?_⟩
        walk_at "go"
        refine ite2 (fun h2 => ?_) (fun h2 => iteF ?_)
        · walk_at "go"
          refine k_I ⟨by decide, by decide, by decide⟩ ?_
          walk_at "go"
          refine ite2 (fun h3 => ?_) (fun h3 => ?_)
          · have h3' := of_decide_eq_true h3
            clear h3
            walk_at "go"
            refine k_I ⟨by decide, by decide, by decide⟩ ?_
            walk_at "go"
            refine k_I (.inl ⟨by decide, by decide⟩) ?_
            walk_at "go"
            refine k_I ⟨m0, m1⟩ ?_
            walk_at "go"
            refine k_setL (j := 2) hR2 rfl ?_
            walk_at "go"
            refine k_I m0 ?_
            walk_at "go"
            refine q _ _ (g2.trans (Gr.put hR2)) ⟨c, ns, a + 1, _, rc, upd_same, (upd_ne rc.symm).trans e1, hl, by omega, by omega, ?_⟩ (Int.emod_nonneg _ (by omega)) (Int.emod_lt_of_pos _ m0)
            refine Int.ediv_nonneg (Int.add_nonneg (Int.mul_nonneg (by decide) (Int.sub_nonneg_of_le h3')) ?_) (by omega)
            split <;> decide
          · walk_at "go"
            refine k_I (by decide) ?_
            walk_at "go"
            refine k_I (.inl ⟨by decide, by decide⟩) ?_
            walk_at "go"
            refine k_I ⟨by decide, by decide, by omega⟩ ?_
            walk_at "go"
            refine k_I (by decide) ?_
            generalize hu : (_ : Int) % 2147483563 = u
            have u0 : 0 ≤ u := by rw [← hu]; exact Int.emod_nonneg _ (by decide)
            have u1 : u < 2147483563 := by rw [← hu]; exact Int.emod_lt_of_pos _ (by decide)
            clear hu
            walk_at "go"
            refine k_I (.inl ⟨by decide, by decide⟩) ?_
            walk_at "go"
            refine k_I (.inl ⟨by omega, by omega⟩) ?_
            walk_at "go"
            refine k_I (.inl ⟨by decide, by decide⟩) ?_
            walk_at "go"
            refine k_I (.inl ⟨by omega, by omega⟩) ?_
            walk_at "go"
            refine k_I ⟨by decide, by decide, mixBig u0 (by omega) a0 (by omega) (by decide) (by decide) (by decide) (by decide) (by decide) (by decide)⟩ ?_
            walk_at "go"
            refine k_I (by decide) ?_
            walk_at "go"
            refine k_I ⟨by decide, by decide⟩ ?_
            walk_at "go"
            refine k_I m0 ?_
            walk_at "go"
            refine q _ _ g2 ⟨c, ns, a + 1, z, rc, hR2, e1, hl, by omega, by omega, z0⟩ (Int.emod_nonneg _ (by omega)) (Int.emod_lt_of_pos _ m0)
        · walk_at "go"
          refine k_I (by decide) ?_
          walk_at "go"
          refine k_I (.inl ⟨by decide, by decide⟩) ?_
          walk_at "go"
          refine k_I ⟨by decide, by decide, by omega⟩ ?_
          walk_at "go"
          refine k_I (by decide) ?_
          generalize hu : (_ : Int) % 2147483563 = u
          have u0 : 0 ≤ u := by rw [← hu]; exact Int.emod_nonneg _ (by decide)
          have u1 : u < 2147483563 := by rw [← hu]; exact Int.emod_lt_of_pos _ (by decide)
          clear hu
          walk_at "go"
          refine k_I (.inl ⟨by decide, by decide⟩) ?_
          walk_at "go"
          refine k_I (.inl ⟨by omega, by omega⟩) ?_
          walk_at "go"
          refine k_I (.inl ⟨by decide, by decide⟩) ?_
          walk_at "go"
          refine k_I (.inl ⟨by omega, by omega⟩) ?_
          walk_at "go"
          refine k_I ⟨by decide, by decide, mixBig u0 (by omega) a0 (by omega) (by decide) (by decide) (by decide) (by decide) (by decide) (by decide)⟩ ?_
          walk_at "go"
          refine k_I (by decide) ?_
          walk_at "go"
          refine k_I ⟨by decide, by decide⟩ ?_
          walk_at "go"
          refine k_I m0 ?_
          walk_at "go"
          refine q _ _ g2 ⟨c, ns, a + 1, z, rc, hR2, e1, hl, by omega, by omega, z0⟩ (Int.emod_nonneg _ (by omega)) (Int.emod_lt_of_pos _ m0)
end
end K21

namespace K21
open PySem PySem.Spec PyProof.Rows L2 Nd
abbrev s__law_tether : Stmt := top 27
theorem sc__law_tether : FnScope ["script", "cell"] ["script"] (defScope s__law_tether) := ⟨rfl, rfl, rfl, by decide +kernel, rfl, by decide +kernel, by decide +kernel⟩
abbrev s__law_rope : Stmt := top 29
theorem sc__law_rope : FnScope ["tether", "some"] ["tether", "some"] (defScope s__law_rope) := ⟨rfl, rfl, rfl, by decide +kernel, rfl, by decide +kernel, by decide +kernel⟩
section
variable {P : Program} {w : World} {K : PySem.W.Frag} {mg : Str → Option Value} {base : Heap}
theorem ok_riddle {f : Addr} {fd : FuncData} (F : Fun K "_law_tether" "_law_tether" s__law_tether f fd) (T : Txt mg) : FnG P w K mg base CX0 1 f fd ["script"] (spRiddle K) := by
  refine okG0 F sc__law_tether (fun vs H Q E h => ?_) (fun cdv A outer s H vs Q E hG hr h => ?_)
  · obtain ⟨a, ns, rfl, _⟩ := h
    rfl
  · obtain ⟨a, ns, rfl, hS, hlen, q⟩ := h
    refine ⟨_, (pss_one (ps_ret (pe_lst (pa_cons (pe_lc (own := [("cell", 1)]) (g := gName 1) (tt := tYes) rfl sc__law_tether.nd (pi_list (pe_slice sl_list (pv 0) po_none (po_some pe_int))) (blkOk_by (own := [("cell", 1)]) (N := ["script", "cell"]) (sc := defScope s__law_tether) (by decide +kernel)) (fun _ _ _ _ _ => pg_name (i := 1) sc__law_tether.nd rfl (Or.inl rfl)) (fun _ _ _ _ _ => pts_nil) (fun _ _ _ _ _ => (pe_callTy call_int1 (by rfl) T.m_int (by decide +kernel) (pa_cons (pv 1) pa_nil)))) (pa_cons pe_int (pa_cons pe_int pa_nil)))))), ?_⟩
    dsimp only [cxOf, Cx.nox, Cx.wish]
    walk_at "go"
    refine k_slL hS fun p hp => ?_
    have e1 : cutV (ns.map V.int) none (some 60) = (ns.take 60).map V.int := by
      unfold cutV
      rw [HT.sIx_none, show HT.sIx (ns.map V.int).length (ns.map V.int).length (some 60) = min 60 (ns.map V.int).length from HT.sIx_nat _ _ 60]
      simp [List.map_take]
    rw [e1]
    refine ⟨p, rfl, ⟨_, .inl (.inl upd_same)⟩, ?_⟩
    have hl : (ns.take 60).length ≤ 60 := by rw [List.length_take]; omega
    refine lcIn_L (fun _ => true) (fun i => ((ns.take 60).map V.int).getD i .non) (.inl (.inl upd_same)) (by rw [List.length_map]; omega) (fun x => rfl) (fun i x H2 hi s2 => ⟨fun QT k => k _ (Same.refl _), fun _ H3 s3 QE k => ?_⟩) (fun p' H' np s1 hp' => ?_)
    · obtain ⟨z, hz, rfl⟩ : ∃ z, (ns.take 60)[i]? = some z ∧ x = V.int z := by
        rw [List.getElem?_map] at hi
        cases h : (ns.take 60)[i]? with
        | none => rw [h] at hi; cases hi
        | some z => rw [h] at hi; exact ⟨z, rfl, (Option.some.inj hi).symm⟩
      walk_at "go"
      have := k H3 (Same.refl _)
      rw [List.getD_eq_getElem?_getD, hi] at this
      exact this
    · rw [given_all rfl fun i x hi => by rw [List.getD_eq_getElem?_getD, hi]; rfl] at hp'
      walk_at "go"
      refine ⟨by show 3 ≤ sizeLine; decide, fun r hr' => ?_⟩
      have ss : Same H (upd H' r (.lst [V.ref p', V.int 0, V.int 0])) := (Same.new hp).trans (s1.trans (Same.new hr'))
      have np' : p' ≠ r := fun e => by rw [e, hr'] at hp'; cases hp'
      walk_at "go"
      exact q _ _ ss ((Same.new hp).trans s1 |>.free hr') ⟨p', ns.take 60, 0, 0, np'.symm, upd_same, (upd_ne np').trans hp', hl, by omega, by omega, by omega⟩
theorem ok_pick {f : Addr} {fd : FuncData} (F : Fun K "_law_rope" "_law_rope" s__law_rope f fd) (T : Txt mg) (C__law_tug : Cal P w K mg base CX0 1 "_law_tug" spDraw) : FnG P w K mg base CX0 2 f fd ["tether", "some"] spPick := by
  refine okG0 F sc__law_rope (fun vs H Q E h => ?_) (fun cdv A outer s H vs Q E hG hr h => ?_)
  · obtain ⟨r, l, n, xs, rfl, _⟩ := h
    rfl
  · obtain ⟨r, l, n, xs, rfl, R, hn, lr, hL, x0, x1, q⟩ := h
    refine ⟨_, (pss_one (ps_ret (pe_ix ix_list (pv 1) (pe_f C__law_tug hG (hr.mono (by decide)) (by rfl) pass0 (pa_cons (pv 0) (pa_cons (pe_callB (id := "len") call_len_seq (by rfl) T.m_len PySem.boot_len (pa_cons (pv 1) pa_nil)) pa_nil))) (fun _ _ => rfl)))), ?_⟩
    dsimp only [cxOf, Cx.nox, Cx.wish]
    walk_at "go"
    refine ⟨l, xs, rfl, .inl (.inl (.inl hL)), ?_⟩
    walk_at "go"
    refine ⟨r, n, _, rfl, R, hn, by omega, by omega, fun H' v g R' v0 v1 => ?_⟩
    obtain ⟨j, rfl⟩ := Int.eq_ofNat_of_zero_le v0
    have hj : j < xs.length := by omega
    have hx : xs[j]? = some xs[j] := by simp [hj]
    refine k_ixL (.inl (.inl (g _ _ lr hL))) (atI_nat hx) ?_
    walk_at "go"
    exact q _ _ g R' (List.getElem_mem hj)
end
end K21

namespace K21
open PySem PySem.Spec PyProof.Rows L2 Nd
abbrev s__shown : Stmt := top 2
theorem sc__shown : FnScope ["field"] ["field"] (defScope s__shown) := ⟨rfl, rfl, rfl, by decide +kernel, rfl, by decide +kernel, by decide +kernel⟩
abbrev s_BadNumber___init__ : Stmt := mem (top 4) 0
theorem sc_BadNumber___init__ : FnScope ["self", "part"] ["self", "part"] (defScope s_BadNumber___init__) := ⟨rfl, rfl, rfl, by decide +kernel, rfl, by decide +kernel, by decide +kernel⟩
abbrev s_is_integer : Stmt := top 6
theorem sc_is_integer : FnScope ["value"] ["value"] (defScope s_is_integer) := ⟨rfl, rfl, rfl, by decide +kernel, rfl, by decide +kernel, by decide +kernel⟩
abbrev s_is_within : Stmt := top 7
theorem sc_is_within : FnScope ["value", "least", "most"] ["value", "least", "most"] (defScope s_is_within) := ⟨rfl, rfl, rfl, by decide +kernel, rfl, by decide +kernel, by decide +kernel⟩
abbrev s_are_integers : Stmt := top 8
theorem sc_are_integers : FnScope ["value", "many", "item"] ["value", "many"] (defScope s_are_integers) := ⟨rfl, rfl, rfl, by decide +kernel, rfl, by decide +kernel, by decide +kernel⟩
abbrev s_is_fraction : Stmt := top 9
theorem sc_is_fraction : FnScope ["value", "up", "down"] ["value"] (defScope s_is_fraction) := ⟨rfl, rfl, rfl, by decide +kernel, rfl, by decide +kernel, by decide +kernel⟩
abbrev s_need_integer : Stmt := top 10
theorem sc_need_integer : FnScope ["value", "part", "least", "most"] ["value", "part", "least", "most"] (defScope s_need_integer) := ⟨rfl, rfl, rfl, by decide +kernel, rfl, by decide +kernel, by decide +kernel⟩
structure TxtC (mg : Str → Option Value) : Prop where
  m_int : mg "int" = none
  m_bool : mg "bool" = none
  m_str : mg "str" = none
  m_len : mg "len" = none
  m_all : mg "all" = none
  m_list : mg "list" = none
  m_tuple : mg "tuple" = none
  m_isinstance : mg "isinstance" = none
  m_min : mg "min" = none
  m_range : mg "range" = none
  m_gcd : mg "gcd" = some (.builtin "math.gcd")
  m_comb : mg "comb" = some (.builtin "math.comb")
  c_MOST_FAR : ∃ u, mg "MOST_FAR" = some u ∧ RelV (.int 400) u
  c_MOST_TICKS : ∃ u, mg "MOST_TICKS" = some u ∧ RelV (.int 200) u
def spShown : Sp := fun vs H Q _ => ∃ z : Str, vs = [.str z] ∧ z.length ≤ 100 ∧ Q (.str z) H
section
variable {P : Program} {w : World} {K : PySem.W.Frag} {mg : Str → Option Value} {base : Heap}
theorem ok_shown {f : Addr} {fd : FuncData} (F : Fun K "_shown" "_shown" s__shown f fd) (T : TxtC mg) : FnG P w K mg base CX0 1 f fd ["field"] spShown := by
  refine okG0 F sc__shown (fun vs H Q E h => ?_) (fun cdv A outer s H vs Q E hG hr h => ?_)
  · obtain ⟨z, rfl, _⟩ := h
    rfl
  · obtain ⟨z, rfl, hz, q⟩ := h
    refine ⟨_, (pss_cons (ps_if (pt_val (pe_callB (id := "isinstance") call_isi (by rfl) T.m_isinstance (by decide +kernel) (pa_cons (pv 0) (pa_cons (pe_bltn (v := .ty "str") (u := .type "str") (by rfl) T.m_str (by decide +kernel) rfl) pa_nil)))) (pss_one (ps_ret (pv 0))) pss_nil)
      (pss_one (ps_ret pe_str))), ?_⟩
    try dsimp only [cxOf, Cx.nox, Cx.wish]
    walk_at "go"
    refine k_isi (r := 0) (.str z) (by decide) ?_
    walk_at "go"
    refine iteT ?_
    walk_at "go"
    exact q
theorem ok_BadNumber {f C B : Addr} {fd : FuncData} (F : Fun K "__init__" "BadNumber.__init__" s_BadNumber___init__ f fd) (T : ErrT K mg "BadNumber" "HandError" C B) (C__shown : Cal P w K mg base CX0 1 "_shown" spShown) : FnG P w K mg base CX0 2 f fd ["self", "part"] (spInit C ["part"]) := by
  refine okG0 F sc_BadNumber___init__ (fun vs H Q E h => ?_) (fun cdv A outer s H vs Q E hG hr h => ?_)
  · obtain ⟨a, zs, rfl, hl, _⟩ := h
    simp only [List.length_cons, List.length_map, hl]
  · obtain ⟨a, zs, rfl, hl, hz, ea, q⟩ := h
    obtain ⟨z, rfl⟩ := List.length_eq_one_iff.mp hl
    refine ⟨_, (pss_cons (ps_expr (pe_heinit T.he (by rfl) T.gB (pa_cons (pv 0) (pa_cons (pe_joined (PJ.cons pe_str (PJ.cons (pe_fmt (pe_f C__shown hG (hr.mono (by decide)) (by rfl) pass0 (pa_cons (pv 1) pa_nil))) PJ.nil))) pa_nil))))
      (pss_one (ps_ost (pv 0) (pv 1)))), ?_⟩
    try dsimp only [cxOf, Cx.nox, Cx.wish]
    walk_at "go"
    refine k_vei ?_
    walk_at "go"
    dsimp only [tJs, tFmt]
    refine ⟨_, rfl, by decide, ?_⟩
    walk_at "go"
    have hz' := hz z (List.mem_singleton_self z)
    refine ⟨z, rfl, hz', ?_⟩
    refine .inl ⟨z, rfl, ?_, z, rfl, ?_, ?_⟩
    · exact Nat.le_trans hz' (by decide)
    · rw [Str.length_append, Str.length_append]
      exact Nat.le_trans (Nat.add_le_add (Nat.le_refl _) hz') (by decide +kernel)
    walk_at "go"
    refine ⟨a, C, _, rfl, by simp, T.oex, ea, ?_⟩
    walk_at "go"
    refine k_ost1 rfl rfl T.oex T.noP (ea) fun d hd ne => ?_
    exact q d hd ne
theorem ok_is_integer {f : Addr} {fd : FuncData} (F : Fun K "is_integer" "is_integer" s_is_integer f fd) (T : TxtC mg) : FnG P w K mg base CX0 1 f fd ["value"] spIsInt := by
  refine okG0 F sc_is_integer (fun vs H Q E h => ?_) (fun cdv A outer s H vs Q E hG hr h => ?_)
  · obtain ⟨r, v, d, rfl, _⟩ := h
    rfl
  · obtain ⟨r, v, d, rfl, hd, q⟩ := h
    refine ⟨_, (pss_one (ps_ret (pe_and (pe_callB (id := "isinstance") call_isi (by rfl) T.m_isinstance (by decide +kernel) (pa_cons (pv 0) (pa_cons (pe_bltn (v := .ty "int") (u := .type "int") (by rfl) T.m_int (by decide +kernel) rfl) pa_nil))) (pe_one (pe_not (pe_callB (id := "isinstance") call_isi (by rfl) T.m_isinstance (by decide +kernel) (pa_cons (pv 0) (pa_cons (pe_bltn (v := .ty "bool") (u := .type "bool") (by rfl) T.m_bool (by decide +kernel) rfl) pa_nil)))))))), ?_⟩
    try dsimp only [cxOf, Cx.nox, Cx.wish]
    walk_at "go"
    refine k_isi hd (by decide) ?_
    walk_at "go"
    have q' := q H (Same.refl _)
    rw [← isInt_eq d] at q'
    cases h1 : isD "int" d with
    | true =>
      rw [h1] at q'
      rw [if_pos rfl]
      walk_at "go"
      refine k_isi hd (by decide) ?_
      walk_at "go"
      simpa using q'
    | false =>
      rw [h1] at q'
      rw [if_neg (by decide)]
      walk_at "go"
      simpa using q'
theorem ok_is_within {f : Addr} {fd : FuncData} (F : Fun K "is_within" "is_within" s_is_within f fd) (C_is_integer : Cal P w K mg base CX0 1 "is_integer" spIsInt) : FnG P w K mg base CX0 2 f fd ["value", "least", "most"] spWithin := by
  refine okG0 F sc_is_within (fun vs H Q E h => ?_) (fun cdv A outer s H vs Q E hG hr h => ?_)
  · obtain ⟨r, v, d, l, m, rfl, _⟩ := h
    rfl
  · obtain ⟨r, v, d, l, m, rfl, hd, q⟩ := h
    refine ⟨_, (pss_cons (ps_if (pt_not (pt_val (pe_f C_is_integer hG (hr.mono (by decide)) (by rfl) pass0 (pa_cons (pv 0) pa_nil)))) (pss_one (ps_ret pe_bl)) pss_nil)
      (pss_cons (ps_if (PW.pt (pw_and (pt_cmpR op_notN (pv 1) pe_non (nomark _)) (pw_and1 (pt_cmpR op_lt (pv 0) (pv 1) (nomark _))))) (pss_one (ps_ret pe_bl)) pss_nil)
      (pss_one (ps_ret (pe_or (pe_cmpR op_isN (pv 2) pe_non (nomark _)) (pe_one (pe_cmpR op_le (pv 0) (pv 2) (nomark _)))))))), ?_⟩
    try dsimp only [cxOf, Cx.nox, Cx.wish]
    walk_at "go"
    refine ⟨r, v, d, rfl, hd, fun H' s1 => ?_⟩
    walk_at "go"
    have q' := q H' s1
    by_cases hi : ∃ i, d = .int i
    · obtain ⟨i, rfl⟩ := hi
      cases hd
      refine iteF ?_
      have last : (b : Bool) → (lowD i l && highD i m) = b → Q (.bl b) H' := fun b e => e ▸ q'
      cases l with
      | none =>
        dsimp only [optV]
        walk_at "go"
        refine iteF (iteF ?_)
        walk_at "go"
        cases m with
        | none =>
          refine iteT ?_
          walk_at "go"
          exact last _ rfl
        | some x =>
          refine iteF ?_
          dsimp only [optV]
          walk_at "go"
          exact last _ rfl
      | some y =>
        dsimp only [optV]
        walk_at "go"
        refine iteT ?_
        walk_at "go"
        refine ite2 (fun h => ?_) (fun h => ?_)
        · walk_at "go"
          exact last _ (by have := of_decide_eq_true h; simp [lowD]; omega)
        · have hy : lowD i (some y) = true := by
            simp only [lowD, decide_eq_true_eq] at h ⊢
            omega
          walk_at "go"
          cases m with
          | none =>
            refine iteT ?_
            walk_at "go"
            exact last _ (by rw [hy]; rfl)
          | some x =>
            refine iteF ?_
            dsimp only [optV]
            walk_at "go"
            exact last _ (by rw [hy]; rfl)
    · have e : ndInt d = false := by cases d <;> first | rfl | exact absurd ⟨_, rfl⟩ hi
      have e2 : withinD d l m = false := by cases d <;> first | rfl | exact absurd ⟨_, rfl⟩ hi
      rw [e]
      rw [e2] at q'
      refine iteT ?_
      walk_at "go"
      exact q'
theorem ok_are_integers {f : Addr} {fd : FuncData} (F : Fun K "are_integers" "are_integers" s_are_integers f fd) (T : TxtC mg) (C_is_integer : Cal P w K mg base CX0 1 "is_integer" spIsInt) : FnG P w K mg base CX0 2 f fd ["value", "many"] spAreInts := by
  refine okG0 F sc_are_integers (fun vs H Q E h => ?_) (fun cdv A outer s H vs Q E hG hr h => ?_)
  · obtain ⟨r, v, d, k, rfl, _⟩ := h
    rfl
  · obtain ⟨r, v, d, k, rfl, hd, hz, q⟩ := h
    by_cases hT : isD "tuple" d = true
    · obtain ⟨ds, rfl⟩ : ∃ ds, d = .tuple ds := by cases d <;> first | exact ⟨_, rfl⟩ | cases hT
      refine ⟨_, (pss_cons (ps_if (PW.pt (pw_or (pt_not (pt_val (pe_callB (id := "isinstance") call_isiT (by rfl) T.m_isinstance (by decide +kernel) (pa_cons (pv 0) (pa_cons (pe_tup (pa_cons (pe_bltn (v := .ty "list") (u := .type "list") (by rfl) T.m_list (by decide +kernel) rfl) (pa_cons (pe_bltn (v := .ty "tuple") (u := .type "tuple") (by rfl) T.m_tuple (by decide +kernel) rfl) pa_nil))) pa_nil))))) (pw_or1 (pt_cmpR op_ne (pe_callB (id := "len") call_len_seq (by rfl) T.m_len PySem.boot_len (pa_cons (pv 0) pa_nil)) (pv 1) (nomark _))))) (pss_one (ps_ret pe_bl)) pss_nil)
      (pss_one (ps_ret (pe_callB (id := "all") (cr_all rfl) (by rfl) T.m_all (by decide +kernel) (pa_cons (pe_lc (own := [("item", 2)]) (g := gName 2) (tt := tYes) rfl sc_are_integers.nd (pi_tup (pv 0)) (blkOk_by (own := [("item", 2)]) (N := ["value", "many", "item"]) (sc := defScope s_are_integers) (by decide +kernel)) (fun _ _ _ _ _ => pg_name (i := 2) sc_are_integers.nd rfl (Or.inl rfl)) (fun _ _ _ _ _ => pts_nil) (fun _ _ _ _ _ => (pe_f C_is_integer hG (hr.mono (by decide)) (by rfl) pass0 (pa_cons (pv 2) pa_nil)))) pa_nil))))), ?_⟩
      try dsimp only [cxOf, Cx.nox, Cx.wish]
      have hd0 := hd
      cases hd with
      | @tup a xs _ na ea ha =>
      have hlen := ha.length
      have hz' := hz ds rfl
      walk_at "go"
      refine ⟨by show 2 ≤ sizeLine; decide, fun p hp => ?_⟩
      have s1 : Same H (upd H p (.tup [.ty "list", .ty "tuple"])) := Same.new hp
      have e1 := s1 _ _ ea
      walk_at "go"
      refine k_isi2 (hd0.same s1) upd_same (by decide) (by decide) ?_
      walk_at "go"
      refine iteF ?_
      walk_at "go"
      refine ⟨a, xs, rfl, .inr (.inl (.inl e1)), ?_⟩
      walk_at "go"
      by_cases hk : (xs.length : Int) = k
      · subst hk
        rw [show (!decide (V.int (xs.length : Int) = V.int (xs.length : Int))) = false by simp]
        refine iteF ?_
        walk_at "go"
        refine ⟨⟨_, .inl (.inl e1)⟩, ?_⟩
        refine lcIn_T (fun _ => true) (fun i => .bl (ndInt (ds.getD i .none))) (.inl (.inl e1)) (by omega) (fun x => rfl) (fun i x H2 hi s2 => ⟨fun QT k => k _ (Same.refl _), fun _ H3 s3 QE k => ?_⟩) (fun p' H' np s3 hp' => ?_)
        · obtain ⟨d, hd, hx⟩ := ha.get hi
          walk_at "go"
          refine ⟨r, x, d, rfl, hx.same (s1.trans (s2.trans s3)), fun H4 s4 => ?_⟩
          walk_at "go"
          have := k H4 s4
          rw [List.getD_eq_getElem?_getD, hd] at this
          exact this
        · have e2 : given xs.length (fun _ => true) (fun i => V.bl (ndInt (ds.getD i .none))) = (ds.map ndInt).map V.bl := by
            refine given_all (by simp [hlen]) fun i x hi => ?_
            simp only [List.getElem?_map, Option.map_map] at hi
            obtain ⟨d, h1, h2⟩ := Option.map_eq_some_iff.mp hi
            rw [List.getD_eq_getElem?_getD, h1]
            exact h2
          rw [e2] at hp'
          walk_at "go"
          refine ⟨p', ds.map ndInt, rfl, .inl (.inl hp'), ?_⟩
          walk_at "go"
          have q' := q H' (s1.trans s3)
          simpa [areIntsD, itemsD, hlen, List.all_map] using q'
      · rw [show (!decide (V.int (xs.length : Int) = V.int k)) = true by simp [hk]]
        refine iteT ?_
        walk_at "go"
        have q' := q _ s1
        simpa [areIntsD, itemsD, ← hlen, hk] using q'
    by_cases hL : isD "list" d = true
    · obtain ⟨ds, rfl⟩ : ∃ ds, d = .list ds := by cases d <;> first | exact ⟨_, rfl⟩ | cases hL
      refine ⟨_, (pss_cons (ps_if (PW.pt (pw_or (pt_not (pt_val (pe_callB (id := "isinstance") call_isiT (by rfl) T.m_isinstance (by decide +kernel) (pa_cons (pv 0) (pa_cons (pe_tup (pa_cons (pe_bltn (v := .ty "list") (u := .type "list") (by rfl) T.m_list (by decide +kernel) rfl) (pa_cons (pe_bltn (v := .ty "tuple") (u := .type "tuple") (by rfl) T.m_tuple (by decide +kernel) rfl) pa_nil))) pa_nil))))) (pw_or1 (pt_cmpR op_ne (pe_callB (id := "len") call_len_seq (by rfl) T.m_len PySem.boot_len (pa_cons (pv 0) pa_nil)) (pv 1) (nomark _))))) (pss_one (ps_ret pe_bl)) pss_nil)
      (pss_one (ps_ret (pe_callB (id := "all") (cr_all rfl) (by rfl) T.m_all (by decide +kernel) (pa_cons (pe_lc (own := [("item", 2)]) (g := gName 2) (tt := tYes) rfl sc_are_integers.nd (pi_list (pv 0)) (blkOk_by (own := [("item", 2)]) (N := ["value", "many", "item"]) (sc := defScope s_are_integers) (by decide +kernel)) (fun _ _ _ _ _ => pg_name (i := 2) sc_are_integers.nd rfl (Or.inl rfl)) (fun _ _ _ _ _ => pts_nil) (fun _ _ _ _ _ => (pe_f C_is_integer hG (hr.mono (by decide)) (by rfl) pass0 (pa_cons (pv 2) pa_nil)))) pa_nil))))), ?_⟩
      try dsimp only [cxOf, Cx.nox, Cx.wish]
      have hd0 := hd
      cases hd with
      | @lst a xs _ na ea ha =>
      have hlen := ha.length
      have hz' := hz ds rfl
      walk_at "go"
      refine ⟨by show 2 ≤ sizeLine; decide, fun p hp => ?_⟩
      have s1 : Same H (upd H p (.tup [.ty "list", .ty "tuple"])) := Same.new hp
      have e1 := s1 _ _ ea
      walk_at "go"
      refine k_isi2 (hd0.same s1) upd_same (by decide) (by decide) ?_
      walk_at "go"
      refine iteF ?_
      walk_at "go"
      refine ⟨a, xs, rfl, .inl (.inl (.inl e1)), ?_⟩
      walk_at "go"
      by_cases hk : (xs.length : Int) = k
      · subst hk
        rw [show (!decide (V.int (xs.length : Int) = V.int (xs.length : Int))) = false by simp]
        refine iteF ?_
        walk_at "go"
        refine ⟨⟨_, .inl (.inl e1)⟩, ?_⟩
        refine lcIn_L (fun _ => true) (fun i => .bl (ndInt (ds.getD i .none))) (.inl (.inl e1)) (by omega) (fun x => rfl) (fun i x H2 hi s2 => ⟨fun QT k => k _ (Same.refl _), fun _ H3 s3 QE k => ?_⟩) (fun p' H' np s3 hp' => ?_)
        · obtain ⟨d, hd, hx⟩ := ha.get hi
          walk_at "go"
          refine ⟨r, x, d, rfl, hx.same (s1.trans (s2.trans s3)), fun H4 s4 => ?_⟩
          walk_at "go"
          have := k H4 s4
          rw [List.getD_eq_getElem?_getD, hd] at this
          exact this
        · have e2 : given xs.length (fun _ => true) (fun i => V.bl (ndInt (ds.getD i .none))) = (ds.map ndInt).map V.bl := by
            refine given_all (by simp [hlen]) fun i x hi => ?_
            simp only [List.getElem?_map, Option.map_map] at hi
            obtain ⟨d, h1, h2⟩ := Option.map_eq_some_iff.mp hi
            rw [List.getD_eq_getElem?_getD, h1]
            exact h2
          rw [e2] at hp'
          walk_at "go"
          refine ⟨p', ds.map ndInt, rfl, .inl (.inl hp'), ?_⟩
          walk_at "go"
          have q' := q H' (s1.trans s3)
          simpa [areIntsD, itemsD, hlen, List.all_map] using q'
      · rw [show (!decide (V.int (xs.length : Int) = V.int k)) = true by simp [hk]]
        refine iteT ?_
        walk_at "go"
        have q' := q _ s1
        simpa [areIntsD, itemsD, ← hlen, hk] using q'
    · refine ⟨_, (pss_cons (ps_if (PW.pt (pw_or (pt_not (pt_val (pe_callB (id := "isinstance") call_isiT (by rfl) T.m_isinstance (by decide +kernel) (pa_cons (pv 0) (pa_cons (pe_tup (pa_cons (pe_bltn (v := .ty "list") (u := .type "list") (by rfl) T.m_list (by decide +kernel) rfl) (pa_cons (pe_bltn (v := .ty "tuple") (u := .type "tuple") (by rfl) T.m_tuple (by decide +kernel) rfl) pa_nil))) pa_nil))))) (pw_or1 (pt_cmpR op_ne (pe_callB (id := "len") call_len_seq (by rfl) T.m_len PySem.boot_len (pa_cons (pv 0) pa_nil)) (pv 1) (nomark _))))) (pss_one (ps_ret pe_bl)) pss_nil)
      (pss_one (ps_ret (pe_callB (id := "all") (cr_all rfl) (by rfl) T.m_all (by decide +kernel) (pa_cons (pe_lc (own := [("item", 2)]) (g := gName 2) (tt := tYes) rfl sc_are_integers.nd (pi_list (pv 0)) (blkOk_by (own := [("item", 2)]) (N := ["value", "many", "item"]) (sc := defScope s_are_integers) (by decide +kernel)) (fun _ _ _ _ _ => pg_name (i := 2) sc_are_integers.nd rfl (Or.inl rfl)) (fun _ _ _ _ _ => pts_nil) (fun _ _ _ _ _ => (pe_f C_is_integer hG (hr.mono (by decide)) (by rfl) pass0 (pa_cons (pv 2) pa_nil)))) pa_nil))))), ?_⟩
      try dsimp only [cxOf, Cx.nox, Cx.wish]
      walk_at "go"
      refine ⟨by show 2 ≤ sizeLine; decide, fun p hp => ?_⟩
      have s1 : Same H (upd H p (.tup [.ty "list", .ty "tuple"])) := Same.new hp
      walk_at "go"
      refine k_isi2 (hd.same s1) upd_same (by decide) (by decide) ?_
      walk_at "go"
      rw [show (isD "list" d || isD "tuple" d) = false by simp [hL, hT]]
      refine iteT ?_
      refine iteT ?_
      walk_at "go"
      have q' := q _ s1
      have e : areIntsD d k = false := by cases d <;> first | rfl | exact absurd rfl hL | exact absurd rfl hT
      rw [e] at q'
      exact q'
theorem ok_is_fraction {f : Addr} {fd : FuncData} (F : Fun K "is_fraction" "is_fraction" s_is_fraction f fd) (T : TxtC mg) (C_are_integers : Cal P w K mg base CX0 2 "are_integers" spAreInts) : FnG P w K mg base CX0 3 f fd ["value"] spFrac := by
  refine okG0 F sc_is_fraction (fun vs H Q E h => ?_) (fun cdv A outer s H vs Q E hG hr h => ?_)
  · obtain ⟨r, v, d, rfl, _⟩ := h
    rfl
  · obtain ⟨r, v, d, rfl, hd, hz, q⟩ := h
    by_cases hT : isD "tuple" d = true
    · obtain ⟨ds, rfl⟩ : ∃ ds, d = .tuple ds := by cases d <;> first | exact ⟨_, rfl⟩ | cases hT
      refine ⟨_, (pss_cons (ps_if (pt_not (pt_val (pe_f C_are_integers hG (hr.mono (by decide)) (by rfl) pass0 (pa_cons (pv 0) (pa_cons pe_int pa_nil))))) (pss_one (ps_ret pe_bl)) pss_nil)
      (pss_cons (ps_asg (pv 0) (pg_tup (by rfl) (pgs_cons (pg_name (i := 1) sc_is_fraction.nd rfl (.inl rfl)) (pgs_cons (pg_name (i := 2) sc_is_fraction.nd rfl (.inl rfl)) pgs_nil))))
      (pss_one (ps_ret (pe_and (pe_cmpR op_gt (pv 2) pe_int (nomark _)) (pe_one (pe_cmpR op_eq (pe_callBfun cr_gcd (by rfl) T.m_gcd (pa_cons (pv 1) (pa_cons (pv 2) pa_nil))) pe_int (nomark _)))))))), ?_⟩
      try dsimp only [cxOf, Cx.nox, Cx.wish]
      walk_at "go"
      refine ⟨r, v, _, 2, rfl, hd, hz, fun H1 s1 => ?_⟩
      have q' := q H1 s1
      cases hk : areIntsD (.tuple ds) 2 with
      | false =>
        walk_at "go"
        rw [fracD_no hk] at q'
        refine iteT ?_
        walk_at "go"
        exact q'
      | true =>
        obtain ⟨u, z, hds⟩ := two_ints hk
        cases (show ds = [.int u, .int z] from Option.some.inj hds)
        walk_at "go"
        refine iteF ?_
        cases hd with
        | @tup a xs _ na ea ha =>
        cases ha with
        | cons h1 h2 =>
        cases h2 with
        | cons h2 h3 =>
        cases h1
        cases h2
        cases h3
        walk_at "go"
        refine k_gtup (.inl (.inl (s1 _ _ ea))) rfl ?_
        walk_at "go"
        have e : fracD (.tuple [.int u, .int z]) = (decide (0 < z) && decide (Nat.gcd u.natAbs z.natAbs = 1)) := rfl
        rw [e] at q'
        by_cases hz0 : (0 : Int) < z
        · rw [decide_eq_true hz0] at q' ⊢
          refine iteT ?_
          walk_at "go"
          simpa [V.int.injEq, gcd_one] using q'
        · rw [decide_eq_false hz0] at q' ⊢
          refine iteF ?_
          walk_at "go"
          exact q'
    by_cases hL : isD "list" d = true
    · obtain ⟨ds, rfl⟩ : ∃ ds, d = .list ds := by cases d <;> first | exact ⟨_, rfl⟩ | cases hL
      refine ⟨_, (pss_cons (ps_if (pt_not (pt_val (pe_f C_are_integers hG (hr.mono (by decide)) (by rfl) pass0 (pa_cons (pv 0) (pa_cons pe_int pa_nil))))) (pss_one (ps_ret pe_bl)) pss_nil)
      (pss_cons (ps_asg (pv 0) (pg_unl (by rfl) (pgs_cons (pg_name (i := 1) sc_is_fraction.nd rfl (.inl rfl)) (pgs_cons (pg_name (i := 2) sc_is_fraction.nd rfl (.inl rfl)) pgs_nil))))
      (pss_one (ps_ret (pe_and (pe_cmpR op_gt (pv 2) pe_int (nomark _)) (pe_one (pe_cmpR op_eq (pe_callBfun cr_gcd (by rfl) T.m_gcd (pa_cons (pv 1) (pa_cons (pv 2) pa_nil))) pe_int (nomark _)))))))), ?_⟩
      try dsimp only [cxOf, Cx.nox, Cx.wish]
      walk_at "go"
      refine ⟨r, v, _, 2, rfl, hd, hz, fun H1 s1 => ?_⟩
      have q' := q H1 s1
      cases hk : areIntsD (.list ds) 2 with
      | false =>
        walk_at "go"
        rw [fracD_no hk] at q'
        refine iteT ?_
        walk_at "go"
        exact q'
      | true =>
        obtain ⟨u, z, hds⟩ := two_ints hk
        cases (show ds = [.int u, .int z] from Option.some.inj hds)
        walk_at "go"
        refine iteF ?_
        cases hd with
        | @lst a xs _ na ea ha =>
        cases ha with
        | cons h1 h2 =>
        cases h2 with
        | cons h2 h3 =>
        cases h1
        cases h2
        cases h3
        walk_at "go"
        refine k_gunl (.inl (.inl (s1 _ _ ea))) rfl ?_
        walk_at "go"
        have e : fracD (.list [.int u, .int z]) = (decide (0 < z) && decide (Nat.gcd u.natAbs z.natAbs = 1)) := rfl
        rw [e] at q'
        by_cases hz0 : (0 : Int) < z
        · rw [decide_eq_true hz0] at q' ⊢
          refine iteT ?_
          walk_at "go"
          simpa [V.int.injEq, gcd_one] using q'
        · rw [decide_eq_false hz0] at q' ⊢
          refine iteF ?_
          walk_at "go"
          exact q'
    · refine ⟨_, (pss_cons (ps_if (pt_not (pt_val (pe_f C_are_integers hG (hr.mono (by decide)) (by rfl) pass0 (pa_cons (pv 0) (pa_cons pe_int pa_nil))))) (pss_one (ps_ret pe_bl)) pss_nil)
      (pss_cons (ps_asg (pv 0) (pg_tup (by rfl) (pgs_cons (pg_name (i := 1) sc_is_fraction.nd rfl (.inl rfl)) (pgs_cons (pg_name (i := 2) sc_is_fraction.nd rfl (.inl rfl)) pgs_nil))))
      (pss_one (ps_ret (pe_and (pe_cmpR op_gt (pv 2) pe_int (nomark _)) (pe_one (pe_cmpR op_eq (pe_callBfun cr_gcd (by rfl) T.m_gcd (pa_cons (pv 1) (pa_cons (pv 2) pa_nil))) pe_int (nomark _)))))))), ?_⟩
      try dsimp only [cxOf, Cx.nox, Cx.wish]
      walk_at "go"
      refine ⟨r, v, d, 2, rfl, hd, hz, fun H1 s1 => ?_⟩
      have q' := q H1 s1
      have e : itemsD d = none := by cases d <;> first | rfl | exact absurd rfl hL | exact absurd rfl hT
      rw [show areIntsD d 2 = false by simp [areIntsD, e]]
      rw [show fracD d = false by simp [fracD, e]] at q'
      walk_at "go"
      exact q'
theorem ok_need_integer {f : Addr} {fd : FuncData} (F : Fun K "need_integer" "need_integer" s_need_integer f fd) (C_is_within : Cal P w K mg base CX0 2 "is_within" spWithin) : FnG P w K mg base CX0 3 f fd ["value", "part", "least", "most"] spNeed := by
  refine okG0 F sc_need_integer (fun vs H Q E h => ?_) (fun cdv A outer s H vs Q E hG hr h => ?_)
  · obtain ⟨r, v, x, d, l, m, rfl, _⟩ := h
    rfl
  · obtain ⟨r, v, x, d, l, m, rfl, hd, hw, q⟩ := h
    refine ⟨_, (pss_one (ps_if (pt_not (pt_val (pe_f C_is_within hG (hr.mono (by decide)) (by rfl) pass0 (pa_cons (pv 0) (pa_cons (pv 2) (pa_cons (pv 3) pa_nil)))))) (pss_one ps_never) pss_nil)), ?_⟩
    try dsimp only [cxOf, Cx.nox, Cx.wish]
    walk_at "go"
    refine ⟨r, v, d, l, m, rfl, hd, fun H' s1 => ?_⟩
    walk_at "go"
    rw [hw]
    refine iteF ?_
    walk_at "go"
    exact q _ s1
theorem ok_needX {f C : Addr} {fd : FuncData} (F : Fun K "need_integer" "need_integer" s_need_integer f fd) (C_is_within : Cal P w K mg base CX0 2 "is_within" spWithin) (M_BadNumber : MkE P w K mg base "BadNumber" C 2 (spInit C ["part"])) :
    FnG P w K mg base (L2.CX P w) 4 f fd ["value", "part", "least", "most"] (spNeedX C) := by
  refine okG F sc_need_integer (fun vs H Q E h => ?_) (fun cdv A outer s H vs Q E hG hr h => ?_)
  · obtain ⟨r, v, z, d, l, m, rfl, _⟩ := h
    rfl
  · obtain ⟨r, v, z, d, l, m, rfl, hz, hd, q, o⟩ := h
    refine ⟨_, (pss_one (ps_if (pt_not (pt_val (pe_f C_is_within hG (hr.mono (by decide)) (by rfl) pass0 (pa_cons (pv 0) (pa_cons (pv 2) (pa_cons (pv 3) pa_nil)))))) (pss_one (ps_raiseE rfl takesX M_BadNumber hG (hr.mono (by decide)) (by rfl) (pa_cons (pv 1) pa_nil))) pss_nil)), ?_⟩
    try dsimp only [cxOf, Cx.nox, Cx.wish]
    walk_at "go"
    refine ⟨r, v, d, l, m, rfl, hd, fun H' s1 => ?_⟩
    walk_at "go"
    cases hw : withinD d l m with
    | true =>
      refine iteF ?_
      walk_at "go"
      exact q hw _ s1
    | false =>
      refine iteT ?_
      walk_at "go"
      exact k_raise1 rfl hz ((o hw).new s1)
end
end K21

namespace K21
open PySem PySem.Spec PyProof.Rows L2 Nd
abbrev s__need_two : Stmt := top 16
theorem sc__need_two : FnScope ["one", "other"] ["one", "other"] (defScope s__need_two) := ⟨rfl, rfl, rfl, by decide +kernel, rfl, by decide +kernel, by decide +kernel⟩
abbrev s_reduced : Stmt := top 12
theorem sc_reduced : FnScope ["up", "down", "common"] ["up", "down"] (defScope s_reduced) := ⟨rfl, rfl, rfl, by decide +kernel, rfl, by decide +kernel, by decide +kernel⟩
abbrev s_added : Stmt := top 14
theorem sc_added : FnScope ["one", "other"] ["one", "other"] (defScope s_added) := ⟨rfl, rfl, rfl, by decide +kernel, rfl, by decide +kernel, by decide +kernel⟩
abbrev s_multiplied : Stmt := top 15
theorem sc_multiplied : FnScope ["one", "other"] ["one", "other"] (defScope s_multiplied) := ⟨rfl, rfl, rfl, by decide +kernel, rfl, by decide +kernel, by decide +kernel⟩
abbrev s_ways_of : Stmt := top 18
theorem sc_ways_of : FnScope ["far", "ticks"] ["far", "ticks"] (defScope s_ways_of) := ⟨rfl, rfl, rfl, by decide +kernel, rfl, by decide +kernel, by decide +kernel⟩
abbrev s_halved : Stmt := top 13
theorem sc_halved : FnScope ["up", "times", "common"] ["up", "times"] (defScope s_halved) := ⟨rfl, rfl, rfl, by decide +kernel, rfl, by decide +kernel, by decide +kernel⟩
abbrev s_first_share : Stmt := top 22
theorem sc_first_share : FnScope ["far", "ticks"] ["far", "ticks"] (defScope s_first_share) := ⟨rfl, rfl, rfl, by decide +kernel, rfl, by decide +kernel, by decide +kernel⟩
section
variable {P : Program} {w : World} {K : PySem.W.Frag} {mg : Str → Option Value} {base : Heap}
theorem ok_need_two {f : Addr} {fd : FuncData} (F : Fun K "_need_two" "_need_two" s__need_two f fd) (C_is_fraction : Cal P w K mg base CX0 3 "is_fraction" spFrac) : FnG P w K mg base CX0 4 f fd ["one", "other"] spTwo := by
  refine okG0 F sc__need_two (fun vs H Q E h => ?_) (fun cdv A outer s H vs Q E hG hr h => ?_)
  · obtain ⟨r, v, w, p, q, rfl, _⟩ := h
    rfl
  · obtain ⟨r, v, w, p, q, rfl, hp, hq, k⟩ := h
    refine ⟨_, (pss_cons (ps_if (pt_not (pt_val (pe_f C_is_fraction hG (hr.mono (by decide)) (by rfl) pass0 (pa_cons (pv 0) pa_nil)))) (pss_one ps_never) pss_nil)
      (pss_one (ps_if (pt_not (pt_val (pe_f C_is_fraction hG (hr.mono (by decide)) (by rfl) pass0 (pa_cons (pv 1) pa_nil)))) (pss_one ps_never) pss_nil))), ?_⟩
    try dsimp only [cxOf, Cx.nox, Cx.wish]
    walk_at "go"
    refine ⟨r, v, fq p, rfl, hp.dr, fun xs e => by cases e; simp, fun H1 s1 => ?_⟩
    walk_at "go"
    rw [fracD_fq]
    refine iteF ?_
    walk_at "go"
    refine ⟨r, w, fq q, rfl, (hq.same s1).dr, fun xs e => by cases e; simp, fun H2 s2 => ?_⟩
    walk_at "go"
    rw [fracD_fq]
    refine iteF ?_
    walk_at "go"
    exact k _ (s1.trans s2)
theorem ok_reduced {f : Addr} {fd : FuncData} (F : Fun K "reduced" "reduced" s_reduced f fd) (T : TxtC mg) (C_need_integer : Cal P w K mg base CX0 3 "need_integer" spNeed) : FnG P w K mg base CX0 4 f fd ["up", "down"] spRed := by
  refine okG0 F sc_reduced (fun vs H Q E h => ?_) (fun cdv A outer s H vs Q E hG hr h => ?_)
  · obtain ⟨u, w, rfl, _⟩ := h
    rfl
  · obtain ⟨u, w, rfl, h0, hw, q⟩ := h
    refine ⟨_, (pss_cons (ps_expr (pe_f C_need_integer hG (hr.mono (by decide)) (by rfl) pass0 (pa_cons (pv 0) (pa_cons pe_str (pa_cons pe_non (pa_cons pe_non pa_nil))))))
      (pss_cons (ps_expr (pe_f C_need_integer hG (hr.mono (by decide)) (by rfl) pass0 (pa_cons (pv 1) (pa_cons pe_str (pa_cons pe_non (pa_cons pe_non pa_nil))))))
      (pss_cons (ps_if (pt_cmpR op_eq (pv 1) pe_int (nomark _)) (pss_one ps_never) pss_nil)
      (pss_cons (ps_set (i := 2) sc_reduced.nd rfl (.inl rfl) (pe_callBfun cr_gcd (by rfl) T.m_gcd (pa_cons (pv 0) (pa_cons (pv 1) pa_nil))))
      (pss_cons (ps_if (pt_cmpR op_lt (pv 1) pe_int (nomark _)) (pss_one (ps_set (i := 2) sc_reduced.nd rfl (.inl rfl) (pe_un un_neg (pv 2)))) pss_nil)
      (pss_one (ps_ret (pe_tup (pa_cons (pe_op op_fdivZ (pv 0) (pv 2)) (pa_cons (pe_op op_fdivZ (pv 1) (pv 2)) pa_nil)))))))))), ?_⟩
    try dsimp only [cxOf, Cx.nox, Cx.wish]
    walk_at "go"
    refine ⟨0, .int u, _, .int u, none, none, rfl, .int u, rfl, fun H1 s1 => ?_⟩
    walk_at "go"
    refine ⟨0, .int w, _, .int w, none, none, rfl, .int w, rfl, fun H2 s2 => ?_⟩
    walk_at "go"
    refine ite_f (decide_eq_false fun e => h0 (V.int.inj e)) ?_
    walk_at "go"
    have ok := redG_ok (u := u) h0 hw (by decide) (by decide)
    refine ite2 (fun h => ?_) (fun h => ?_)
    · walk_at "go"
      rw [show (-((Nat.gcd u.natAbs w.natAbs : Nat) : Int)) = redG u w by unfold redG; rw [if_pos (of_decide_eq_true h)]]
      refine k_I ok ?_
      walk_at "go"
      refine k_I ok ?_
      walk_at "go"
      refine ⟨small64 (by simp), fun p hp => ?_⟩
      have s3 : Same H2 (upd H2 p (.tup [.int (u.fdiv (redG u w)), .int (w.fdiv (redG u w))])) := Same.new hp
      refine q _ _ (s1.trans (s2.trans s3)) (FrN.from (s1.trans s2) ⟨p, rfl, hp, ?_⟩)
      rw [upd_same, red_up h0, red_down h0]
    · walk_at "go"
      rw [show ((Nat.gcd u.natAbs w.natAbs : Nat) : Int) = redG u w by unfold redG; rw [if_neg (fun z => h (decide_eq_true z))]]
      refine k_I ok ?_
      walk_at "go"
      refine k_I ok ?_
      walk_at "go"
      refine ⟨small64 (by simp), fun p hp => ?_⟩
      have s3 : Same H2 (upd H2 p (.tup [.int (u.fdiv (redG u w)), .int (w.fdiv (redG u w))])) := Same.new hp
      refine q _ _ (s1.trans (s2.trans s3)) (FrN.from (s1.trans s2) ⟨p, rfl, hp, ?_⟩)
      rw [upd_same, red_up h0, red_down h0]
theorem ok_added {f : Addr} {fd : FuncData} (F : Fun K "added" "added" s_added f fd) (C__need_two : Cal P w K mg base CX0 4 "_need_two" spTwo) (C_reduced : Cal P w K mg base CX0 4 "reduced" spRed) : FnG P w K mg base CX0 5 f fd ["one", "other"] (spBin (· + ·)) := by
  refine okG0 F sc_added (fun vs H Q E h => ?_) (fun cdv A outer s H vs Q E hG hr h => ?_)
  · obtain ⟨r, v, w, p, q, rfl, _⟩ := h
    rfl
  · obtain ⟨r, v, w, p, q, rfl, hp, hq, zp, zq, k⟩ := h
    refine ⟨_, (pss_cons (ps_expr (pe_f C__need_two hG (hr.mono (by decide)) (by rfl) pass0 (pa_cons (pv 0) (pa_cons (pv 1) pa_nil))))
      (pss_one (ps_ret (pe_f C_reduced hG (hr.mono (by decide)) (by rfl) pass0 (pa_cons (pe_op op_add (pe_op op_mulW (pe_ix ix_tup (pv 0) pe_int (fun _ _ => rfl)) (pe_ix ix_tup (pv 1) pe_int (fun _ _ => rfl))) (pe_op op_mulW (pe_ix ix_tup (pv 1) pe_int (fun _ _ => rfl)) (pe_ix ix_tup (pv 0) pe_int (fun _ _ => rfl)))) (pa_cons (pe_op op_mulW (pe_ix ix_tup (pv 0) pe_int (fun _ _ => rfl)) (pe_ix ix_tup (pv 1) pe_int (fun _ _ => rfl))) pa_nil)))))), ?_⟩
    try dsimp only [cxOf, Cx.nox, Cx.wish]
    walk_at "go"
    refine ⟨r, v, w, p, q, rfl, hp, hq, fun H1 s1 => ?_⟩
    replace hp := hp.same s1
    replace hq := hq.same s1
    walk_at "go"
    refine k_ix0 hp ?_
    walk_at "go"
    refine k_ix1 hq ?_
    refine k_I (wide_mul zp.1 (lt_two _ zq.2) (by decide) (by decide) (by decide)) ?_
    walk_at "go"
    refine k_ix0 hq ?_
    walk_at "go"
    refine k_ix1 hp ?_
    refine k_I (wide_mul zq.1 (lt_two _ zp.2) (by decide) (by decide) (by decide)) ?_
    walk_at "go"
    refine k_ix1 hp ?_
    walk_at "go"
    refine k_ix1 hq ?_
    refine k_I (wide_mul (lt_two _ zp.2) (lt_two _ zq.2) (by decide) (by decide) (by decide)) ?_
    walk_at "go"
    refine ⟨_, _, rfl, den_ne p q, up_lt (n := 3000 + 3000) (by decide) (wide_lt (lt_two _ zp.2) (lt_two _ zq.2)), fun H2 x s2 hx => ?_⟩
    rw [← add_divInt] at hx
    walk_at "go"
    exact k H2 x (s1.trans s2) (hx.from s1)
theorem ok_multiplied {f : Addr} {fd : FuncData} (F : Fun K "multiplied" "multiplied" s_multiplied f fd) (C__need_two : Cal P w K mg base CX0 4 "_need_two" spTwo) (C_reduced : Cal P w K mg base CX0 4 "reduced" spRed) : FnG P w K mg base CX0 5 f fd ["one", "other"] (spBin (· * ·)) := by
  refine okG0 F sc_multiplied (fun vs H Q E h => ?_) (fun cdv A outer s H vs Q E hG hr h => ?_)
  · obtain ⟨r, v, w, p, q, rfl, _⟩ := h
    rfl
  · obtain ⟨r, v, w, p, q, rfl, hp, hq, zp, zq, k⟩ := h
    refine ⟨_, (pss_cons (ps_expr (pe_f C__need_two hG (hr.mono (by decide)) (by rfl) pass0 (pa_cons (pv 0) (pa_cons (pv 1) pa_nil))))
      (pss_one (ps_ret (pe_f C_reduced hG (hr.mono (by decide)) (by rfl) pass0 (pa_cons (pe_op op_mulW (pe_ix ix_tup (pv 0) pe_int (fun _ _ => rfl)) (pe_ix ix_tup (pv 1) pe_int (fun _ _ => rfl))) (pa_cons (pe_op op_mulW (pe_ix ix_tup (pv 0) pe_int (fun _ _ => rfl)) (pe_ix ix_tup (pv 1) pe_int (fun _ _ => rfl))) pa_nil)))))), ?_⟩
    try dsimp only [cxOf, Cx.nox, Cx.wish]
    walk_at "go"
    refine ⟨r, v, w, p, q, rfl, hp, hq, fun H1 s1 => ?_⟩
    replace hp := hp.same s1
    replace hq := hq.same s1
    walk_at "go"
    refine k_ix0 hp ?_
    walk_at "go"
    refine k_ix0 hq ?_
    refine k_I (wide_mul zp.1 zq.1 (by decide) (by decide) (by decide)) ?_
    walk_at "go"
    refine k_ix1 hp ?_
    walk_at "go"
    refine k_ix1 hq ?_
    refine k_I (wide_mul (lt_two _ zp.2) (lt_two _ zq.2) (by decide) (by decide) (by decide)) ?_
    walk_at "go"
    refine ⟨_, _, rfl, den_ne p q, up_lt (n := 3000 + 3000) (by decide) (wide_lt (lt_two _ zp.2) (lt_two _ zq.2)), fun H2 x s2 hx => ?_⟩
    rw [← mul_divInt] at hx
    walk_at "go"
    exact k H2 x (s1.trans s2) (hx.from s1)
theorem ok_ways_of {f : Addr} {fd : FuncData} (F : Fun K "ways_of" "ways_of" s_ways_of f fd) (T : TxtC mg) : FnG P w K mg base CX0 1 f fd ["far", "ticks"] spWays := by
  refine okG0 F sc_ways_of (fun vs H Q E h => ?_) (fun cdv A outer s H vs Q E hG hr h => ?_)
  · obtain ⟨far, t, rfl, _⟩ := h
    rfl
  · obtain ⟨far, t, rfl, ht, q⟩ := h
    refine ⟨_, (pss_cons (ps_if (PW.pt (pw_or (pt_cmpR op_lt (pv 0) (pe_un un_neg (pv 1)) (nomark _)) (pw_or (pt_cmpR op_gt (pv 0) (pv 1) (nomark _)) (pw_or1 (pt_tru (pe_op op_mod (pe_op op_add (pv 0) (pv 1)) pe_int) (by intro _; rfl)))))) (pss_one (ps_ret pe_int)) pss_nil)
      (pss_one (ps_ret (pe_callBfun cr_comb (by rfl) T.m_comb (pa_cons (pv 1) (pa_cons (pe_op op_fdiv (pe_op op_add (pv 1) (pv 0)) pe_int) pa_nil)))))), ?_⟩
    try dsimp only [cxOf, Cx.nox, Cx.wish]
    have no : W t far = 0 → Q (.int 0) H := fun e => by rw [e] at q; exact q
    walk_at "go"
    refine ite2 (fun h => ?_) (fun h => ?_)
    · rw [if_pos rfl]
      walk_at "go"
      exact no (W_far t far (.inr (of_decide_eq_true h)))
    · walk_at "go"
      refine ite2 (fun h1 => ?_) (fun h1 => ?_)
      · rw [if_pos rfl]
        walk_at "go"
        exact no (W_far t far (.inl (of_decide_eq_true h1)))
      · walk_at "go"
        refine k_I (by decide) ?_
        refine ⟨_, rfl, ?_⟩
        walk_at "go"
        have h' : ¬ far < -(t : Int) := fun z => h (decide_eq_true z)
        have h1' : ¬ far > (t : Int) := fun z => h1 (decide_eq_true z)
        by_cases h2 : (far + (t : Int)) % 2 = 0
        · refine ite_f (by rw [h2]; rfl) ?_
          obtain ⟨k, hk⟩ := W_par h2 (by omega)
          walk_at "go"
          refine k_I ⟨by decide, by decide⟩ ?_
          walk_at "go"
          rw [show ((t : Int) + far) / 2 = (k : Int) by omega]
          refine k_comb ht ?_
          walk_at "go"
          rw [hk, W_ch] at q
          exact q
        · refine ite_t (by simpa using h2) ?_
          walk_at "go"
          exact no (W_odd t far h2)
theorem ok_halved {f : Addr} {fd : FuncData} (F : Fun K "halved" "halved" s_halved f fd) (T : TxtC mg) : FnG P w K mg base CX0 1 f fd ["up", "times"] spHalved := by
  refine okG0 F sc_halved (fun vs H Q E h => ?_) (fun cdv A outer s H vs Q E hG hr h => ?_)
  · obtain ⟨u, k, rfl, _⟩ := h
    rfl
  · obtain ⟨u, k, rfl, hk, hu, q⟩ := h
    refine ⟨_, (pss_cons (ps_if (pt_cmpR op_eq (pv 0) pe_int (nomark _)) (pss_one (ps_ret (pe_tup (pa_cons pe_int (pa_cons pe_int pa_nil))))) pss_nil)
      (pss_cons (ps_set (i := 2) sc_halved.nd rfl (.inl rfl) (pe_callB (id := "min") (call_min2 rfl) (by rfl) T.m_min (by decide +kernel) (pa_cons (pv 1) (pa_cons (pe_op op_sub (pe_bits (pe_op op_and (pv 0) (pe_un un_neg (pv 0)))) pe_int) pa_nil))))
      (pss_one (ps_ret (pe_tup (pa_cons (pe_op op_shr (pv 0) (pv 2)) (pa_cons (pe_op op_shl pe_int (pe_op op_sub (pv 1) (pv 2))) pa_nil))))))), ?_⟩
    try dsimp only [cxOf, Cx.nox, Cx.wish]
    walk_at "go"
    by_cases h0 : u = 0
    · subst h0
      refine ite_t (by simp) ?_
      walk_at "go"
      refine ⟨small64 (by simp), fun p hp => ?_⟩
      have s1 : Same H (upd H p (.tup [.int 0, .int 1])) := Same.new hp
      refine q _ _ s1 ⟨p, rfl, hp, ?_⟩
      rw [upd_same, Rat.zero_divInt]
      rfl
    · refine ite_f (by simp [h0]) ?_
      obtain ⟨v, a, e⟩ := two_split _ u rfl h0
      walk_at "go"
      have low : Builtin.bitAnd u (-u) = 2 ^ v := by rw [e]; exact PySem.W.kbt_low v a
      rw [low, bits_two]
      rw [show (if ((v + 1 : Nat) : Int) - 1 < (k : Int) then ((v + 1 : Nat) : Int) - 1 else (k : Int)) = ((min k v : Nat) : Int) by
        split <;> omega]
      refine k_I (by omega) ?_
      walk_at "go"
      refine k_I ⟨by omega, by omega, by decide⟩ ?_
      walk_at "go"
      refine ⟨small64 (by simp), fun p hp => ?_⟩
      refine q _ _ (Same.new hp) ⟨p, rfl, hp, ?_⟩
      rw [upd_same]
      obtain ⟨e1, e2⟩ := halved_rat (k := k) e
      rw [← e1, ← e2, Int.toNat_natCast, show ((k : Int) - ((min k v : Nat) : Int)).toNat = k - min k v by omega, Int.one_mul]
theorem ok_first_share {f : Addr} {fd : FuncData} (F : Fun K "first_share" "first_share" s_first_share f fd) (T : TxtC mg) (C_need_integer : Cal P w K mg base CX0 3 "need_integer" spNeed) (C_ways_of : Cal P w K mg base CX0 1 "ways_of" spWays)
    (C_halved : Cal P w K mg base CX0 1 "halved" spHalved) : FnG P w K mg base CX0 4 f fd ["far", "ticks"] spFirst := by
  refine okG0 F sc_first_share (fun vs H Q E h => ?_) (fun cdv A outer s H vs Q E hG hr h => ?_)
  · obtain ⟨far, t, rfl, _⟩ := h
    rfl
  · obtain ⟨far, t, rfl, h1, h400, ht, q⟩ := h
    refine ⟨_, (pss_cons (ps_expr (pe_f C_need_integer hG (hr.mono (by decide)) (by rfl) pass0 (pa_cons (pv 0) (pa_cons pe_str (pa_cons pe_int (pa_cons (C8.pe_gc rfl T.c_MOST_FAR) pa_nil))))))
      (pss_cons (ps_expr (pe_f C_need_integer hG (hr.mono (by decide)) (by rfl) pass0 (pa_cons (pv 1) (pa_cons pe_str (pa_cons pe_int (pa_cons (C8.pe_gc rfl T.c_MOST_FAR) pa_nil))))))
      (pss_cons (ps_if (pt_cmpR op_gt (pv 0) (pv 1) (nomark _)) (pss_one (ps_ret (pe_tup (pa_cons pe_int (pa_cons pe_int pa_nil))))) pss_nil)
      (pss_one (ps_ret (pe_f C_halved hG (hr.mono (by decide)) (by rfl) pass0 (pa_cons (pe_op op_fdivW (pe_op op_mulW (pv 0) (pe_f C_ways_of hG (hr.mono (by decide)) (by rfl) pass0 (pa_cons (pv 0) (pa_cons (pv 1) pa_nil)))) (pv 1)) (pa_cons (pv 1) pa_nil)))))))), ?_⟩
    try dsimp only [cxOf, Cx.nox, Cx.wish]
    walk_at "go"
    refine ⟨0, .int far, _, .int far, some 1, some 400, rfl, .int _, by simp [withinD, lowD, highD]; omega, fun H1 s1 => ?_⟩
    walk_at "go"
    refine ⟨0, .int t, _, .int t, some 0, some 400, rfl, .int _, by simp [withinD, lowD, highD]; omega, fun H2 s2 => ?_⟩
    walk_at "go"
    refine ite2 (fun h => ?_) (fun h => ?_)
    · have h' : (t : Int) < (far : Int) := of_decide_eq_true h
      walk_at "go"
      refine ⟨small64 (by simp), fun p hp => ?_⟩
      refine q _ _ (s1.trans (s2.trans (Same.new hp))) (FrN.from (s1.trans s2) ⟨p, rfl, hp, ?_⟩)
      rw [upd_same, fsR, fst_far t _ h', Int.natCast_zero, Rat.zero_divInt]
      rfl
    · have h' : ¬ (t : Int) < (far : Int) := fun z => h (decide_eq_true z)
      obtain ⟨n, rfl⟩ : ∃ n, t = n + 1 := ⟨t - 1, by omega⟩
      walk_at "go"
      refine ⟨far, n + 1, rfl, by omega, ?_⟩
      walk_at "go"
      refine k_I (wide_mul (a := 64) (b := 500) (by omega) (lt_two _ (Nat.lt_of_le_of_lt (W_le _ _) (Nat.pow_lt_pow_right (by decide) (by omega)))) (by decide) (by decide) (by decide)) ?_
      walk_at "go"
      refine k_I ⟨by omega, Nat.lt_of_lt_of_le (PySem.Flt.log2_lt_of (k := 64) (by decide) (by omega)) (by decide)⟩ ?_
      walk_at "go"
      rw [first_div n (far : Int) (by omega)]
      refine ⟨_, n + 1, rfl, by omega, lt_two _ (Nat.lt_of_le_of_lt (fst_le _ _) (Nat.pow_lt_pow_right (by decide) (by omega))), fun H3 v s3 hv => ?_⟩
      walk_at "go"
      exact q _ _ (s1.trans (s2.trans s3)) (FrN.from (s1.trans s2) hv)
end
end K21

namespace K21
open PySem PySem.Spec PyProof.Rows L2 Nd
abbrev s__first_best : Stmt := top 25
theorem sc__first_best : FnScope ["far", "most", "ticks"] ["far", "most"] (defScope s__first_best) := ⟨rfl, rfl, rfl, by decide +kernel, rfl, by decide +kernel, by decide +kernel⟩
abbrev s_reach_rows : Stmt := top 24
theorem sc_reach_rows : FnScope ["ticks", "far"] ["ticks"] (defScope s_reach_rows) := ⟨rfl, rfl, rfl, by decide +kernel, rfl, by decide +kernel, by decide +kernel⟩
abbrev s_reach : Stmt := top 23
theorem sc_reach : FnScope ["ticks", "total", "share"] ["ticks"] (defScope s_reach) := ⟨rfl, rfl, rfl, by decide +kernel, rfl, by decide +kernel, by decide +kernel⟩
def spFB : Sp := fun vs H Q _ => ∃ far most : Nat, vs = [.int (far : Int), .int (most : Int)] ∧ far ≤ 400 ∧ most ≤ 400 ∧ ∀ H', Same H H' → Q (.int (fb far most : Nat)) H'
/-- the greatest first share of each far up to t -/
def rowR (t : Nat) (i : Nat) : Rat := fsR ((i + 1 : Nat) : Int) (fb (i + 1) t)
def spRR0 : Sp := fun vs H Q _ => ∃ t : Nat, vs = [.int (t : Int)] ∧ t ≤ 200 ∧ ∀ H' p ys, Same H H' → H p = none → H' p = some (.tup ys) → Paired (FrN H H') ys ((List.range t).map (rowR t)) → Q (.ref p) H'
theorem fb_le {far most : Nat} (h : far ≤ most) : fb far most ≤ most := by
  unfold fb
  have := Nat.min_le_left ((most - far) / 2) ((far * far + 1 - 3 * far) / 6)
  omega
def sumR (t : Nat) : Nat → Rat
  | 0 => 0
  | n + 1 => sumR t n + rowR t n
theorem dy_row {t i : Nat} (hi : i < t) : ∃ u : Int, rowR t i = Rat.divInt u (2 ^ t) ∧ u.natAbs ≤ 2 ^ t := by
  have h := fb_le (far := i + 1) (most := t) (by omega)
  refine ⟨(fst ((i + 1 : Nat) : Int) (fb (i + 1) t) : Int) * 2 ^ (t - fb (i + 1) t), ?_, ?_⟩
  · rw [rowR, fsR]
    rw [show (2 : Int) ^ t = 2 ^ (fb (i + 1) t) * 2 ^ (t - fb (i + 1) t) by rw [← Int.pow_add]; congr 1; omega]
    exact (Rat.divInt_mul_right (Int.ne_of_gt (Int.pow_pos (by decide)))).symm
  · rw [Int.natAbs_mul, Int.natAbs_natCast, two_cast, Int.natAbs_natCast]
    have h1 := fst_le (fb (i + 1) t) ((i + 1 : Nat) : Int)
    calc fst ((i + 1 : Nat) : Int) (fb (i + 1) t) * 2 ^ (t - fb (i + 1) t) ≤ 2 ^ (fb (i + 1) t) * 2 ^ (t - fb (i + 1) t) := Nat.mul_le_mul_right _ h1
      _ = 2 ^ t := by rw [← Nat.pow_add]; congr 1; omega
theorem dy_sum {t : Nat} : ∀ n : Nat, n ≤ t → ∃ u : Int, sumR t n = Rat.divInt u (2 ^ t) ∧ u.natAbs ≤ n * 2 ^ t
  | 0, _ => ⟨0, by rw [Rat.zero_divInt]; rfl, by simp⟩
  | n + 1, h => by
    obtain ⟨u, e, b⟩ := dy_sum (t := t) n (by omega)
    obtain ⟨x, e2, b2⟩ := dy_row (t := t) (i := n) (by omega)
    have p : (2 : Int) ^ t ≠ 0 := Int.ne_of_gt (Int.pow_pos (by decide))
    refine ⟨u + x, ?_, ?_⟩
    · rw [sumR, e, e2, Rat.divInt_add_divInt _ _ p p, ← Int.add_mul]
      exact Rat.divInt_mul_right p
    · rw [Nat.add_mul, Nat.one_mul]
      omega
theorem sz_sum {t n : Nat} (h : n ≤ t) (ht : t ≤ 200) : Sz 220 (sumR t n) := by
  obtain ⟨u, e, b⟩ := dy_sum n h
  rw [e]
  have p : (2 : Int) ^ t ≠ 0 := Int.ne_of_gt (Int.pow_pos (by decide))
  have h2 : (2 : Nat) ^ t ≤ 2 ^ 200 := Nat.pow_le_pow_right (by decide) ht
  have h3 : n * 2 ^ t ≤ 200 * 2 ^ 200 := Nat.mul_le_mul (by omega) h2
  have h4 : (200 : Nat) * 2 ^ 200 < 2 ^ 220 := by decide
  refine sz_divInt p (by omega) ?_
  rw [two_cast, Int.natAbs_natCast]
  have h5 : (2 : Nat) ^ 200 < 2 ^ 220 := by decide
  omega
theorem sz_row {t i : Nat} (h : i < t) (ht : t ≤ 200) : Sz 220 (rowR t i) := by
  obtain ⟨u, e, b⟩ := dy_row h
  rw [e]
  have p : (2 : Int) ^ t ≠ 0 := Int.ne_of_gt (Int.pow_pos (by decide))
  have h2 : (2 : Nat) ^ t ≤ 2 ^ 200 := Nat.pow_le_pow_right (by decide) ht
  have h5 : (2 : Nat) ^ 200 < 2 ^ 220 := by decide
  refine sz_divInt p (by omega) ?_
  rw [two_cast, Int.natAbs_natCast]
  omega
theorem frN_two {H H1 : Hp} {v w : V} {p q : Rat} (h1 : FrN H H1 v p) (h2 : FrN H H1 w q) : ∃ r, Nd.Fr r H1 v p ∧ Nd.Fr r H1 w q := by
  obtain ⟨a, rfl, _, e1⟩ := h1
  obtain ⟨b, rfl, _, e2⟩ := h2
  exact ⟨Nat.succ (a + b), ⟨a, rfl, Nat.ne_of_lt (Nat.lt_succ_of_le (Nat.le_add_right a b)), e1⟩, ⟨b, rfl, Nat.ne_of_lt (Nat.lt_succ_of_le (Nat.le_add_left b a)), e2⟩⟩
theorem pairs_get {α β : Type} {F : α → β → Prop} : ∀ {l : List α} {m : List β} {i : Nat} {a : α}, Paired F l m → l[i]? = some a → ∃ b, m[i]? = some b ∧ F a b
  | _, _, 0, _, .cons h _, e => by cases e; exact ⟨_, rfl, h⟩
  | _, _, i + 1, _, .cons _ t, e => pairs_get (i := i) t e
  | _, _, 0, _, .nil, e => nomatch e
  | _, _, _ + 1, _, .nil, e => nomatch e
def spRR (C : Addr) : Sp := fun vs H Q E => ∃ (r : Addr) (v : V) (d : PyData), vs = [v] ∧ Dr r H v d ∧ (withinD d (some 0) (some 200) = false → Outs E C "ticks" H) ∧
  (withinD d (some 0) (some 200) = true → ∃ t : Nat, d = .int (t : Int) ∧ t ≤ 200 ∧ ∀ H' p ys, Same H H' → H p = none → H' p = some (.tup ys) → Paired (FrN H H') ys ((List.range t).map (rowR t)) → Q (.ref p) H')
def spReach (C : Addr) : Sp := fun vs H Q E => ∃ (r : Addr) (v : V) (d : PyData), vs = [v] ∧ Dr r H v d ∧ (withinD d (some 0) (some 200) = false → Outs E C "ticks" H) ∧
  (withinD d (some 0) (some 200) = true → ∃ t : Nat, d = .int (t : Int) ∧ t ≤ 200 ∧ ∀ H' v, Same H H' → FrN H H' v (2 * sumR t t) → Q v H')
section
variable {P : Program} {w : World} {K : PySem.W.Frag} {mg : Str → Option Value} {base : Heap}
theorem ok_first_best {f : Addr} {fd : FuncData} (F : Fun K "_first_best" "_first_best" s__first_best f fd) : FnG P w K mg base CX0 1 f fd ["far", "most"] spFB := by
  refine okG0 F sc__first_best (fun vs H Q E h => ?_) (fun cdv A outer s H vs Q E hG hr h => ?_)
  · obtain ⟨far, most, rfl, _⟩ := h
    rfl
  · obtain ⟨far, most, rfl, h4, hm, q⟩ := h
    refine ⟨_, (pss_cons (ps_set (i := 2) sc__first_best.nd rfl (.inl rfl) (pv 0))
      (pss_cons (ps_while PassesOwn.never (PW.pt (pw_and (pt_cmpR op_le (pe_op op_add (pv 2) pe_int) (pv 1) (nomark _)) (pw_and1 (pt_cmpR op_lt (pe_op op_add (pe_op op_mul pe_int (pv 2)) pe_int) (pe_op op_mul (pv 0) (pv 0)) (nomark _))))) (pss_one (ps_aug (i := 2) sc__first_best.nd rfl (.inl rfl) pe_int ip_add)))
      (pss_one (ps_ret (pv 2))))), ?_⟩
    try dsimp only [cxOf, Cx.nox, Cx.wish]
    walk_at "go"
    obtain ⟨k0, hk0⟩ : ∃ k0, k0 = min ((most - far) / 2) ((far * far + 1 - 3 * far) / 6) := ⟨_, rfl⟩
    have hfb : fb far most = far + 2 * k0 := by rw [hk0]; rfl
    obtain ⟨sq, hsq⟩ : ∃ sq : Nat, sq = far * far := ⟨_, rfl⟩
    have hsqI : (far : Int) * far = (sq : Int) := by rw [hsq, Int.natCast_mul]
    rw [← hsq] at hk0
    refine k_while (fun m σ H' => ∃ k : Nat, k ≤ k0 ∧ m = k0 - k ∧ σ = [some (.int (far : Int)), some (.int (most : Int)), some (.int ((far : Int) + 2 * k))] ∧ Same H H') k0
      ⟨0, Nat.zero_le _, rfl, by simp; rfl, Same.refl _⟩ (fun m σ H' hW => ?_)
    obtain ⟨k, hk, rfl, rfl, s1⟩ := hW
    have fin : k = k0 → Q (.int ((far : Int) + 2 * k)) H' := fun e => by
      have := q H' s1
      rw [hfb, ← e] at this
      simpa using this
    walk_at "go"
    refine ite2 (fun h => ?_) (fun h => ?_)
    · have h' : (far : Int) + 2 * k + 2 ≤ most := by simpa using h
      walk_at "go"
      refine k_I (.inl ⟨by decide, by decide⟩) ?_
      walk_at "go"
      refine k_I (.inl ⟨by omega, by omega⟩) ?_
      rw [hsqI]
      walk_at "go"
      refine ite2 (fun h2 => ?_) (fun h2 => ?_)
      · have h2' : 3 * ((far : Int) + 2 * k) + 4 < sq := by simpa using h2
        refine ⟨fun σ' H'' => ∃ m', m' < k0 - k ∧ ∃ k : Nat, k ≤ k0 ∧ m' = k0 - k ∧ σ' = [some (.int (far : Int)), some (.int (most : Int)), some (.int ((far : Int) + 2 * k))] ∧ Same H H'', fun _ _ z => z, ?_⟩
        walk_at "go"
        refine ⟨_, _, rfl, rfl, ?_⟩
        walk_at "go"
        exact ⟨k0 - (k + 1), by omega, k + 1, by omega, rfl, by rw [show (far : Int) + 2 * ((k + 1 : Nat) : Int) = (far : Int) + 2 * k + 2 by omega]; rfl, s1⟩
      · have h2' : ¬ 3 * ((far : Int) + 2 * k) + 4 < sq := by simpa using h2
        walk_at "go"
        exact fin (by omega)
    · have h' : ¬ (far : Int) + 2 * k + 2 ≤ most := by simpa using h
      refine iteF ?_
      walk_at "go"
      exact fin (by omega)
theorem ok_reach_rows {f C : Addr} {fd : FuncData} (F : Fun K "reach_rows" "reach_rows" s_reach_rows f fd) (T : TxtC mg) (CX_need_integer : Cal P w K mg base (L2.CX P w) 4 "need_integer" (spNeedX C)) (C__first_best : Cal P w K mg base CX0 1 "_first_best" spFB)
    (C_first_share : Cal P w K mg base CX0 4 "first_share" spFirst) : FnG P w K mg base (L2.CX P w) 5 f fd ["ticks"] (spRR C) := by
  refine okG F sc_reach_rows (fun vs H Q E h => ?_) (fun cdv A outer s H vs Q E hG hr h => ?_)
  · obtain ⟨r, v, d, rfl, _⟩ := h
    rfl
  · obtain ⟨r, v, d, rfl, hd, o, q⟩ := h
    refine ⟨_, (pss_cons (ps_expr (pe_f CX_need_integer hG (hr.mono (by decide)) (by rfl) passX (pa_cons (pv 0) (pa_cons pe_str (pa_cons pe_int (pa_cons (C8.pe_gc rfl T.c_MOST_TICKS) pa_nil))))))
      (pss_one (ps_ret (pe_callTy call_tuple_of (by rfl) T.m_tuple (by decide +kernel) (pa_cons (pe_lc (own := [("far", 1)]) (g := gName 1) (tt := tYes) rfl sc_reach_rows.nd (pi_range2 rfl T.m_range (pa_cons pe_int (pa_cons (pe_op op_add (pv 0) pe_int) pa_nil))) (blkOk_by (own := [("far", 1)]) (N := ["ticks", "far"]) (sc := defScope s_reach_rows) (by decide +kernel)) (fun _ _ _ _ _ => pg_name (i := 1) sc_reach_rows.nd rfl (Or.inl rfl)) (fun _ _ _ _ _ => pts_nil) (fun _ _ _ _ _ => (pe_f C_first_share hG (hr.mono (by decide)) (by rfl) pass0 (pa_cons (pv 1) (pa_cons (pe_f C__first_best hG (hr.mono (by decide)) (by rfl) pass0 (pa_cons (pv 1) (pa_cons (pv 0) pa_nil))) pa_nil))))) pa_nil))))), ?_⟩
    try dsimp only [cxOf, Cx.nox, Cx.wish]
    walk_at "go"
    refine ⟨r, v, "ticks", d, some 0, some 200, rfl, by decide, hd, fun z H1 s1 => ?_, fun z => o z⟩
    obtain ⟨t, rfl, ht, q⟩ := q z
    cases hd
    walk_at "go"
    refine ⟨⟨by decide, by decide, by omega, by omega⟩, ?_⟩
    rw [show ((t : Int) + 1 - 1).toNat = t by omega]
    refine lcIn_frsR (fun i => rowR t i) (by omega) (fun _ => rfl) (fun i H2 hi s2 QE kk => ?_) (fun p H2 ys hp s2 e2 hys => ?_)
    · walk_at "go"
      refine ⟨i + 1, t, ?_, by omega, by omega, fun H3 s3 => ?_⟩
      · rw [show (1 : Int) + (i : Int) = ((i + 1 : Nat) : Int) by omega]
        rfl
      · walk_at "go"
        have hfb := fb_le (far := i + 1) (most := t) (by omega)
        refine ⟨i + 1, fb (i + 1) t, ?_, by omega, by omega, by omega, fun H4 y s4 hy => ?_⟩
        · rw [show (1 : Int) + (i : Int) = ((i + 1 : Nat) : Int) by omega]
          rfl
        · exact kk H4 y (s3.trans s4) (hy.from s3)
    · walk_at "go"
      refine ⟨p, ys, rfl, .inl ⟨.inl (.inl e2), fun l hl => ?_⟩⟩
      have s3 : Same H2 (upd H2 l (.tup ys)) := Same.new hl
      exact q _ l ys (s1.trans (s2.trans s3)) ((s1.trans s2).free hl) upd_same (pairs_mono (fun _ _ h => FrN.from s1 (h.same s3)) hys)
theorem ok_reach {f C : Addr} {fd : FuncData} (F : Fun K "reach" "reach" s_reach f fd) (CX_reach_rows : Cal P w K mg base (L2.CX P w) 5 "reach_rows" (spRR C))
    (C_added : Cal P w K mg base CX0 5 "added" (spBin (· + ·))) (C_multiplied : Cal P w K mg base CX0 5 "multiplied" (spBin (· * ·))) : FnG P w K mg base (L2.CX P w) 6 f fd ["ticks"] (spReach C) := by
  refine okG F sc_reach (fun vs H Q E h => ?_) (fun cdv A outer s H vs Q E hG hr h => ?_)
  · obtain ⟨r, v, d, rfl, _⟩ := h
    rfl
  · obtain ⟨r, v, d, rfl, hd, o, q⟩ := h
    refine ⟨_, (pss_cons (ps_set (i := 1) sc_reach.nd rfl (.inl rfl) (pe_tup (pa_cons pe_int (pa_cons pe_int pa_nil))))
      (pss_cons (ps_for (L2.passes_of rfl) rfl (pi_tup (pe_f CX_reach_rows hG (hr.mono (by decide)) (by rfl) passX (pa_cons (pv 0) pa_nil))) (pg_name (i := 2) sc_reach.nd rfl (.inl rfl)) (pss_one (ps_set (i := 1) sc_reach.nd rfl (.inl rfl) (pe_f C_added hG (hr.mono (by decide)) (by rfl) pass0 (pa_cons (pv 1) (pa_cons (pv 2) pa_nil))))))
      (pss_one (ps_ret (pe_f C_multiplied hG (hr.mono (by decide)) (by rfl) pass0 (pa_cons (pe_tup (pa_cons pe_int (pa_cons pe_int pa_nil))) (pa_cons (pv 1) pa_nil))))))), ?_⟩
    try dsimp only [cxOf, Cx.nox, Cx.wish]
    walk_at "go"
    refine ⟨small64 (by simp), fun p0 hp0 => ?_⟩
    generalize hU : upd _ p0 _ = H1
    obtain ⟨s1, e1⟩ := upd_facts hU hp0
    clear hU
    have f0 : FrN H H1 (.ref p0) 0 := ⟨p0, rfl, hp0, e1⟩
    walk_at "go"
    refine ⟨r, v, d, rfl, hd.same s1, fun z => (o z).same s1, fun z => ?_⟩
    obtain ⟨t, rfl, ht, q⟩ := q z
    cases hd
    refine ⟨t, rfl, ht, fun H2 pr ys s2 hpr e2 hys => ?_⟩
    have hys2 := pairs_mono (fun _ _ h => FrN.from s1 h) hys
    have hlen : ys.length = t := by rw [pairs_len hys, List.length_map, List.length_range]
    walk_at "go"
    refine ⟨⟨_, .inl (.inl e2)⟩, ?_⟩
    refine forIn_it (walk_tup (xs := ys)) (fun i σ Hc => Same H2 Hc ∧ ∃ v x3, σ = [some (.int (t : Int)), some v, x3] ∧ FrN H Hc v (sumR t i)) ⟨Same.refl _, _, _, rfl, f0.same s2⟩ (fun i σ Hc _ p => .inl (.inl (p.1 _ _ e2)))
      (fun i x σ Hc Hc' hi p y => ?_) (fun σ Hc p => ?_)
    · obtain ⟨s3, v, x3, rfl, fv⟩ := p
      obtain ⟨rfl, hx⟩ := y
      obtain ⟨b, hb, fx⟩ := pairs_get hys2 hx
      rw [List.getElem?_map, List.getElem?_range (by omega)] at hb
      obtain rfl : rowR t i = b := Option.some.inj hb
      obtain ⟨r, g1, g2⟩ := frN_two fv (fx.same s3)
      walk_at "go"
      refine ⟨r, _, _, _, _, rfl, g1, g2, (sz_sum (by omega) ht).le (by decide), (sz_row (by omega) ht).le (by decide), fun H4 y s4 hy => ?_⟩
      walk_at "go"
      exact ⟨s3.trans s4, y, _, rfl, hy.from (s1.trans (s2.trans s3))⟩
    · obtain ⟨s3, v, x3, rfl, fv⟩ := p
      rw [hlen] at fv
      walk_at "go"
      refine ⟨small64 (by simp), fun p5 hp5 => ?_⟩
      generalize hU : upd _ p5 _ = H5
      obtain ⟨s5, e5⟩ := upd_facts hU hp5
      clear hU
      have s05 := s1.trans (s2.trans (s3.trans s5))
      have f2 : FrN H H5 (.ref p5) 2 := ⟨p5, rfl, (s1.trans (s2.trans s3)).free hp5, e5⟩
      obtain ⟨r, g1, g2⟩ := frN_two f2 (fv.same s5)
      walk_at "go"
      refine ⟨r, _, _, _, _, rfl, g1, g2, ⟨by decide, by decide⟩, (sz_sum (Nat.le_refl _) ht).le (by decide), fun H6 y s6 hy => ?_⟩
      walk_at "go"
      exact q _ _ (s05.trans s6) (hy.from s05)
end
end K21

namespace K21
open PySem PySem.Spec PyProof.Rows L2 Nd LamX
abbrev s__law_part : Stmt := top 32
theorem sc__law_part : FnScope ["ask", "caught", "error"] ["ask"] (defScope s__law_part) := ⟨rfl, rfl, rfl, by decide +kernel, rfl, by decide +kernel, by decide +kernel⟩
theorem gives_part {X : Cx} {C B g : Addr} {cdg : Value} {q z : Str} {k : Nat} (T : ErrT X.K X.mg "BadNumber" "HandError" C B) (mi : X.mg "isinstance" = none) :
    GivesG X ["ask", "caught", "error"] "_law_part" (defScope s__law_part) g cdg (defBody s__law_part) "ask" q k (TTpart C z) := by
  intro f c' s H Q tl act hc hr h
  have cHE : ∃ u, X.mg "HandError" = some u ∧ RelV (.ref B) u := ⟨_, T.gB, rfl⟩
  have cBN : ∃ u, X.mg "BadNumber" = some u ∧ RelV (.ref C) u := ⟨_, T.gC, rfl⟩
  refine ⟨_, (pss_cons (ps_set (i := 1) sc__law_part.nd rfl (.inl rfl) pe_non)
      (pss_cons (ps_tryX (c := .ref B) (i := 2) (tb := fun W => tDrop (fun σZ HZ Q => σZ[0]? = some (some (.ref f)) ∧ HZ c' = some (CodeO c' q) ∧ tl (fun cls d H' => W cls d σZ H') HZ Q)) (ts := fun _ _ _ => tAsg (tVar 2) (gName 1)) rfl rfl rfl sc__law_part.nd rfl (by rfl) ⟨by rfl, by decide, .inl T.gB⟩
          (fun W pn xe tk _ => pss_one (ps_expr (act W pn xe _ _ tk))) (fun a ob cls d pn _ _ => pss_one (ps_asg (pv 2) (pg_name (i := 1) sc__law_part.nd rfl (.inl rfl)))))
      (pss_cons (ps_if (pt_val (pe_callB (id := "isinstance") call_isX (by rfl) mi (by decide +kernel) (pa_cons (pv 1) (pa_cons (C8.pe_gc rfl cBN) pa_nil)))) (pss_one (ps_ret (pe_xg (pv 1)))) pss_nil)
      (pss_one (ps_ret (pe_ifExp (pt_cmpR op_isN (pv 1) pe_non (nomark _)) pe_non pe_str)))))), ?_⟩
  try dsimp only [cxOf, Cx.nox, Cx.wish]
  walk_at "go"
  refine ⟨hc, h _ fun d H' e kk => ⟨T.exm, fun a na => ?_⟩⟩
  walk_at "go"
  have ed : (upd H' a (ExV (.ref C) (some d) a)) d = some (.xd [("part", .str z)]) := (upd_ne (ne_of_none e na)).trans e
  refine ⟨a, C, d, _, _, _, _, rfl, upd_same, ed, T.exc, T.cls, fun u r => r, by unfold PySem.W.kitOne; exact if_pos (by simp), ?_⟩
  walk_at "go"
  refine iteT ?_
  walk_at "go"
  refine k_xg ?_
  walk_at "go"
  refine ⟨a, C, d, _, .str z, rfl, upd_same, ed, T.xf, T.noP, by simp [List.lookup], ?_⟩
  walk_at "go"
  exact kk _ (Same.new na)
theorem tells_part {P : Program} {w : World} {K : PySem.W.Frag} {mg : Str → Option Value} {base : Heap} {f C B : Addr} {fd : FuncData} {k : Nat} (F : Fun K "_law_part" "_law_part" s__law_part f fd) (gm : mg "_law_part" = some (.ref f)) (kp : PySem.W.keepIn K (.ref f) = true) (hb : Binds K fd ["ask"] [])
    (T : ErrT K mg "BadNumber" "HandError" C B) (mi : mg "isinstance" = none) : Tells P w K mg base "_law_part" k (TTpart C) := by
  obtain ⟨oc, od, kV, doc, pm, an, cdv, ct, osl, rfl, lk, hcd⟩ := F.ex
  refine ⟨f, "ask", _, _, _, _, kV, doc, pm, cdv, ct, oc, an, od, osl, ["ask", "caught", "error"], gm, kp, lk, hcd, hb, sc__law_part, rfl, by exact .inl rfl, by decide, by decide, fun X q z e1 e2 e3 e4 e5 _ => ?_⟩
  subst e1
  subst e2
  subst e3
  subst e4
  subst e5
  exact gives_part T mi
end K21

namespace K21
open PySem PySem.Spec PyProof.Rows L2 Nd LamX
theorem p2 (t : Nat) : (2:Int)^t ≠ 0 := Int.ne_of_gt (Int.pow_pos (by decide))
theorem dy_add (u v : Int) (t : Nat) : Rat.divInt u (2^t) + Rat.divInt v (2^t) = Rat.divInt (u+v) (2^t) := by
  rw [Rat.divInt_add_divInt _ _ (p2 t) (p2 t), ← Int.add_mul]
  exact Rat.divInt_mul_right (p2 t)
theorem dy_mul (u v : Int) (a b : Nat) : Rat.divInt u (2^a) * Rat.divInt v (2^b) = Rat.divInt (u*v) (2^(a+b)) := by
  rw [Rat.divInt_mul_divInt, Int.pow_add]
theorem dy_up (u : Int) (a b : Nat) : Rat.divInt u (2^a) = Rat.divInt (u*2^b) (2^(a+b)) := by
  rw [Int.pow_add]
  exact (Rat.divInt_mul_right (p2 b)).symm
theorem dy_le {u v : Int} (t : Nat) (h : u ≤ v) : Rat.divInt u (2^t) ≤ Rat.divInt v (2^t) := by
  have p : (0:Int) < 2^t := Int.pow_pos (by decide)
  have e := dy_add u (v - u) t
  rw [show u + (v - u) = v by omega] at e
  have n : 0 ≤ Rat.divInt (v - u) (2^t) := (Rat.divInt_nonneg_iff_of_pos_right p).mpr (by omega)
  rw [← e]
  grind
theorem fb_self (far : Nat) : fb far far = far := by unfold fb; rw [Nat.sub_self]; simp
theorem row_last (m : Nat) : rowR (m + 1) m = Rat.divInt 1 (2 ^ (m + 1)) := by
  rw [rowR, fb_self, fsR, fst_self _ (by omega)]; rfl
theorem fst_four {far k : Nat} (h1 : 1 ≤ far) : ((fst (far : Int) (far + 2 * k + 2) : Int) - 4 * (fst (far : Int) (far + 2 * k) : Int)) * (((k : Int) + 1) * ((far : Int) + k + 1)) = ((far : Int) * far - 3 * far - 6 * k - 4) * (fst (far : Int) (far + 2 * k) : Int) := by
  have := fst_two (far := far) (k := k) h1
  grind
theorem fs_two {far k : Nat} : fsR (far : Int) (far + 2 * k) = Rat.divInt (4 * (fst (far : Int) (far + 2 * k) : Int)) (2 ^ (far + 2 * k + 2)) := by
  rw [fsR, dy_up _ _ 2]
  congr 1
  omega
theorem fs_grow {far k : Nat} (h1 : 1 ≤ far) (h : 3 * (far + 2 * k) + 4 ≤ far * far) : fsR (far : Int) (far + 2 * k) ≤ fsR (far : Int) (far + 2 * k + 2) := by
  rw [fs_two, fsR]
  refine dy_le _ ?_
  have e := fst_four (k := k) h1
  have p : 0 < (((k : Int) + 1) * ((far : Int) + k + 1)) := Int.mul_pos (by omega) (by omega)
  have hI : (0 : Int) ≤ (far : Int) * far - 3 * far - 6 * k - 4 := by
    have : ((far * far : Nat) : Int) = (far : Int) * far := Int.natCast_mul _ _
    rw [← this]
    omega
  have n : 0 ≤ ((fst (far : Int) (far + 2 * k + 2) : Int) - 4 * (fst (far : Int) (far + 2 * k) : Int)) * (((k : Int) + 1) * ((far : Int) + k + 1)) := by
    rw [e]
    exact Int.mul_nonneg hI (by omega)
  have := Int.nonneg_of_mul_nonneg_left n p
  omega
theorem fs_same {far k : Nat} (h1 : 1 ≤ far) (h : 3 * (far + 2 * k) + 4 = far * far) : fsR (far : Int) (far + 2 * k + 2) = fsR (far : Int) (far + 2 * k) := by
  rw [fs_two, fsR]
  congr 1
  have e := fst_four (k := k) h1
  have p : (((k : Int) + 1) * ((far : Int) + k + 1)) ≠ 0 := Int.ne_of_gt (Int.mul_pos (by omega) (by omega))
  have hI : (far : Int) * far - 3 * far - 6 * k - 4 = 0 := by
    have : ((far * far : Nat) : Int) = (far : Int) * far := Int.natCast_mul _ _
    rw [← this]
    omega
  rw [hI, Int.zero_mul] at e
  rcases Int.mul_eq_zero.mp e with z | z
  · omega
  · exact absurd z p
theorem row_mono (t i : Nat) : rowR t i ≤ rowR (t + 1) i := by
  unfold rowR fb
  obtain ⟨far, hf⟩ : ∃ far, far = i + 1 := ⟨_, rfl⟩
  rw [← hf]
  obtain ⟨sq, hs⟩ : ∃ sq, sq = far * far := ⟨_, rfl⟩
  rw [← hs]
  by_cases h : min ((t + 1 - far) / 2) ((sq + 1 - 3 * far) / 6) = min ((t - far) / 2) ((sq + 1 - 3 * far) / 6)
  · rw [h]
    exact Rat.le_refl
  · obtain ⟨k, hk⟩ : ∃ k, k = min ((t - far) / 2) ((sq + 1 - 3 * far) / 6) := ⟨_, rfl⟩
    rw [show min ((t + 1 - far) / 2) ((sq + 1 - 3 * far) / 6) = k + 1 by omega, ← hk, show far + 2 * (k + 1) = far + 2 * k + 2 by omega]
    exact fs_grow (by omega) (by omega)
theorem sum_mono (t : Nat) : ∀ n : Nat, sumR t n ≤ sumR (t + 1) n
  | 0 => Rat.le_refl
  | n + 1 => by
    have h1 := sum_mono t n
    have h2 := row_mono t n
    rw [sumR, sumR]
    grind
theorem fs_nonneg (far : Int) (t : Nat) : 0 ≤ fsR far t := by
  have p : (0 : Int) < 2 ^ t := Int.pow_pos (by decide)
  exact (Rat.divInt_nonneg_iff_of_pos_right p).mpr (by omega)

theorem sum_le {s : Nat} : ∀ (d n : Nat), sumR s n ≤ sumR (s + d) n
  | 0, n => Rat.le_refl
  | d + 1, n => Rat.le_trans (sum_le d n) (sum_mono (s + d) n)
theorem row_nonneg (t i : Nat) : 0 ≤ rowR t i := fs_nonneg _ _
theorem sum_more (t n : Nat) : ∀ d : Nat, sumR t n ≤ sumR t (n + d)
  | 0 => Rat.le_refl
  | d + 1 => by
    have h1 := sum_more t n d
    have h2 := row_nonneg t (n + d)
    rw [show n + (d + 1) = n + d + 1 by omega, sumR]
    grind
theorem reach_le {t s : Nat} (h : t ≤ s) : sumR t t ≤ sumR s s := by
  obtain ⟨d, rfl⟩ : ∃ d, s = t + d := ⟨s - t, by omega⟩
  exact Rat.le_trans (sum_le d t) (sum_more (t + d) t d)
theorem reach_lt (t : Nat) : sumR t t < sumR (t + 1) (t + 1) := by
  have h1 := sum_mono t t
  have h2 := row_last t
  have h3 : (0 : Rat) < Rat.divInt 1 (2 ^ (t + 1)) := by
    have p : (0 : Int) < 2 ^ (t + 1) := Int.pow_pos (by decide)
    refine Classical.byContradiction fun c => ?_
    have c2 := Rat.not_lt.mp c
    have e := dy_add 1 (-1) (t + 1)
    rw [show (1 : Int) + -1 = 0 by decide, Rat.zero_divInt] at e
    have n : 0 ≤ Rat.divInt (-1) (2 ^ (t + 1)) := by grind
    exact absurd ((Rat.divInt_nonneg_iff_of_pos_right p).mp n) (by decide)
  rw [show sumR (t + 1) (t + 1) = sumR (t + 1) t + rowR (t + 1) t from rfl, h2]
  grind
/-! own counting, quickly -/
def nF (far : Nat) : Nat → Nat
  | 0 => far
  | m + 1 => nF far m * (far + 2 * m + 1) * (far + 2 * m + 2) / ((m + 1) * (m + 1 + far))
theorem nF_eq {far : Nat} (h : 1 ≤ far) : ∀ m : Nat, nF far m = tk far m * aF far m
  | 0 => by
    rw [nF]
    unfold tk aF
    rw [show tk far 0 = far by unfold tk; omega, fst_self far h]
    omega
  | m + 1 => by
    rw [nF, nF_eq h m]
    have e := fst_two (far := far) (k := m) h
    have e2 : aF far (m + 1) * ((m + 1) * (far + m + 1)) = (tk far m * (tk far m + 1)) * aF far m := by
      unfold aF
      rw [show tk far (m + 1) = far + 2 * m + 2 by unfold tk; omega]
      unfold tk
      have : (((fst (far : Int) (far + 2 * m + 2)) * ((m + 1) * (far + m + 1)) : Nat) : Int) = ((((far + 2 * m) * (far + 2 * m + 1)) * fst (far : Int) (far + 2 * m) : Nat) : Int) := by
        simp only [Int.natCast_mul, Int.natCast_add, Int.natCast_one]
        exact e
      exact_mod_cast this
    have e3 : tk far m * aF far m * (far + 2 * m + 1) * (far + 2 * m + 2) = (tk far (m + 1) * aF far (m + 1)) * ((m + 1) * (m + 1 + far)) := by
      have t1 : tk far (m + 1) = far + 2 * m + 2 := by unfold tk; omega
      have t0 : tk far m = far + 2 * m := rfl
      rw [t1, show (m + 1) * (m + 1 + far) = (m + 1) * (far + m + 1) by rw [show m + 1 + far = far + m + 1 by omega]]
      have : (far + 2 * m + 2) * aF far (m + 1) * ((m + 1) * (far + m + 1)) = (far + 2 * m + 2) * (aF far (m + 1) * ((m + 1) * (far + m + 1))) := by rw [Nat.mul_assoc]
      rw [this, e2, t0]
      grind
    rw [e3]
    exact Nat.mul_div_cancel _ (Nat.mul_pos (by omega) (by omega))
/-- the greatest share of far up to T, times 2 ** T -/
def gF (T far : Nat) : Nat := nF far (min ((T - far) / 2) ((far * far + 1 - 3 * far) / 6)) * 2 ^ (T - fb far T) / fb far T
def SF (T : Nat) : Nat → Nat
  | 0 => 0
  | n + 1 => SF T n + gF T (n + 1)
theorem gF_eq {T far : Nat} (h : 1 ≤ far) (h2 : far ≤ T) : fsR (far : Int) (fb far T) = Rat.divInt (gF T far : Int) (2 ^ T) := by
  have hb := fb_le h2
  have e : gF T far = fst (far : Int) (fb far T) * 2 ^ (T - fb far T) := by
    unfold gF
    rw [nF_eq h]
    change (fb far T * fst (far : Int) (fb far T)) * 2 ^ (T - fb far T) / fb far T = _
    rw [Nat.mul_assoc]
    exact Nat.mul_div_cancel_left _ (by unfold fb; omega)
  rw [e, fsR, dy_up _ _ (T - fb far T), show fb far T + (T - fb far T) = T by omega, Int.natCast_mul, ← two_cast]
theorem SF_eq (T : Nat) : ∀ n : Nat, n ≤ T → sumR T n = Rat.divInt (SF T n : Int) (2 ^ T)
  | 0, _ => by
    rw [SF, Int.natCast_zero, Rat.zero_divInt]
    rfl
  | n + 1, h => by
    rw [sumR, SF_eq T n (by omega), rowR, gF_eq (by omega) h, dy_add, SF, Int.natCast_add]
theorem rg2 {far most : Nat} (h : far ≤ most) (hm : most ≤ 1000) : RgC (far : Int) ((most : Int) + 1) 2 ((most - far) / 2 + 1) := by
  have e : Builtin.Range.rangeSize (far : Int) ((most : Int) + 1) 2 = (((most - far) / 2 + 1 : Nat) : Int) := by
    unfold Builtin.Range.rangeSize
    rw [if_pos (by decide), if_pos (by omega)]
    omega
  refine ⟨by decide, by decide, ?_, e⟩
  unfold Builtin.Range.small
  rw [e]
  have fl : ∀ x : Int, -1000000 ≤ x → x ≤ 1000000 → Builtin.Range.rangeFitsLong x = true := fun x h1 h2 => by
    unfold Builtin.Range.rangeFitsLong
    simp
    omega
  rw [fl (far : Int) (by omega) (by omega), fl ((most : Int) + 1) (by omega) (by omega), fl 2 (by decide) (by decide), fl (((most - far) / 2 + 1 : Nat) : Int) (by omega) (by omega), if_pos (by decide), fl ((most : Int) + 1 + (2 - 1)) (by omega) (by omega)]
  simp
theorem k_iR3 {ta : TA} {σ : L2.St} {H : Hp} {R : It → Hp → Prop} (h : ta σ H fun vs H1 => ∃ (i j c : Int) (n : Nat), vs = [.int i, .int j, .int c] ∧ RgC i j c n ∧ R (Itc i c n) H1) : iRng3 ta σ H R := h
theorem walk_zipTm {K : PySem.W.Frag} {a b : Addr} {xs ys : List V} {n : Nat} (h1 : xs.length = n) (h2 : n ≤ ys.length) : Walk (RZ.ItzT K a b) n (fun H => SqT K H a xs ∧ SqT K H b ys) (YPair (fun i => xs[i]?) (fun i => ys[i]?)) where
  goes i H hi q := ⟨xs, ys, xs[i], ys[i], q.1, q.2, by simp [h1, hi], by simp [show i < ys.length by omega]⟩
  stops H q := ⟨xs, ys, q.1, q.2, .inl (by omega)⟩
  yields i H v H' _ q y := by
    obtain ⟨T, x, z, g1, g2, g3, g4, g5⟩ := y
    exact ⟨T, x, z, g1, g2, g3, g4 xs q.1, g5 ys q.2⟩
/-- own search: what is found among the first m ticks -/
def gP (far : Nat) : Nat → Nat × Nat
  | 0 => (0, 1)
  | m + 1 => (tk far (min m (jF far)) * aF far (min m (jF far)), tk far (min m (jF far)) * 2 ^ tk far (min m (jF far)))
theorem gP_step {far m : Nat} (h : 1 ≤ far) : gP far (m + 1) = if (gP far m).1 * tk far m * 2 ^ tk far m < tk far m * aF far m * (gP far m).2 then (tk far m * aF far m, tk far m * 2 ^ tk far m) else gP far m := by
  cases m with
  | zero =>
    have p := fst_pos (m := 0) h
    rw [gP, gP, Nat.zero_min, if_pos]
    simp only [Nat.zero_mul, Nat.mul_one]
    exact Nat.mul_pos (by unfold tk; omega) p
  | succ k =>
    have t0 : ∀ j, 0 < tk far j := fun j => by unfold tk; omega
    have key : ∀ j, (tk far j * aF far j * tk far (k + 1) * 2 ^ tk far (k + 1) < tk far (k + 1) * aF far (k + 1) * (tk far j * 2 ^ tk far j)) ↔ LS far (tk far j) (tk far (k + 1)) = true := fun j => by
      unfold LS
      rw [decide_eq_true_iff]
      change _ ↔ aF far j * 2 ^ tk far (k + 1) < aF far (k + 1) * 2 ^ tk far j
      rw [show tk far j * aF far j * tk far (k + 1) * 2 ^ tk far (k + 1) = (tk far j * tk far (k + 1)) * (aF far j * 2 ^ tk far (k + 1)) by grind, show tk far (k + 1) * aF far (k + 1) * (tk far j * 2 ^ tk far j) = (tk far j * tk far (k + 1)) * (aF far (k + 1) * 2 ^ tk far j) by grind]
      exact Nat.mul_lt_mul_left (Nat.mul_pos (t0 _) (t0 _))
    rw [gP, gP]
    dsimp only
    by_cases h1 : k + 1 ≤ jF far
    · rw [Nat.min_eq_left h1, Nat.min_eq_left (show k ≤ jF far by omega), if_pos]
      rw [key]
      obtain ⟨e, _⟩ := LS_tk far k 1
      have up := a_up (m := k) h (jF_lt.mp (by omega))
      rw [e]
      exact decide_eq_true (by omega)
    · rw [Nat.min_eq_right (show jF far ≤ k + 1 by omega), Nat.min_eq_right (show jF far ≤ k by omega), if_neg]
      rw [key]
      obtain ⟨d, hd⟩ : ∃ d, k + 1 = jF far + d := ⟨k + 1 - jF far, by omega⟩
      obtain ⟨e, _⟩ := LS_tk far (jF far) d
      have ch := a_chain h (Nat.le_refl (jF far)) d
      rw [hd, e]
      simp only [decide_eq_true_iff]
      omega
theorem gP_fin {far most : Nat} (h : far ≤ most) : gP far ((most - far) / 2 + 1) = (fb far most * fst (far : Int) (fb far most), fb far most * 2 ^ fb far most) := rfl
def Sm (q : Rat) : Prop := q.num.natAbs < 10 ^ 65 ∧ q.den < 10 ^ 65
theorem show_fqs : ∀ qs : List Rat, (∀ q ∈ qs, Sm q) → PyData.showableAll (qs.map fq) = true := by
  intro qs
  induction qs with
  | nil => intro _; simp [PyData.showableAll]
  | cons q qs ih =>
    intro h
    have hq := h q (by simp)
    have l1 : q.num.natAbs.log2 < 1920 := Nat.lt_of_lt_of_le (PySem.Flt.log2_lt_of (k := 300) (by decide) (Nat.lt_of_lt_of_le hq.1 (by decide))) (by decide)
    have l2 : q.den.log2 < 1920 := Nat.lt_of_lt_of_le (PySem.Flt.log2_lt_of (k := 300) (by decide) (Nat.lt_of_lt_of_le hq.2 (by decide))) (by decide)
    have := ih fun z hz => h z (by simp [hz])
    simp [PyData.showableAll, PyData.showable, fq, l1, l2]
    exact this
theorem short_fqs : ∀ qs : List Rat, (∀ q ∈ qs, Sm q) → PyData.leavesShortAll 66 (qs.map fq) = true := by
  intro qs
  induction qs with
  | nil => intro _; simp [PyData.leavesShortAll]
  | cons q qs ih =>
    intro h
    have hq := h q (by simp)
    have b1 : (PyData.shown (.int q.num)).length ≤ 66 := by
      have e := int_text_length_le10 (k := 65) (by decide) hq.1
      change (Str.ofString (toString q.num)).length ≤ 66
      rw [PySem.ofString_length]
      exact e
    have b2 : (PyData.shown (.int (q.den : Int))).length ≤ 66 := by
      have e := int_text_length_le10 (k := 65) (a := (q.den : Int)) (by decide) (by rw [Int.natAbs_natCast]; exact hq.2)
      change (Str.ofString (toString (q.den : Int))).length ≤ 66
      rw [PySem.ofString_length]
      exact e
    have := ih fun z hz => h z (by simp [hz])
    simp [PyData.leavesShortAll, PyData.leavesShort, fq, b1, b2]
    exact this
theorem weight_fqs : ∀ qs : List Rat, (∀ q ∈ qs, Sm q) → PyData.weightAll (qs.map fq) ≤ 450 * qs.length := by
  intro qs
  induction qs with
  | nil => intro _; simp [PyData.weightAll]
  | cons q qs ih =>
    intro h
    have hq := h q (by simp)
    have l1 : q.num.natAbs.log2 < 217 := PySem.Flt.log2_lt_of (k := 217) (by decide) (Nat.lt_of_lt_of_le hq.1 (by decide))
    have l2 : q.den.log2 < 217 := PySem.Flt.log2_lt_of (k := 217) (by decide) (Nat.lt_of_lt_of_le hq.2 (by decide))
    have := ih fun z hz => h z (by simp [hz])
    simp [PyData.weightAll, PyData.weight, fq]
    split <;> split <;> omega
theorem repQ {qs : List Rat} (hn : qs.length ≤ 60) (h : ∀ q ∈ qs, Sm q) : PyData.showable (.list [.tuple (qs.map fq), .tuple (qs.map fq)]) = true ∧ PyData.depth (.list [.tuple (qs.map fq), .tuple (qs.map fq)]) ≤ 60 ∧ (PyData.shown (.list [.tuple (qs.map fq), .tuple (qs.map fq)])).length ≤ sizeLine := by
  refine ⟨?_, ?_, ?_⟩
  · have := show_fqs qs h
    simp [PyData.showable, PyData.showableAll, this]
  · have := depFqs qs
    simp [PyData.depth, PyData.depthAll]
    omega
  · have a := PyData.shown_le 66 (by decide) (.list [.tuple (qs.map fq), .tuple (qs.map fq)]) (by
      have := short_fqs qs h
      simp [PyData.leavesShort, PyData.leavesShortAll, this])
    have b : PyData.weight (.list [.tuple (qs.map fq), .tuple (qs.map fq)]) ≤ 60000 := by
      have := weight_fqs qs h
      simp [PyData.weight, PyData.weightAll]
      omega
    exact Nat.le_trans a (Nat.le_trans (Nat.add_le_add_right (Nat.mul_le_mul_left _ b) _) (show (66 + 2) * 60000 + 66 ≤ sizeLine by decide))
theorem repF {qs : List Rat} (hn : qs.length ≤ 60) (h : ∀ q ∈ qs, Sm q) : PyData.showable (.list (qs.map fq)) = true ∧ PyData.depth (.list (qs.map fq)) ≤ 60 ∧ (PyData.shown (.list (qs.map fq))).length ≤ sizeLine := by
  refine ⟨?_, ?_, ?_⟩
  · have := show_fqs qs h
    simp [PyData.showable, this]
  · have := depFqs qs
    simp [PyData.depth]
    omega
  · have a := PyData.shown_le 66 (by decide) (.list (qs.map fq)) (by
      have := short_fqs qs h
      simp [PyData.leavesShort, this])
    have b : PyData.weight (.list (qs.map fq)) ≤ 60000 := by
      have := weight_fqs qs h
      simp [PyData.weight]
      omega
    exact Nat.le_trans a (Nat.le_trans (Nat.add_le_add_right (Nat.mul_le_mul_left _ b) _) (show (66 + 2) * 60000 + 66 ≤ sizeLine by decide))
theorem sm_dy {u : Int} {t n : Nat} (hu : u.natAbs ≤ n * 2 ^ t) (hn : n ≤ 200) (ht : t ≤ 200) : Sm (Rat.divInt u (2 ^ t)) := by
  have h1 := divInt_le (u := u) (p2 t)
  have h2 : ((2 : Int) ^ t).natAbs = 2 ^ t := by rw [two_cast, Int.natAbs_natCast]
  rw [h2] at h1
  have h3 : (2 : Nat) ^ t ≤ 2 ^ 200 := Nat.pow_le_pow_right (by decide) ht
  have h4 : n * 2 ^ t ≤ 200 * 2 ^ 200 := Nat.mul_le_mul hn h3
  have h5 : 200 * 2 ^ 200 < 10 ^ 65 := by decide
  have h6 : 2 ^ 200 < 10 ^ 65 := by decide
  exact ⟨by omega, by omega⟩
theorem sm_row {t i : Nat} (h : i < t) (ht : t ≤ 200) : Sm (rowR t i) := by
  obtain ⟨u, e, b⟩ := dy_row h
  rw [e]
  exact sm_dy (n := 1) (by omega) (by decide) ht
theorem sm_two {t : Nat} (ht : t ≤ 99) : Sm (2 * sumR t t) := by
  obtain ⟨u, e, b⟩ := dy_sum t (Nat.le_refl t)
  rw [e, show (2 : Rat) = Rat.divInt 2 (2 ^ 0) from rfl, dy_mul, Nat.zero_add]
  refine sm_dy (n := 2 * t) ?_ (by omega) (by omega)
  rw [Int.natAbs_mul, Nat.mul_assoc]
  exact Nat.mul_le_mul_left _ b
theorem den_le {t n : Nat} (h : n ≤ t) : (sumR t n).den ≤ 2 ^ t := by
  obtain ⟨u, e, b⟩ := dy_sum n h
  rw [e]
  have h1 := (divInt_le (u := u) (p2 t)).2
  rwa [two_cast, Int.natAbs_natCast, ← two_cast] at h1
theorem den_row {t i : Nat} (h : i < t) : (rowR t i).den ≤ 2 ^ t := by
  obtain ⟨u, e, b⟩ := dy_row h
  rw [e]
  have h1 := (divInt_le (u := u) (p2 t)).2
  rwa [two_cast, Int.natAbs_natCast, ← two_cast] at h1
theorem den_two {t : Nat} : (2 * sumR t t).den ≤ 2 ^ t := by
  obtain ⟨u, e, b⟩ := dy_sum t (Nat.le_refl t)
  rw [e, show (2 : Rat) = Rat.divInt 2 (2 ^ 0) from rfl, dy_mul, Nat.zero_add]
  have h1 := (divInt_le (u := 2 * u) (p2 t)).2
  rwa [two_cast, Int.natAbs_natCast, ← two_cast] at h1
theorem big200 : 20 * SF 200 200 < 23 * 2 ^ 200 := by decide +kernel
end K21

namespace K21
open PySem PySem.Spec PyProof.Rows L2 Nd LamX
abbrev s__law_least : Stmt := top 30
theorem sc__law_least : FnScope ["up", "down", "one", "other"] ["up", "down"] (defScope s__law_least) := ⟨rfl, rfl, rfl, by decide +kernel, rfl, by decide +kernel, by decide +kernel⟩
abbrev s__law_greatest : Stmt := top 31
theorem sc__law_greatest : FnScope ["far", "most", "found", "number", "ticks", "half"] ["far", "most"] (defScope s__law_greatest) := ⟨rfl, rfl, rfl, by decide +kernel, rfl, by decide +kernel, by decide +kernel⟩
def spLeast : Sp := fun vs H Q _ => ∃ u w : Int, vs = [.int u, .int w] ∧ 0 < w ∧ w.natAbs < 2 ^ 8000 ∧ ∀ H' v, Same H H' → FrN H H' v (Rat.divInt u w) → Q v H'
section
variable {P : Program} {w : World} {K : PySem.W.Frag} {mg : Str → Option Value} {base : Heap}
theorem ok_least {f : Addr} {fd : FuncData} (F : Fun K "_law_least" "_law_least" s__law_least f fd) (T : Txt mg) : FnG P w K mg base CX0 1 f fd ["up", "down"] spLeast := by
  refine okG0 F sc__law_least (fun vs H Q E h => ?_) (fun cdv A outer s H vs Q E hG hr h => ?_)
  · obtain ⟨u, w, rfl, _⟩ := h
    rfl
  · obtain ⟨u, w, rfl, w0, hw, q⟩ := h
    refine ⟨_, (pss_cons (ps_par (i := 2) (j := 3) (by rfl) sc__law_least.nd rfl rfl (by decide) rfl rfl (pa_cons (pe_callB (id := "abs") call_abs (by rfl) T.m_abs (by decide +kernel) (pa_cons (pv 0) pa_nil)) (pa_cons (pv 1) pa_nil)) (by rfl))
      (pss_cons (ps_while PassesOwn.never (pt_cmpR op_gt (pv 3) pe_int (nomark _)) (pss_one (ps_par (i := 2) (j := 3) (by rfl) sc__law_least.nd rfl rfl (by decide) rfl rfl (pa_cons (pv 3) (pa_cons (pe_op op_mod (pe_callTy call_int1 (by rfl) T.m_int (by decide +kernel) (pa_cons (pv 2) pa_nil)) (pv 3)) pa_nil)) (by rfl))))
      (pss_one (ps_ret (pe_tup (pa_cons (pe_op op_fdivZ (pv 0) (pv 2)) (pa_cons (pe_op op_fdivZ (pv 1) (pv 2)) pa_nil))))))), ?_⟩
    try dsimp only [cxOf, Cx.nox, Cx.wish]
    walk_at "go"
    have ab : ∀ x : Int, (if x < 0 then -x else x) = (x.natAbs : Int) := fun x => by omega
    rw [ab]
    refine k_while (fun m σ H' => ∃ x y : Nat, σ = [some (.int u), some (.int w), some (.int x), some (.int y)] ∧ y = m ∧ Same H H' ∧ Nat.gcd x y = Nat.gcd u.natAbs w.natAbs) w.natAbs
      ⟨u.natAbs, w.natAbs, by rw [show ((w.natAbs : Nat) : Int) = w by omega]; rfl, rfl, Same.refl _, rfl⟩ (fun m σ H' hW => ?_)
    obtain ⟨x, y, rfl, rfl, s1, e⟩ := hW
    walk_at "go"
    refine ite2 (fun h => ?_) (fun h => ?_)
    · have h' : (0 : Int) < (y : Int) := of_decide_eq_true h
      refine ⟨fun σ' H' => ∃ m', m' < y ∧ ∃ x y : Nat, σ' = [some (.int u), some (.int w), some (.int x), some (.int y)] ∧ y = m' ∧ Same H H' ∧ Nat.gcd x y = Nat.gcd u.natAbs w.natAbs, fun _ _ z => z, ?_⟩
      walk_at "go"
      refine k_I h' ?_
      walk_at "go"
      refine ⟨x % y, Nat.mod_lt _ (by omega), y, x % y, ?_, rfl, s1, by rw [gcd_turn]; exact e⟩
      rw [← Int.natCast_emod]
      rfl
    · have h' : y = 0 := by
        have : ¬ (0 : Int) < (y : Int) := fun z => h (decide_eq_true z)
        omega
      subst h'
      rw [Nat.gcd_zero_right] at e
      have er : ((x : Nat) : Int) = redG u w := by rw [e, redG, if_neg (by omega)]
      have ok := redG_ok (u := u) (Int.ne_of_gt w0) hw (by decide) (by decide)
      walk_at "go"
      rw [er]
      refine k_I ok ?_
      walk_at "go"
      refine k_I ok ?_
      walk_at "go"
      refine ⟨small64 (by simp), fun p hp => ?_⟩
      refine q _ _ (s1.trans (Same.new hp)) (FrN.from s1 ⟨p, rfl, hp, ?_⟩)
      rw [upd_same, red_up (Int.ne_of_gt w0), red_down (Int.ne_of_gt w0)]
theorem nF_lt {far m : Nat} (h : 1 ≤ far) (hm : tk far m ≤ 260) : (nF far m : Int).natAbs < 2 ^ 400 := by
  rw [nF_eq h, Int.natAbs_natCast]
  have c : aF far m < 2 ^ 300 := Nat.lt_of_le_of_lt (fst_le _ _) (Nat.pow_lt_pow_right (by decide) (by omega))
  exact Nat.lt_of_lt_of_le (Nat.mul_lt_mul'' (show tk far m < 2 ^ 64 by omega) c) (by decide +kernel)
theorem gP_lt {far m : Nat} (h : 1 ≤ far) (hm : tk far m ≤ 262) : ((gP far m).1 : Int).natAbs < 2 ^ 400 ∧ ((gP far m).2 : Int).natAbs < 2 ^ 400 := by
  cases m with
  | zero => exact ⟨by rw [gP]; decide, by rw [gP]; decide⟩
  | succ k =>
    have e : tk far (min k (jF far)) ≤ 260 := by
      have := Nat.min_le_left k (jF far)
      unfold tk at hm ⊢
      omega
    have a := nF_lt (m := min k (jF far)) h e
    rw [nF_eq h] at a
    refine ⟨a, ?_⟩
    change (((tk far (min k (jF far)) * 2 ^ tk far (min k (jF far)) : Nat)) : Int).natAbs < _
    rw [Int.natAbs_natCast]
    have c : 2 ^ tk far (min k (jF far)) < 2 ^ 300 := Nat.pow_lt_pow_right (by decide) (by omega)
    exact Nat.lt_of_lt_of_le (Nat.mul_lt_mul'' (show tk far (min k (jF far)) < 2 ^ 64 by omega) c) (by decide +kernel)
theorem mul_lt4 {x y : Int} (h : x.natAbs < 2 ^ 400) (hy : y.natAbs < 2 ^ 64) : (x * y).natAbs < 2 ^ 500 := by
  rw [Int.natAbs_mul]
  exact Nat.lt_of_lt_of_le (Nat.mul_lt_mul'' h hy) (by decide +kernel)
/-- at p, new: a pair of whole numbers -/
def PairN (H H' : Hp) (v : V) (u : Nat × Nat) : Prop := ∃ p, v = .ref p ∧ H p = none ∧ H' p = some (.tup [.int (u.1 : Int), .int (u.2 : Int)])
def spGr : Sp := fun vs H Q _ => ∃ (far most : Nat), vs = [.int (far : Int), .int (most : Int)] ∧ 1 ≤ far ∧ far ≤ most ∧ most ≤ 200 ∧ ∀ H' v, Same H H' → PairN H H' v (gP far ((most - far) / 2 + 1)) → Q v H'
theorem ok_greatest {f : Addr} {fd : FuncData} (F : Fun K "_law_greatest" "_law_greatest" s__law_greatest f fd) (T : TxtC mg) : FnG P w K mg base CX0 1 f fd ["far", "most"] spGr := by
  refine okG0 F sc__law_greatest (fun vs H Q E h => ?_) (fun cdv A outer s H vs Q E hG hr h => ?_)
  · obtain ⟨far, most, rfl, _⟩ := h
    rfl
  · obtain ⟨far, most, rfl, h1, h2, h3, q⟩ := h
    refine ⟨_, (pss_cons (ps_par (i := 2) (j := 3) (by rfl) sc__law_greatest.nd rfl rfl (by decide) rfl rfl (pa_cons (pe_tup (pa_cons pe_int (pa_cons pe_int pa_nil))) (pa_cons (pv 0) pa_nil)) (by rfl))
      (pss_cons (ps_for PassesOwn.never rfl (pi_range3 rfl T.m_range (pa_cons (pv 0) (pa_cons (pe_op op_add (pv 1) pe_int) (pa_cons pe_int pa_nil)))) (pg_name (i := 4) sc__law_greatest.nd rfl (.inl rfl)) (pss_cons (ps_if (pt_cmpR op_gt (pe_op op_mulW (pv 3) (pe_ix ix_tup (pv 2) pe_int (fun _ _ => rfl))) (pe_op op_shlW (pe_op op_mulW (pe_ix ix_tup (pv 2) pe_int (fun _ _ => rfl)) (pv 4)) (pv 4)) (nomark _)) (pss_one (ps_set (i := 2) sc__law_greatest.nd rfl (.inl rfl) (pe_tup (pa_cons (pv 3) (pa_cons (pe_op op_shl (pv 4) (pv 4)) pa_nil))))) pss_nil)
      (pss_cons (ps_set (i := 5) sc__law_greatest.nd rfl (.inl rfl) (pe_op op_add (pe_op op_fdiv (pe_op op_sub (pv 4) (pv 0)) pe_int) pe_int))
      (pss_one (ps_set (i := 3) sc__law_greatest.nd rfl (.inl rfl) (pe_op op_fdivW (pe_op op_mulW (pe_op op_mulW (pv 3) (pe_op op_add (pv 4) pe_int)) (pe_op op_add (pv 4) pe_int)) (pe_op op_mul (pv 5) (pe_op op_add (pv 5) (pv 0)))))))))
      (pss_one (ps_ret (pv 2))))), ?_⟩
    try dsimp only [cxOf, Cx.nox, Cx.wish]
    walk_at "go"
    refine ⟨small64 (by simp), fun pf hpf => ?_⟩
    generalize hU : upd _ pf _ = H1
    obtain ⟨s1, e1⟩ := upd_facts hU hpf
    clear hU
    walk_at "go"
    refine k_iR3 ?_
    walk_at "go"
    refine ⟨_, _, _, _, rfl, rg2 h2 (by omega), ?_⟩
    refine forIn_it walk_rangeC (fun m σ' Hd => Same H Hd ∧ ∃ pf y4 y5, σ' = [some (.int (far : Int)), some (.int (most : Int)), some (.ref pf), some (.int (nF far m : Int)), y4, y5] ∧ H pf = none ∧ Hd pf = some (.tup [.int ((gP far m).1 : Int), .int ((gP far m).2 : Int)]))
      ⟨s1, pf, _, _, rfl, hpf, e1⟩ (fun _ _ _ _ _ => trivial) (fun m x σ' Hd Hd' hm p y => ?_) (fun σ' Hd p => ?_)
    · obtain ⟨sd, pf, y4, y5, rfl, hpf, epf⟩ := p
      obtain ⟨rfl, rfl⟩ := y
      dsimp only
      rw [show (far : Int) + ((m : Nat) : Int) * 2 = ((tk far m : Nat) : Int) by unfold tk; omega]
      have htk : tk far m ≤ most := by unfold tk; omega
      obtain ⟨g1, g2⟩ := gP_lt (m := m) h1 (by omega)
      have nl := nF_lt (m := m) h1 (by omega)
      have gs := gP_step (m := m) h1
      walk_at "go"
      refine k_ixT (.inl (.inl epf)) rfl ?_
      refine k_I (wide_mul (a := 400) (b := 400) nl g2 (by decide) (by decide) (by decide)) ?_
      walk_at "go"
      refine k_ixT (.inl (.inl epf)) rfl ?_
      walk_at "go"
      refine k_I (wide_mul (a := 400) (b := 64) g1 (by omega) (by decide) (by decide) (by decide)) ?_
      walk_at "go"
      refine k_I (shl_ok (n := 500) (mul_lt4 g1 (by omega)) (by omega)) ?_
      walk_at "go"
      have cq : ((nF far m : Int) * ((gP far m).2 : Int) > ((gP far m).1 : Int) * ((tk far m : Nat) : Int) * 2 ^ ((tk far m : Nat) : Int).toNat) ↔ ((gP far m).1 * tk far m * 2 ^ tk far m < tk far m * aF far m * (gP far m).2) := by
        rw [nF_eq h1, Int.toNat_natCast, two_cast, ← Int.natCast_mul, ← Int.natCast_mul, ← Int.natCast_mul]
        exact Int.ofNat_lt
      refine ite2 (fun h => ?_) (fun h => ?_)
      · rw [if_pos (cq.mp (of_decide_eq_true h))] at gs
        walk_at "go"
        refine k_I ⟨by omega, by omega, by omega⟩ ?_
        walk_at "go"
        refine ⟨small64 (by simp), fun pg hpg => ?_⟩
        generalize hU : upd _ pg _ = Hg
        obtain ⟨sg, eg⟩ := upd_facts hU hpg
        clear hU
        walk_at "go"
        refine k_I ⟨by decide, by decide⟩ ?_
        walk_at "go"
        rw [show (((tk far m : Nat) : Int) - (far : Int)) / 2 + 1 = ((m + 1 : Nat) : Int) by unfold tk; omega]
        refine k_I (wide_mul (a := 400) (b := 64) nl (by omega) (by decide) (by decide) (by decide)) ?_
        walk_at "go"
        refine k_I (wide_mul (a := 500) (b := 64) (mul_lt4 nl (by omega)) (by omega) (by decide) (by decide) (by decide)) ?_
        walk_at "go"
        refine k_I (.inl ⟨by omega, by omega⟩) ?_
        walk_at "go"
        have hd : (((m + 1 : Nat) : Int) * (((m + 1 : Nat) : Int) + (far : Int))) = (((m + 1) * (m + 1 + far) : Nat) : Int) := by simp only [Int.natCast_mul, Int.natCast_add]
        have hdb : (m + 1) * (m + 1 + far) ≤ 400 * 800 := Nat.mul_le_mul (by unfold tk at htk; omega) (by unfold tk at htk; omega)
        have hdp : 0 < (m + 1) * (m + 1 + far) := Nat.mul_pos (by omega) (by omega)
        rw [hd]
        refine k_I ⟨by omega, Nat.lt_of_lt_of_le (PySem.Flt.log2_lt_of (k := 64) (by decide) (by omega)) (by decide)⟩ ?_
        walk_at "go"
        have ev : (nF far m : Int) * (((tk far m : Nat) : Int) + 1) * (((tk far m : Nat) : Int) + 2) / (((m + 1) * (m + 1 + far) : Nat) : Int) = (nF far (m + 1) : Int) := by
          rw [nF, Int.natCast_ediv]
          congr 1
        rw [ev]
        refine ⟨sd.trans sg, pg, _, _, rfl, sd.free hpg, ?_⟩
        rw [eg, gs, nF_eq h1, Int.toNat_natCast, two_cast]
        simp only [Int.natCast_mul]
      · rw [if_neg (fun z => h (decide_eq_true (cq.mpr z)))] at gs
        walk_at "go"
        refine k_I ⟨by decide, by decide⟩ ?_
        walk_at "go"
        rw [show (((tk far m : Nat) : Int) - (far : Int)) / 2 + 1 = ((m + 1 : Nat) : Int) by unfold tk; omega]
        refine k_I (wide_mul (a := 400) (b := 64) nl (by omega) (by decide) (by decide) (by decide)) ?_
        walk_at "go"
        refine k_I (wide_mul (a := 500) (b := 64) (mul_lt4 nl (by omega)) (by omega) (by decide) (by decide) (by decide)) ?_
        walk_at "go"
        refine k_I (.inl ⟨by omega, by omega⟩) ?_
        walk_at "go"
        have hd : (((m + 1 : Nat) : Int) * (((m + 1 : Nat) : Int) + (far : Int))) = (((m + 1) * (m + 1 + far) : Nat) : Int) := by simp only [Int.natCast_mul, Int.natCast_add]
        have hdb : (m + 1) * (m + 1 + far) ≤ 400 * 800 := Nat.mul_le_mul (by unfold tk at htk; omega) (by unfold tk at htk; omega)
        have hdp : 0 < (m + 1) * (m + 1 + far) := Nat.mul_pos (by omega) (by omega)
        rw [hd]
        refine k_I ⟨by omega, Nat.lt_of_lt_of_le (PySem.Flt.log2_lt_of (k := 64) (by decide) (by omega)) (by decide)⟩ ?_
        walk_at "go"
        have ev : (nF far m : Int) * (((tk far m : Nat) : Int) + 1) * (((tk far m : Nat) : Int) + 2) / (((m + 1) * (m + 1 + far) : Nat) : Int) = (nF far (m + 1) : Int) := by
          rw [nF, Int.natCast_ediv]
          congr 1
        rw [ev]
        exact ⟨sd, pf, _, _, rfl, hpf, by rw [gs]; exact epf⟩
    · obtain ⟨sd, pf, y4, y5, rfl, hpf, epf⟩ := p
      walk_at "go"
      exact q _ _ sd ⟨pf, rfl, hpf, epf⟩
end
end K21

namespace K21
open PySem PySem.Spec PyProof.Rows L2 Nd LamX
/-- at p: a pair of whole numbers -/
def PrAt (H : Hp) (v : V) (u : Nat × Nat) : Prop := ∃ p, v = .ref p ∧ H p = some (.tup [.int (u.1 : Int), .int (u.2 : Int)])
theorem PrAt.same {H H' : Hp} {v : V} {u : Nat × Nat} (h : PrAt H v u) (s : Same H H') : PrAt H' v u := by
  obtain ⟨p, e, h⟩ := h
  exact ⟨p, e, s _ _ h⟩
theorem PrAt.put {D : Addr} {H : Hp} {xs ys : List V} {v : V} {u : Nat × Nat} (h : PrAt H v u) (hD : H D = some (.lst xs)) : PrAt (upd H D (.lst ys)) v u := by
  obtain ⟨p, e, h⟩ := h
  refine ⟨p, e, ?_⟩
  rw [upd_ne]
  · exact h
  · rintro rfl
    rw [hD] at h
    cases h
theorem PairN.at {H H' : Hp} {v : V} {u : Nat × Nat} (h : PairN H H' v u) : PrAt H' v u := by
  obtain ⟨p, e, _, h⟩ := h
  exact ⟨p, e, h⟩
theorem lcIn_pr {lo : Int} {n : Nat} {j : Nat} {te : TE} {vs : List Nat} {σ : L2.St} {H1 : Hp} {Q : VK} (q : Nat → Nat × Nat) (hz : n ≤ 50000)
    (hw : ∀ x, wipe ((wipe σ vs).set j (some x)) vs = wipe σ vs)
    (step : ∀ i H2, i < n → Same H1 H2 → ∀ QE : VK, (∀ H4 y, Same H2 H4 → PrAt H4 y (q i) → QE y H4) → te ((wipe σ vs).set j (some (.int (lo + i)))) H2 QE)
    (fin : ∀ p H' ys, H1 p = none → Same H1 H' → H' p = some (.lst ys) → Paired (PrAt H') ys ((List.range n).map q) → Q (.ref p) H') :
    LcIn (Itr lo n) (gName j) tYes te vs σ H1 Q := fun D hD =>
  lc_range (lo := lo) (n := n) (fun i H => Same H1 H ∧ ∃ ys, H D = some (.lst ys) ∧ Paired (PrAt H) ys ((List.range i).map q)) ⟨Same.new hD, [], upd_same, .nil⟩
    (fun i H hi p => by
      obtain ⟨s1, ys, eD, hp⟩ := p
      refine ⟨hw _, ?_⟩
      refine k_tYes ?_
      rw [if_pos rfl]
      refine step i H hi s1 _ fun H4 y s4 hy => ?_
      have eD4 := s4 _ _ eD
      refine ⟨ys, eD4, ?_, fun b o e => ?_, ys ++ [y], upd_same, ?_⟩
      · rw [pairs_len hp, List.length_map, List.length_range]
        exact Nat.lt_of_lt_of_le hi (Nat.le_trans hz (by decide))
      · rw [upd_ne (ne_of_none e hD)]
        exact s4 _ _ (s1 _ _ e)
      · rw [List.range_succ, List.map_append]
        exact Paired.snoc (pairs_mono (fun _ _ h => PrAt.put (h.same s4) eD4) hp) (hy.put eD4))
    (fun H' p => by
      obtain ⟨s1, ys, eD, hp⟩ := p
      exact fin D H' ys hD s1 eD hp)
/-- over a list of pairs: fractions of them -/
theorem lcIn_prf {K : PySem.W.Frag} {a : Addr} {ys : List V} {us : Nat → Nat × Nat} {n i j : Nat} {te : TE} {vs : List Nat} {σ : L2.St} {H1 : Hp} {Q : VK} (q : Nat → Rat) (hx : SqL K H1 a ys) (hf : Paired (PrAt H1) ys ((List.range n).map us)) (hz : n ≤ 50000)
    (hw : ∀ x y, wipe (((wipe σ vs).set i (some x)).set j (some y)) vs = wipe σ vs)
    (step : ∀ m H2, m < n → Same H1 H2 → ∀ QE : VK, (∀ H4 y, Same H2 H4 → FrN H2 H4 y (q m) → QE y H4) → te (((wipe σ vs).set i (some (.int ((us m).1 : Int)))).set j (some (.int ((us m).2 : Int)))) H2 QE)
    (fin : ∀ p H' zs, H1 p = none → Same H1 H' → H' p = some (.lst zs) → Paired (FrN H1 H') zs ((List.range n).map q) → Q (.ref p) H') :
    LcIn (Itl K a) (gTup K 2 (gCons (gName i) (gCons (gName j) gNil))) tYes te vs σ H1 Q := fun D hD =>
  lc_list (xs := ys) (fun m H => Same H1 H ∧ ∃ zs, H D = some (.lst zs) ∧ Paired (FrN H1 H) zs ((List.range m).map q)) ⟨Same.new hD, [], upd_same, .nil⟩ (fun m H _ p => p.1.seq hx)
    (fun m y H hm p => by
      obtain ⟨s1, zs, eD, hp⟩ := p
      obtain ⟨z, hz1, f⟩ := Nd.paired_get hf hm
      have hlt : m < n := by
        have := (List.getElem?_eq_some_iff.mp hz1).1
        rwa [List.length_map, List.length_range] at this
      rw [List.getElem?_map, List.getElem?_range hlt] at hz1
      obtain rfl : us m = z := Option.some.inj hz1
      obtain ⟨pa, rfl, e⟩ := f
      refine k_gtup (.inl (.inl (s1 _ _ e))) rfl ?_
      refine k_gcons (k_gname (k_gcons (k_gname (k_gnil ?_))))
      refine ⟨hw _ _, ?_⟩
      refine k_tYes ?_
      rw [if_pos rfl]
      refine step m H hlt s1 _ fun H4 y s4 hy => ?_
      have eD4 := s4 _ _ eD
      refine ⟨zs, eD4, ?_, fun b o e => ?_, zs ++ [y], upd_same, ?_⟩
      · rw [pairs_len hp, List.length_map, List.length_range]
        exact Nat.lt_of_lt_of_le hlt (Nat.le_trans hz (by decide))
      · rw [upd_ne (ne_of_none e hD)]
        exact s4 _ _ (s1 _ _ e)
      · rw [List.range_succ, List.map_append]
        exact Paired.snoc (pairs_mono (fun _ _ h => FrN.put (h.same s4) eD4) hp) ((hy.from s1).put eD4))
    (fun H' p => by
      obtain ⟨s1, zs, eD, hp⟩ := p
      have hl := pairs_len hf
      rw [List.length_map, List.length_range] at hl
      exact fin D H' zs hD s1 eD (hl ▸ hp))
theorem wipe_get (σ : L2.St) (k : Nat) : ∀ vs : List Nat, (wipe σ vs)[k]? = if k ∈ vs then σ[k]?.map (fun _ => none) else σ[k]?
  | [] => by simp [wipe]
  | v :: vs => by
    have ih := wipe_get σ k vs
    rw [wipe, List.getElem?_set]
    by_cases e : v = k
    · subst e
      rw [if_pos rfl, if_pos (List.mem_cons_self ..), wipe_length]
      by_cases h : v < σ.length
      · rw [if_pos h]
        simp [h]
      · rw [if_neg h, List.getElem?_eq_none (by omega)]
        rfl
    · rw [if_neg e, ih]
      have : (k ∈ v :: vs) ↔ k ∈ vs := by simp [Ne.symm e]
      simp only [this]
theorem wipe_set {σ : L2.St} {i : Nat} {x : Option V} {vs : List Nat} (h : i ∈ vs) : wipe (σ.set i x) vs = wipe σ vs := List.ext_getElem? fun k => by
  rw [wipe_get, wipe_get]
  by_cases e : i = k
  · subst e
    rw [if_pos h, if_pos h, List.getElem?_set_self']
    cases σ[i]? <;> rfl
  · rw [List.getElem?_set_ne e]
theorem wipe_two (σ : L2.St) (vs : List Nat) : wipe (wipe σ vs) vs = wipe σ vs := List.ext_getElem? fun k => by
  rw [wipe_get, wipe_get]
  by_cases h : k ∈ vs
  · rw [if_pos h, if_pos h]
    cases σ[k]? <;> rfl
  · rw [if_neg h, if_neg h]
theorem wipe_four {σ : L2.St} {i j k l : Nat} (x y z w : Option V) : wipe (((((wipe σ [i, j, k, l]).set i x).set j y).set k z).set l w) [i, j, k, l] = wipe σ [i, j, k, l] := by
  rw [wipe_set (by simp), wipe_set (by simp), wipe_set (by simp), wipe_set (by simp), wipe_two]
/-- over two tuples of fractions at once: a test that says no each time -/
theorem lcIn_zipQ {K : PySem.W.Frag} {a b r : Addr} {xs ys : List V} {n n2 i j k l : Nat} {tt : TT} {te : TE} {vs : List Nat} {σ : L2.St} {H1 : Hp} {Q : VK} (q p : Nat → Rat) (hx : SqT K H1 a xs) (hy : SqT K H1 b ys) (fx : Paired (Nd.Fr r H1) xs ((List.range n).map q)) (fy : Paired (Nd.Fr r H1) ys ((List.range n2).map p)) (hn : n ≤ n2)
    (hw : ∀ x y z w, wipe (((((wipe σ vs).set i (some x)).set j (some y)).set k (some z)).set l (some w)) vs = wipe σ vs)
    (step : ∀ m H2, m < n → Same H1 H2 → ∀ QT : Bool → Hp → Prop, QT false H2 → tt (((((wipe σ vs).set i (some (.int (q m).num))).set j (some (.int ((q m).den : Int)))).set k (some (.int (p m).num))).set l (some (.int ((p m).den : Int)))) H2 QT)
    (fin : ∀ pp H', H1 pp = none → Same H1 H' → H' pp = some (.lst []) → Q (.ref pp) H') :
    LcIn (RZ.ItzT K a b) (gTup K 2 (gCons (gTup K 2 (gCons (gName i) (gCons (gName j) gNil))) (gCons (gTup K 2 (gCons (gName k) (gCons (gName l) gNil))) gNil))) tt te vs σ H1 Q := fun D hD =>
  have lx : xs.length = n := by rw [pairs_len fx, List.length_map, List.length_range]
  have ly : ys.length = n2 := by rw [pairs_len fy, List.length_map, List.length_range]
  lc_it (walk_zipTm lx (by omega)) (fun _ H => Same H1 H ∧ H D = some (.lst [])) ⟨Same.new hD, upd_same⟩ (fun _ H _ s => ⟨Same.seqT s.1 hx, Same.seqT s.1 hy⟩)
    (fun m v H H' hm s Y => by
      obtain ⟨s1, eD⟩ := s
      obtain ⟨T, x, y, rfl, hT, rfl, ex, ey⟩ := Y
      have sT : Same H (upd H T (.tup [x, y])) := Same.new hT
      obtain ⟨z1, hz1, f1⟩ := Nd.paired_get fx ex
      rw [List.getElem?_map, List.getElem?_range hm] at hz1
      obtain rfl : q m = z1 := Option.some.inj hz1
      obtain ⟨z2, hz2, f2⟩ := Nd.paired_get fy ey
      rw [List.getElem?_map, List.getElem?_range (by omega)] at hz2
      obtain rfl : p m = z2 := Option.some.inj hz2
      obtain ⟨p1, rfl, _, e1⟩ := f1
      obtain ⟨p2, rfl, _, e2⟩ := f2
      have s2 := s1.trans sT
      refine k_gtup (.inl (.inl upd_same)) rfl ?_
      refine k_gcons ?_
      refine k_gtup (.inl (.inl (s2 _ _ e1))) rfl ?_
      refine k_gcons (k_gname (k_gcons (k_gname (k_gnil ?_))))
      refine k_gcons ?_
      refine k_gtup (.inl (.inl (s2 _ _ e2))) rfl ?_
      refine k_gcons (k_gname (k_gcons (k_gname (k_gnil ?_))))
      refine k_gnil ?_
      refine ⟨hw _ _ _ _, ?_⟩
      refine step m _ hm s2 _ ?_
      rw [if_neg (by decide)]
      exact ⟨s2, sT _ _ eD⟩)
    (fun H' s => fin D H' hD s.1 s.2)
theorem two_div (q : Rat) : Rat.divInt (2 * q.num) (q.den : Int) = 2 * q := by
  rw [mul_divInt]
  change _ = Rat.divInt (2 * q.num) (((1 : Nat) : Int) * (q.den : Int))
  rw [Int.natCast_one, Int.one_mul]
theorem gP_rat {far most : Nat} (h1 : 1 ≤ far) (h : far ≤ most) : Rat.divInt ((gP far ((most - far) / 2 + 1)).1 : Int) ((gP far ((most - far) / 2 + 1)).2 : Int) = fsR (far : Int) (fb far most) := by
  rw [gP_fin h]
  dsimp only
  rw [Int.natCast_mul, Int.natCast_mul, ← two_cast, Int.mul_comm ((fb far most : Nat) : Int), Int.mul_comm ((fb far most : Nat) : Int), fsR]
  exact Rat.divInt_mul_right (by unfold fb; omega)
theorem w_add (u v : Int) {w : Int} (h : w ≠ 0) : Rat.divInt u w + Rat.divInt v w = Rat.divInt (u + v) w := by
  rw [Rat.divInt_add_divInt _ _ h h, ← Int.add_mul]
  exact Rat.divInt_mul_right h
theorem w_le {u v w : Int} (p : 0 < w) (h : u ≤ v) : Rat.divInt u w ≤ Rat.divInt v w := by
  have e := w_add u (v - u) (Int.ne_of_gt p)
  rw [show u + (v - u) = v by omega] at e
  have n : 0 ≤ Rat.divInt (v - u) w := (Rat.divInt_nonneg_iff_of_pos_right p).mpr (by omega)
  rw [← e]
  grind
theorem w_lt {u v w : Int} (p : 0 < w) (h : u < v) : Rat.divInt u w < Rat.divInt v w := by
  refine Classical.byContradiction fun c => ?_
  have c2 := Rat.not_lt.mp c
  have e := w_add v (u - v) (Int.ne_of_gt p)
  rw [show v + (u - v) = u by omega] at e
  have n : 0 ≤ Rat.divInt (u - v) w := by
    rw [← e] at c2
    grind
  have := (Rat.divInt_nonneg_iff_of_pos_right p).mp n
  omega
theorem w_out {q : Rat} {a b : Int} (hb : 0 < b) (h : q < Rat.divInt a b) : b * q.num < a * (q.den : Int) := by
  refine Classical.byContradiction fun c => ?_
  have d : (0 : Int) < (q.den : Int) := by have := q.den_pos; omega
  have e1 : Rat.divInt a b = Rat.divInt (a * (q.den : Int)) (b * (q.den : Int)) := (Rat.divInt_mul_right (Int.ne_of_gt d)).symm
  have e2 : q = Rat.divInt (b * q.num) (b * (q.den : Int)) := by
    rw [Int.mul_comm b, Int.mul_comm b, Rat.divInt_mul_right (Int.ne_of_gt hb)]
    exact (Rat.num_divInt_den q).symm
  have le := w_le (Int.mul_pos hb d) (show a * (q.den : Int) ≤ b * q.num by omega)
  rw [← e1, ← e2] at le
  exact absurd h (Rat.not_lt.mpr le)
theorem two_lt {a b z : Rat} (h : a ≤ b) (h2 : 2 * b < z) : 2 * a < z := by grind
theorem two_of {t : Nat} {u w : Int} (h : 2 * (SF t t : Int) * w = u * 2 ^ t) (hw : w ≠ 0) : (2 : Rat) * sumR t t = Rat.divInt u w := by
  rw [SF_eq t t (Nat.le_refl _), show (2 : Rat) = Rat.divInt 2 (2 ^ 0) from rfl, dy_mul, Nat.zero_add]
  exact (Rat.divInt_eq_divInt_iff (p2 t) hw).mpr h
theorem two6 : (2 * sumR 6 6).num = 63 ∧ ((2 * sumR 6 6).den : Int) = 32 := by
  rw [two_of (u := 63) (w := 32) (by decide +kernel) (by decide)]
  exact ⟨by decide +kernel, by decide +kernel⟩
theorem two8 : (2 * sumR 8 8).num = 259 ∧ ((2 * sumR 8 8).den : Int) = 128 := by
  rw [two_of (u := 259) (w := 128) (by decide +kernel) (by decide)]
  exact ⟨by decide +kernel, by decide +kernel⟩
theorem sh_tfqs (qs : List Rat) : SeqAt.shaped (.tuple (qs.map fq)) = true := by
  have := depFqs qs
  have h := canFqs qs
  simp [SeqAt.shaped, PyData.canLay0, PyData.depth, h]
  omega
theorem ne_tfqs (qs : List Rat) : (!PyData.eqv (.tuple (qs.map fq)) (.tuple (qs.map fq))) = false := by
  simp only [PyData.eqv, eqvs_fq, Bool.not_true]
/-- no reach comes to 23 / 10 -/
theorem below23 {t : Nat} (h : t ≤ 200) : 10 * (2 * sumR t t).num < 23 * ((2 * sumR t t).den : Int) := by
  have h1 := reach_le h
  have h2 := SF_eq 200 200 (Nat.le_refl _)
  have h3 : (2 : Rat) * sumR 200 200 < Rat.divInt 23 10 := by
    have p : (0 : Int) < 2 ^ 200 := Int.pow_pos (by decide)
    have b : ((20 * SF 200 200 : Nat) : Int) < ((23 * 2 ^ 200 : Nat) : Int) := Int.ofNat_lt.mpr big200
    rw [h2, show (2 : Rat) = Rat.divInt 2 (2 ^ 0) from rfl, dy_mul, Nat.zero_add]
    generalize SF 200 200 = S at b ⊢
    simp only [Int.natCast_mul] at b
    rw [← two_cast] at b
    generalize (2 : Int) ^ 200 = w at p b ⊢
    have e1 : Rat.divInt 23 10 = Rat.divInt (23 * w) (10 * w) := (Rat.divInt_mul_right (Int.ne_of_gt p)).symm
    have e2 : Rat.divInt (2 * (S : Int)) w = Rat.divInt (2 * (S : Int) * 10) (10 * w) := by
      rw [Int.mul_comm 10 w]
      exact (Rat.divInt_mul_right (by decide)).symm
    rw [e1, e2]
    exact w_lt (Int.mul_pos (by decide) p) (by omega)
  exact w_out (by decide) (two_lt h1 h3)
end K21

namespace K21
open PySem PySem.Spec PyProof.Rows L2 Nd LamX
abbrev s_law : Stmt := top 33
theorem sc_law : FnScope ["script", "tether", "turn", "ticks", "rows", "up", "down", "due", "total", "want", "more", "later", "odd", "far", "a", "b", "c", "d"] ["script"] (defScope s_law) := ⟨rfl, rfl, rfl, by decide +kernel, rfl, by decide +kernel, by decide +kernel⟩
structure TxtF (mg : Str → Option Value) : Prop extends TxtC mg where
  m_repr : mg "repr" = none
  m_zip : mg "zip" = none
  m_abs : mg "abs" = none
def spLaw (K : PySem.W.Frag) (P1 : Addr) : Sp := fun vs H Q _ => ∃ (a : Addr) (ns : List Int), vs = [.ref a] ∧ SqL K H a (ns.map V.int) ∧ ns.length ≤ 63 ∧ H P1 = some (.tbl #[]) ∧ ∀ H', Q (.bl true) H'
theorem rowsIn {C : Addr} {t : Nat} {H : Hp} {Q : VK} {E : XK} (h : t ≤ 200) (q : ∀ H' p ys, Same H H' → H p = none → H' p = some (.tup ys) → Paired (FrN H H') ys ((List.range t).map (rowR t)) → Q (.ref p) H') : spRR C [.int (t : Int)] H Q E :=
  ⟨0, _, .int (t : Int), rfl, .int _, fun h => by simp [withinD, lowD, highD] at h; omega, fun _ => ⟨t, rfl, h, q⟩⟩
theorem reachIn {C : Addr} {t : Nat} {H : Hp} {Q : VK} {E : XK} (h : t ≤ 200) (q : ∀ H' v, Same H H' → FrN H H' v (2 * sumR t t) → Q v H') : spReach C [.int (t : Int)] H Q E :=
  ⟨0, _, .int (t : Int), rfl, .int _, fun h => by simp [withinD, lowD, highD] at h; omega, fun _ => ⟨t, rfl, h, q⟩⟩
section
variable {P : Program} {w : World} {K : PySem.W.Frag} {mg : Str → Option Value} {base : Heap}
theorem ok_law {f c P1 C : Addr} {fd : FuncData} (F : Fun K "law" "law" s_law f fd) (hc : fd.code = .ref c) (TB : TabB base mg c P1) (T : TxtF mg)
    (C__law_tether : Cal P w K mg base CX0 1 "_law_tether" (spRiddle K)) (C__law_tug : Cal P w K mg base CX0 1 "_law_tug" spDraw) (C__law_rope : Cal P w K mg base CX0 2 "_law_rope" spPick)
    (C__law_least : Cal P w K mg base CX0 1 "_law_least" spLeast) (C__law_greatest : Cal P w K mg base CX0 1 "_law_greatest" spGr) (CX_reach : Cal P w K mg base (L2.CX P w) 6 "reach" (spReach C)) (CX_reach_rows : Cal P w K mg base (L2.CX P w) 5 "reach_rows" (spRR C))
    (CKX_reach_ticks : CalK P w K mg base (L2.CX P w) 6 "reach" ["ticks"] [0] (spReach C)) (CKX_reach_rows_ticks : CalK P w K mg base (L2.CX P w) 5 "reach_rows" ["ticks"] [0] (spRR C)) (Te__law_part : Tells P w K mg base "_law_part" 7 (TTpart C)) :
    FnG P w K mg base CX0 9 f fd ["script"] (spLaw K P1) := by
  have C_reach := CX_reach.calm
  have C_reach_rows := CX_reach_rows.calm
  have CK_reach_ticks := CKX_reach_ticks.calm
  have CK_reach_rows_ticks := CKX_reach_rows_ticks.calm
  have hmT : (P1, ("law.<locals>." : Str) ++ "<lambda>") ∈ [(P1, ("law.<locals>." : Str) ++ "<lambda>")] := List.mem_singleton_self _
  have hu : ∀ p ∈ [(P1, ("law.<locals>." : Str) ++ "<lambda>")], p.1 = P1 → p.2 = ("law.<locals>." : Str) ++ "<lambda>" := fun p hp _ => by rw [List.mem_singleton.mp hp]
  refine okGd F hc sc_law (fun vs H Q E h => ?_) (fun A outer s H vs Q E hG hr h => ?_)
  · obtain ⟨a, ns, rfl, _⟩ := h
    rfl
  · obtain ⟨a, ns, rfl, hS, hlen, hT0, q⟩ := h
    refine ⟨_, (pss_cons (ps_set (i := 1) sc_law.nd rfl (.inl rfl) (pe_f C__law_tether hG (hr.mono (by decide)) (by rfl) pass0 (pa_cons (pv 0) pa_nil)))
      (pss_cons (ps_for PassesOwn.never rfl (pi_range1 rfl T.m_range (pa_cons pe_int pa_nil)) (pg_name (i := 2) sc_law.nd rfl (.inl rfl)) (pss_cons (ps_set (i := 3) sc_law.nd rfl (.inr rfl) (pe_f C__law_rope hG (hr.mono (by decide)) (by rfl) pass0 (pa_cons (pv 1) (pa_cons (pe_lst (pa_cons (pe_f C__law_tug hG (hr.mono (by decide)) (by rfl) pass0 (pa_cons (pv 1) (pa_cons pe_int pa_nil))) (pa_cons pe_int (pa_cons pe_int (pa_cons (pe_f C__law_tug hG (hr.mono (by decide)) (by rfl) pass0 (pa_cons (pv 1) (pa_cons pe_int pa_nil))) pa_nil))))) pa_nil))))
      (pss_cons (ps_setLc (i := 4) (own := [("far", 13)]) (g := gName 13) (tt := tYes) rfl sc_law.nd rfl rfl (sw_true rfl rfl rfl (by decide +kernel)) (pi_range2 rfl T.m_range (pa_cons pe_int (pa_cons (pe_op op_add (pv 3) pe_int) pa_nil))) (blkOk_by (own := [("far", 13)]) (N := ["script", "tether", "turn", "ticks", "rows", "up", "down", "due", "total", "want", "more", "later", "odd", "far", "a", "b", "c", "d"]) (sc := defScope s_law) (by decide +kernel)) (fun _ _ _ _ _ => pg_name (i := 13) sc_law.nd rfl (Or.inl rfl)) (fun _ _ _ _ _ => pts_nil) (fun _ _ _ _ _ => (pe_f C__law_greatest hG (hr.mono (by decide)) (by rfl) pass0 (pa_cons (pv 13) (pa_cons (pv 3) pa_nil)))))
      (pss_cons (ps_set (i := 7) sc_law.nd rfl (.inl rfl) (pe_callTy call_tuple_of (by rfl) T.m_tuple (by decide +kernel) (pa_cons (pe_lc (own := [("up", 5), ("down", 6)]) (g := (gTup K 2 (gCons (gName 5) (gCons (gName 6) gNil)))) (tt := tYes) rfl sc_law.nd (pi_list (pv 4)) (blkOk_by (own := [("up", 5), ("down", 6)]) (N := ["script", "tether", "turn", "ticks", "rows", "up", "down", "due", "total", "want", "more", "later", "odd", "far", "a", "b", "c", "d"]) (sc := defScope s_law) (by decide +kernel)) (fun _ _ _ _ _ => (pg_tup (by rfl) (pgs_cons (pg_name (i := 5) sc_law.nd rfl (.inl rfl)) (pgs_cons (pg_name (i := 6) sc_law.nd rfl (.inl rfl)) pgs_nil)))) (fun _ _ _ _ _ => pts_nil) (fun _ _ _ _ _ => (pe_f C__law_least hG (hr.mono (by decide)) (by rfl) pass0 (pa_cons (pv 5) (pa_cons (pv 6) pa_nil))))) pa_nil)))
      (pss_cons (ps_if (pt_cmpR op_ne (pe_callB (id := "repr") (cr_repr hG hr) (by rfl) T.m_repr (by decide +kernel) (pa_cons (pe_lst (pa_cons (pe_f C_reach_rows hG (hr.mono (by decide)) (by rfl) pass0 (pa_cons (pv 3) pa_nil)) (pa_cons (pe_kw CK_reach_rows_ticks hG (hr.mono (by decide)) (by rfl) pass0 (pk_cons (pv 3) pk_nil)) pa_nil))) pa_nil)) (pe_callB (id := "repr") (cr_repr hG hr) (by rfl) T.m_repr (by decide +kernel) (pa_cons (pe_lst (pa_cons (pv 7) (pa_cons (pv 7) pa_nil))) pa_nil)) (nomark _)) (pss_one (ps_ret pe_bl)) pss_nil)
      (pss_cons (ps_set (i := 8) sc_law.nd rfl (.inl rfl) (pe_tup (pa_cons pe_int (pa_cons pe_int pa_nil))))
      (pss_cons (ps_for PassesOwn.never rfl (pi_tup (pv 7)) (pg_tup (by rfl) (pgs_cons (pg_name (i := 5) sc_law.nd rfl (.inl rfl)) (pgs_cons (pg_name (i := 6) sc_law.nd rfl (.inl rfl)) pgs_nil))) (pss_one (ps_set (i := 8) sc_law.nd rfl (.inl rfl) (pe_f C__law_least hG (hr.mono (by decide)) (by rfl) pass0 (pa_cons (pe_op op_add (pe_op op_mul (pe_ix ix_tup (pv 8) pe_int (fun _ _ => rfl)) (pv 6)) (pe_op op_mul (pv 5) (pe_ix ix_tup (pv 8) pe_int (fun _ _ => rfl)))) (pa_cons (pe_op op_mul (pe_ix ix_tup (pv 8) pe_int (fun _ _ => rfl)) (pv 6)) pa_nil))))))
      (pss_cons (ps_set (i := 9) sc_law.nd rfl (.inl rfl) (pe_f C__law_least hG (hr.mono (by decide)) (by rfl) pass0 (pa_cons (pe_op op_mul pe_int (pe_ix ix_tup (pv 8) pe_int (fun _ _ => rfl))) (pa_cons (pe_ix ix_tup (pv 8) pe_int (fun _ _ => rfl)) pa_nil))))
      (pss_cons (ps_if (PW.pt (pw_or (pt_cmpR op_ne (pe_callB (id := "repr") (cr_repr hG hr) (by rfl) T.m_repr (by decide +kernel) (pa_cons (pe_lst (pa_cons (pe_f C_reach hG (hr.mono (by decide)) (by rfl) pass0 (pa_cons (pv 3) pa_nil)) (pa_cons (pe_kw CK_reach_ticks hG (hr.mono (by decide)) (by rfl) pass0 (pk_cons (pv 3) pk_nil)) pa_nil))) pa_nil)) (pe_callB (id := "repr") (cr_repr hG hr) (by rfl) T.m_repr (by decide +kernel) (pa_cons (pe_lst (pa_cons (pv 9) (pa_cons (pv 9) pa_nil))) pa_nil)) (nomark _)) (pw_or1 (pt_cmpR op_ge (pe_op op_mul pe_int (pe_ix ix_tup (pv 9) pe_int (fun _ _ => rfl))) (pe_op op_mul pe_int (pe_ix ix_tup (pv 9) pe_int (fun _ _ => rfl))) (nomark _))))) (pss_one (ps_ret pe_bl)) pss_nil)
      (pss_cons (ps_par (i := 10) (j := 11) (by rfl) sc_law.nd rfl rfl (by decide) rfl rfl (pa_cons (pe_f C_reach hG (hr.mono (by decide)) (by rfl) pass0 (pa_cons (pe_op op_add (pv 3) pe_int) pa_nil)) (pa_cons (pe_f C_reach_rows hG (hr.mono (by decide)) (by rfl) pass0 (pa_cons (pe_op op_add (pv 3) pe_int) pa_nil)) pa_nil)) (by rfl))
      (pss_one (ps_if (PW.pt (pw_or (pt_cmpR op_le (pe_op op_mul (pe_ix ix_tup (pv 10) pe_int (fun _ _ => rfl)) (pe_ix ix_tup (pv 9) pe_int (fun _ _ => rfl))) (pe_op op_mul (pe_ix ix_tup (pv 9) pe_int (fun _ _ => rfl)) (pe_ix ix_tup (pv 10) pe_int (fun _ _ => rfl))) (nomark _)) (pw_or1 (pt_cmpR (op_neD hr.units) (pe_lc (own := [("a", 14), ("b", 15), ("c", 16), ("d", 17)]) (g := (gTup K 2 (gCons (gTup K 2 (gCons (gName 14) (gCons (gName 15) gNil))) (gCons (gTup K 2 (gCons (gName 16) (gCons (gName 17) gNil))) gNil)))) rfl sc_law.nd (RZ.pi_zipA (by rfl) T.m_zip (pa_cons (pv 7) (pa_cons (pv 11) pa_nil))) (blkOk_by (own := [("a", 14), ("b", 15), ("c", 16), ("d", 17)]) (N := ["script", "tether", "turn", "ticks", "rows", "up", "down", "due", "total", "want", "more", "later", "odd", "far", "a", "b", "c", "d"]) (sc := defScope s_law) (by decide +kernel)) (fun _ _ _ _ _ => (pg_tup (by rfl) (pgs_cons (pg_tup (by rfl) (pgs_cons (pg_name (i := 14) sc_law.nd rfl (.inl rfl)) (pgs_cons (pg_name (i := 15) sc_law.nd rfl (.inl rfl)) pgs_nil))) (pgs_cons (pg_tup (by rfl) (pgs_cons (pg_name (i := 16) sc_law.nd rfl (.inl rfl)) (pgs_cons (pg_name (i := 17) sc_law.nd rfl (.inl rfl)) pgs_nil))) pgs_nil)))) (fun _ _ _ _ _ => pts_one (pt_cmpR op_gt (pe_op op_mul (pv 14) (pv 17)) (pe_op op_mul (pv 16) (pv 15)) (nomark _))) (fun _ _ _ _ _ => pe_int)) (pe_lst pa_nil) (nomark _))))) (pss_one (ps_ret pe_bl)) pss_nil))))))))))))
      (pss_cons (ps_set (i := 12) sc_law.nd rfl (.inr rfl) (pe_f C__law_rope hG (hr.mono (by decide)) (by rfl) pass0 (pa_cons (pv 1) (pa_cons (pe_lst (pa_cons pe_non (pa_cons (pe_un un_neg pe_int) (pa_cons pe_int (pa_cons pe_bl (pa_cons pe_str (pa_cons (pe_lst (pa_cons pe_int pa_nil)) (pa_cons (pe_op op_pow pe_int pe_int) pa_nil)))))))) pa_nil))))
      (pss_cons (ps_if (pt_cmpR (op_neD hr.units) (pe_lst (pa_cons (pe_tells (z := "ticks") Te__law_part (by rfl) hG TB rfl hmT hu (hr.mono (by decide)) (lamD_by (N := ["script", "tether", "turn", "ticks", "rows", "up", "down", "due", "total", "want", "more", "later", "odd", "far", "a", "b", "c", "d"]) (so := defScope s_law) (by decide +kernel)) (.inl ⟨rfl, fun _ _ _ _ _ => rfl⟩) (fun A outer s H E f c' hg2 hr2 => (pe_f CX_reach hg2 (hr2.mono (by decide)) (by rfl) passLam (pa_cons (pv 12) pa_nil)))) (pa_cons (pe_tells (z := "ticks") Te__law_part (by rfl) hG TB rfl hmT hu (hr.mono (by decide)) (lamD_by (N := ["script", "tether", "turn", "ticks", "rows", "up", "down", "due", "total", "want", "more", "later", "odd", "far", "a", "b", "c", "d"]) (so := defScope s_law) (by decide +kernel)) (.inr ⟨_, _, "a1", rfl, pe_int, rfl, fun _ _ _ _ _ _ _ => ⟨_, rfl, rfl⟩⟩) (fun A outer s H E f c' hg2 hr2 => (pe_f CX_reach_rows hg2 (hr2.mono (by decide)) (by rfl) passLam (pa_cons (pv 12) pa_nil)))) pa_nil))) (pe_lst (pa_cons pe_str (pa_cons pe_str pa_nil))) (nomark _)) (pss_one (ps_ret pe_bl)) pss_nil)
      (pss_cons (ps_if (pt_cmpR op_lt (pe_f C__law_tug hG (hr.mono (by decide)) (by rfl) pass0 (pa_cons (pv 1) (pa_cons pe_int pa_nil))) pe_int (nomark _)) (pss_one (ps_ret (pe_cmpR (op_eqD hr.units) (pe_lst (pa_cons (pe_f C_reach hG (hr.mono (by decide)) (by rfl) pass0 (pa_cons pe_int pa_nil)) (pa_cons (pe_f C_reach hG (hr.mono (by decide)) (by rfl) pass0 (pa_cons pe_int pa_nil)) pa_nil))) (pe_lst (pa_cons (pe_tup (pa_cons pe_int (pa_cons pe_int pa_nil))) (pa_cons (pe_tup (pa_cons pe_int (pa_cons pe_int pa_nil))) pa_nil))) (nomark _)))) pss_nil)
      (pss_cons (ps_set (i := 3) sc_law.nd rfl (.inr rfl) (pe_f C__law_rope hG (hr.mono (by decide)) (by rfl) pass0 (pa_cons (pv 1) (pa_cons (pe_lst (pa_cons pe_int (pa_cons (pe_op op_add pe_int (pe_f C__law_tug hG (hr.mono (by decide)) (by rfl) pass0 (pa_cons (pv 1) (pa_cons pe_int pa_nil)))) pa_nil))) pa_nil))))
      (pss_cons (ps_setLc (i := 4) (own := [("far", 13)]) (g := gName 13) (tt := tYes) rfl sc_law.nd rfl rfl (sw_true rfl rfl rfl (by decide +kernel)) (pi_range2 rfl T.m_range (pa_cons pe_int (pa_cons (pe_op op_add (pv 3) pe_int) pa_nil))) (blkOk_by (own := [("far", 13)]) (N := ["script", "tether", "turn", "ticks", "rows", "up", "down", "due", "total", "want", "more", "later", "odd", "far", "a", "b", "c", "d"]) (sc := defScope s_law) (by decide +kernel)) (fun _ _ _ _ _ => pg_name (i := 13) sc_law.nd rfl (Or.inl rfl)) (fun _ _ _ _ _ => pts_nil) (fun _ _ _ _ _ => (pe_f C__law_greatest hG (hr.mono (by decide)) (by rfl) pass0 (pa_cons (pv 13) (pa_cons (pv 3) pa_nil)))))
      (pss_cons (ps_if (pt_cmpR (op_neD hr.units) (pe_f C_reach_rows hG (hr.mono (by decide)) (by rfl) pass0 (pa_cons (pv 3) pa_nil)) (pe_callTy call_tuple_of (by rfl) T.m_tuple (by decide +kernel) (pa_cons (pe_lc (own := [("up", 5), ("down", 6)]) (g := (gTup K 2 (gCons (gName 5) (gCons (gName 6) gNil)))) (tt := tYes) rfl sc_law.nd (pi_list (pv 4)) (blkOk_by (own := [("up", 5), ("down", 6)]) (N := ["script", "tether", "turn", "ticks", "rows", "up", "down", "due", "total", "want", "more", "later", "odd", "far", "a", "b", "c", "d"]) (sc := defScope s_law) (by decide +kernel)) (fun _ _ _ _ _ => (pg_tup (by rfl) (pgs_cons (pg_name (i := 5) sc_law.nd rfl (.inl rfl)) (pgs_cons (pg_name (i := 6) sc_law.nd rfl (.inl rfl)) pgs_nil)))) (fun _ _ _ _ _ => pts_nil) (fun _ _ _ _ _ => (pe_f C__law_least hG (hr.mono (by decide)) (by rfl) pass0 (pa_cons (pv 5) (pa_cons (pv 6) pa_nil))))) pa_nil)) (nomark _)) (pss_one (ps_ret pe_bl)) pss_nil)
      (pss_one (ps_ret (pe_and (pe_cmpR op_lt (pe_op op_mul pe_int (pe_ix ix_tup (pe_f C_reach hG (hr.mono (by decide)) (by rfl) pass0 (pa_cons pe_int pa_nil)) pe_int (fun _ _ => rfl))) (pe_op op_mul pe_int (pe_ix ix_tup (pe_f C_reach hG (hr.mono (by decide)) (by rfl) pass0 (pa_cons pe_int pa_nil)) pe_int (fun _ _ => rfl))) (nomark _)) (pe_one (pe_cmpR op_eq (pe_callB (id := "len") call_len_seq (by rfl) T.m_len PySem.boot_len (pa_cons (pe_f C_reach_rows hG (hr.mono (by decide)) (by rfl) pass0 (pa_cons pe_int pa_nil)) pa_nil)) pe_int (nomark _)))))))))))))), ?_⟩
    try dsimp only [cxOf, Cx.nox, Cx.wish]
    let TL : List (Addr × Str) := [(P1, ("law.<locals>." : Str) ++ "<lambda>")]
    walk_at "ga"
    refine ⟨a, ns, rfl, hS, hlen, fun H1 r s1 nr R0 => ?_⟩
    have T0 : Tabs TL H1 := (Tabs.one hT0).ext s1
    walk_at "ga"
    refine ⟨by decide, by decide, ?_⟩
    refine forIn_R (fun i σ H' => Rid r (10 * i) H' ∧ Tabs TL H' ∧ ∃ x2 x3 x4 x5 x6 x7 x8 x9 x10 x11 x12 x13 x14 x15 x16 x17, σ = [some (.ref a), some (.ref r), x2, x3, x4, x5, x6, x7, x8, x9, x10, x11, x12, x13, x14, x15, x16, x17]) ⟨R0, T0, _, _, _, _, _, _, _, _, _, _, _, _, _, _, _, _, rfl⟩ (fun i σ H2 hi hP => ?_) (fun σ H2 hP => ?_)
    · obtain ⟨R2, T2, x2, x3, x4, x5, x6, x7, x8, x9, x10, x11, x12, x13, x14, x15, x16, x17, rfl⟩ := hP
      have hi' : i < 2 := hi
      walk_at "go"
      refine ⟨r, _, 8, rfl, R2, by omega, by decide, by decide, fun H3 v3 g3 R3 v30 v31 => ?_⟩
      have T3 := T2.gr R2 g3
      walk_at "go"
      refine ⟨r, _, 60, rfl, R3, by omega, by decide, by decide, fun H4 v4 g4 R4 v40 v41 => ?_⟩
      have T4 := T3.gr R3 g4
      walk_at "go"
      refine ⟨small64 (by simp), fun p5 hp5 => ?_⟩
      generalize hU : upd _ p5 _ = H5
      obtain ⟨s5, e5⟩ := upd_facts hU hp5
      clear hU
      have R5 := R4.same s5
      have T5 := T4.ext s5
      walk_at "go"
      refine ⟨r, p5, _, _, rfl, R5, by omega, R4.ne hp5, e5, by simp, by simp, fun H6 v6 g6 R6 hv6 => ?_⟩
      have T6 := T5.gr R5 g6
      obtain ⟨t, rfl, ht⟩ : ∃ t : Nat, v6 = .int (t : Int) ∧ t ≤ 59 := by
        simp only [List.mem_cons, List.not_mem_nil, or_false] at hv6
        rcases hv6 with e | e | e | e
        · exact ⟨v3.toNat, by rw [e, show ((v3.toNat : Nat) : Int) = v3 by omega], by omega⟩
        · exact ⟨0, e, by decide⟩
        · exact ⟨1, e, by decide⟩
        · exact ⟨v4.toNat, by rw [e, show ((v4.toNat : Nat) : Int) = v4 by omega], by omega⟩
      clear hv6 R2 R3 R4 R5 T2 T3 T4 T5 g3 g4 g6 s5 e5 hp5
      walk_at "go"
      refine ⟨⟨by decide, by decide, by omega, by omega⟩, ?_⟩
      rw [show (((t : Nat) : Int) + 1 - 1).toNat = t by omega]
      refine lcIn_pr (fun k => gP (1 + k) ((t - (1 + k)) / 2 + 1)) (by omega) (fun _ => rfl) (fun k H7 hk s7 QE kk => ?_) (fun pr H7 yr hpr s7 er hyr => ?_)
      · walk_at "go"
        rw [show (1 : Int) + (k : Int) = ((1 + k : Nat) : Int) by omega]
        exact ⟨1 + k, t, rfl, by omega, by omega, by omega, fun H8 y s8 hy => kk H8 y s8 hy.at⟩
      walk_at "go"
      refine ⟨⟨_, .inl (.inl er)⟩, ?_⟩
      refine lcIn_prf (us := fun k => gP (1 + k) ((t - (1 + k)) / 2 + 1)) (fun k => rowR t k) (.inl (.inl er)) hyr (by omega) (fun _ _ => rfl) (fun k H8 hk s8 QE kk => ?_) (fun pd H8 yd hpd s8 ed hyd => ?_)
      · walk_at "go"
        have hg := gP_rat (far := 1 + k) (most := t) (by omega) (by omega)
        have hl := (gP_lt (far := 1 + k) (m := (t - (1 + k)) / 2 + 1) (by omega) (by unfold tk; omega)).2
        refine ⟨_, _, rfl, ?_, Nat.lt_of_lt_of_le hl (Nat.pow_le_pow_right (by decide) (by decide)), fun H9 y s9 hy => ?_⟩
        · rw [gP_fin (show 1 + k ≤ t by omega)]
          exact Int.natCast_pos.mpr (Nat.mul_pos (by unfold fb; omega) (Nat.pow_pos (by decide)))
        · rw [hg, Nat.add_comm 1 k] at hy
          exact kk H9 y s9 hy
      walk_at "go"
      refine ⟨pd, _, rfl, .inl ⟨.inl (.inl ed), fun pt hpt => ?_⟩⟩
      generalize hU : upd H8 pt _ = H9
      obtain ⟨s9, et⟩ := upd_facts hU hpt
      clear hU
      have R9 := (R6.same s7).same (s8.trans s9)
      have T9 := (T6.ext s7).ext (s8.trans s9)
      have hq : Paired (Nd.Fr r H9) yd ((List.range t).map (rowR t)) := pairs_mono (fun _ _ h => (FrN.fr h (R6.same s7)).same s9) hyd
      clear s7 er hyr s8 ed hyd R6 T6 hpr hpd hpt
      have smq : ∀ z ∈ (List.range t).map (rowR t), Sm z := fun z hz => by
        obtain ⟨k, hk, rfl⟩ := List.mem_map.mp hz
        exact sm_row (List.mem_range.mp hk) (by omega)
      obtain ⟨r1, r2, r3⟩ := repQ (qs := (List.range t).map (rowR t)) (by rw [List.length_map, List.length_range]; omega) smq
      walk_at "go"
      refine rowsIn (t := t) (by omega) fun Ha pa ya sa npa ea hya => ?_
      have f1 := pairs_mono (fun _ _ h => FrN.fr h R9) hya
      have Ra := R9.same sa
      walk_at "go"
      refine rowsIn (t := t) (by omega) fun Hb pb yb sb npb eb hyb => ?_
      have f2 := pairs_mono (fun _ _ h => FrN.fr h Ra) hyb
      have Rb := Ra.same sb
      walk_at "go"
      refine ⟨small64 (by simp), fun pc hpc => ?_⟩
      generalize hU : upd _ pc _ = Hc
      obtain ⟨sc, ec⟩ := upd_facts hU hpc
      clear hU
      walk_at "go"
      refine k_repr (d := .list [.tuple (((List.range t).map (rowR t)).map fq), .tuple (((List.range t).map (rowR t)).map fq)]) (.lst (.inl (.inl ec)) (.cons (.tup (.inl (.inl (sc _ _ (sb _ _ ea)))) (frAll_dp (pairs_mono (fun _ _ h => (Fr.same h sb).same sc) f1))) (.cons (.tup (.inl (.inl (sc _ _ eb))) (frAll_dp (pairs_mono (fun _ _ h => Fr.same h sc) f2))) .nil))) r1 r2 r3 ?_
      have sac := sa.trans (sb.trans sc)
      walk_at "go"
      refine ⟨small64 (by simp), fun pe hpe => ?_⟩
      generalize hU : upd _ pe _ = He
      obtain ⟨se, ee⟩ := upd_facts hU hpe
      clear hU
      have sae := sac.trans se
      have fe := pairs_mono (fun _ _ h => Fr.same h sae) hq
      walk_at "go"
      refine k_repr (d := .list [.tuple (((List.range t).map (rowR t)).map fq), .tuple (((List.range t).map (rowR t)).map fq)]) (.lst (.inl (.inl ee)) (.cons (.tup (.inl (.inl (sae _ _ et))) (frAll_dp fe)) (.cons (.tup (.inl (.inl (sae _ _ et))) (frAll_dp fe)) .nil))) r1 r2 r3 ?_
      walk_at "go"
      generalize (PyData.list [.tuple (((List.range t).map (rowR t)).map fq), .tuple (((List.range t).map (rowR t)).map fq)]).shown = zz
      refine ite_f (by simp) ?_
      have Re := R9.same sae
      have Te := T9.ext sae
      have ete := sae _ _ et
      clear R9 T9 hq et sa sb sc se ea eb ec ee f1 f2 Ra Rb sac sae hya hyb npa npb hpc hpe
      walk_at "go"
      refine ⟨small64 (by simp), fun p0 hp0 => ?_⟩
      generalize hU : upd _ p0 _ = H0
      obtain ⟨s0, e0⟩ := upd_facts hU hp0
      clear hU
      have f0 : Nd.Fr r H0 (.ref p0) 0 := Fr.two (Re.ne hp0) e0 rfl rfl
      have R0' := Re.same s0
      have T0' := Te.ext s0
      have et0 := s0 _ _ ete
      have fq0 := pairs_mono (fun _ _ h => Fr.same h s0) fe
      clear Re Te ete fe s0 e0 hp0
      have h59 : (2 : Nat) ^ t ≤ 576460752303423488 := Nat.le_trans (Nat.pow_le_pow_right (by decide) ht) (by decide)
      walk_at "go"
      refine ⟨⟨_, .inl (.inl et0)⟩, ?_⟩
      have hlen : yd.length = t := by rw [pairs_len fq0, List.length_map, List.length_range]
      refine forIn_it (walk_tup (xs := yd)) (fun k σ' Hd => Same H0 Hd ∧ ∃ v y5 y6, σ' = [some (.ref a), some (.ref r), some (.int (0 + (i : Int))), some (.int (t : Int)), some (.ref pr), y5, y6, some (.ref pt), some v, x9, x10, x11, x12, x13, x14, x15, x16, x17] ∧ Nd.Fr r Hd v (sumR t k)) ⟨Same.refl _, _, _, _, rfl, f0⟩ (fun k σ' Hd _ p => .inl (.inl (p.1 _ _ et0))) (fun k y σ' Hd Hd' hk p Y => ?_) (fun σ' Hd p => ?_)
      · obtain ⟨sd, v, y5, y6, rfl, fv⟩ := p
        obtain ⟨rfl, hy⟩ := Y
        obtain ⟨z, hz, fy⟩ := Nd.paired_get fq0 hy
        rw [List.getElem?_map, List.getElem?_range (by omega)] at hz
        obtain rfl : rowR t k = z := Option.some.inj hz
        obtain ⟨py, rfl, _, ey⟩ := fy
        have Rd := R0'.same sd
        have d1 := den_row (t := t) (i := k) (by omega)
        have d2 := den_le (t := t) (n := k) (by omega)
        have d10 := (rowR t k).den_pos
        have d20 := (sumR t k).den_pos
        refine k_gtup (.inl (.inl (sd _ _ ey))) rfl ?_
        walk_at "go"
        refine k_ix0 fv ?_
        walk_at "go"
        refine k_I (.inr ⟨by omega, by omega⟩) ?_
        walk_at "go"
        refine k_ix1 fv ?_
        refine k_I (.inr ⟨by omega, by omega⟩) ?_
        walk_at "go"
        refine k_ix1 fv ?_
        walk_at "go"
        refine k_I (.inr ⟨by omega, by omega⟩) ?_
        walk_at "go"
        refine ⟨_, _, rfl, Int.mul_pos (by omega) (by omega), ?_, fun H4 y s4 hy4 => ?_⟩
        · rw [Int.natAbs_mul, Int.natAbs_natCast, Int.natAbs_natCast]
          exact Nat.lt_of_lt_of_le (Nat.mul_lt_mul'' (show (sumR t k).den < 2 ^ 64 by omega) (show (rowR t k).den < 2 ^ 64 by omega)) (by decide +kernel)
        · rw [← add_divInt] at hy4
          walk_at "go"
          exact ⟨sd.trans s4, y, _, _, rfl, hy4.fr Rd⟩
      · obtain ⟨sd, v, y5, y6, rfl, fv⟩ := p
        rw [hlen] at fv
        have Rd := R0'.same sd
        have Td := T0'.ext sd
        have etd := sd _ _ et0
        have fqd := pairs_mono (fun _ _ h => Fr.same h sd) fq0
        have d2 := den_le (t := t) (n := t) (Nat.le_refl t)
        have d20 := (sumR t t).den_pos
        clear R0' T0' et0 fq0 f0 sd
        walk_at "go"
        refine k_ix0 fv ?_
        refine k_I (.inl ⟨by decide, by decide⟩) ?_
        walk_at "go"
        refine k_ix1 fv ?_
        walk_at "go"
        refine ⟨_, _, rfl, by omega, by rw [Int.natAbs_natCast]; exact Nat.lt_of_lt_of_le (show (sumR t t).den < 2 ^ 64 by omega) (Nat.pow_le_pow_right (by decide) (by decide)), fun He want se hwant => ?_⟩
        rw [two_div] at hwant
        have fw := hwant.fr Rd
        have Re := Rd.same se
        have Te := Td.ext se
        have ete := se _ _ etd
        have fqe := pairs_mono (fun _ _ h => Fr.same h se) fqd
        have sm2 := sm_two (t := t) (by omega)
        obtain ⟨r1', r2', r3'⟩ := repF (qs := [2 * sumR t t, 2 * sumR t t]) (by simp) (fun z hz => by simp at hz; rw [hz]; exact sm2)
        clear Rd Td etd fqd fv se hwant
        walk_at "ga"
        refine k_cutT false (fun Q' kk => ?_) (fun HT sT => ?_)
        · walk_at "go"
          refine reachIn (t := t) (by omega) fun Ha ya sa hya => ?_
          have f1 := hya.fr Re
          walk_at "go"
          refine reachIn (t := t) (by omega) fun Hb yb sb hyb => ?_
          have f2 := hyb.fr (Re.same sa)
          walk_at "go"
          refine ⟨small64 (by simp), fun pc hpc => ?_⟩
          generalize hU : upd _ pc _ = Hc
          obtain ⟨sc, ec⟩ := upd_facts hU hpc
          clear hU
          walk_at "go"
          refine k_repr (d := .list ([2 * sumR t t, 2 * sumR t t].map fq)) (.lst (.inl (.inl ec)) (.cons ((f1.same sb).same sc).dp (.cons (f2.same sc).dp .nil))) r1' r2' r3' ?_
          have sac := sa.trans (sb.trans sc)
          walk_at "go"
          refine ⟨small64 (by simp), fun pe hpe => ?_⟩
          generalize hU : upd _ pe _ = Hf
          obtain ⟨sf, ef⟩ := upd_facts hU hpe
          clear hU
          have fwf := (fw.same sac).same sf
          walk_at "go"
          refine k_repr (d := .list ([2 * sumR t t, 2 * sumR t t].map fq)) (.lst (.inl (.inl ef)) (.cons fwf.dp (.cons fwf.dp .nil))) r1' r2' r3' ?_
          walk_at "go"
          generalize (PyData.list ([2 * sumR t t, 2 * sumR t t].map fq)).shown = zz
          refine ite_f (by simp) ?_
          walk_at "go"
          refine k_ix0 fwf ?_
          refine k_I (.inl ⟨by decide, by decide⟩) ?_
          walk_at "go"
          refine k_ix1 fwf ?_
          refine k_I (.inl ⟨by decide, by decide⟩) ?_
          walk_at "go"
          have b23 := below23 (t := t) (by omega)
          have := kk _ (sac.trans sf)
          rwa [show false = decide (10 * (2 * sumR t t).num ≥ 23 * ((2 * sumR t t).den : Int)) from (decide_eq_false (by omega)).symm] at this
        · have RT := Re.same sT
          have TT := Te.ext sT
          have ett := sT _ _ ete
          have fqt := pairs_mono (fun _ _ h => Fr.same h sT) fqe
          have fwt := fw.same sT
          clear Re Te ete fqe fw sT r1' r2' r3'
          refine iteF ?_
          walk_at "go"
          rw [show ((t : Nat) : Int) + 1 = ((t + 1 : Nat) : Int) by omega]
          refine reachIn (t := t + 1) (by omega) fun Ha ya sa hya => ?_
          have fa := hya.fr RT
          walk_at "go"
          rw [show ((t : Nat) : Int) + 2 = ((t + 2 : Nat) : Int) by omega]
          refine rowsIn (t := t + 2) (by omega) fun Hb pl yl sb npl el hyl => ?_
          have fl := pairs_mono (fun _ _ h => FrN.fr h (RT.same sa)) hyl
          have sac := sa.trans sb
          have Rc := RT.same sac
          have Tc := TT.ext sac
          have etc' := sac _ _ ett
          have fqc := pairs_mono (fun _ _ h => Fr.same h sac) fqt
          have fwc := fwt.same sac
          have fac := fa.same sb
          clear RT TT ett fqt fwt fa sa sb sac hya hyl npl
          have dw := den_two (t := t)
          have dm := den_two (t := t + 1)
          have h60 : (2 : Nat) ^ (t + 1) ≤ 1152921504606846976 := Nat.le_trans (Nat.pow_le_pow_right (by decide) (show t + 1 ≤ 60 by omega)) (by decide)
          walk_at "ga"
          refine k_cutT false (fun Q' kk => ?_) (fun HT sT => ?_)
          · walk_at "go"
            refine k_ix0 fac ?_
            walk_at "go"
            refine k_ix1 fwc ?_
            refine k_I (.inr ⟨by omega, by omega⟩) ?_
            walk_at "go"
            refine k_ix0 fwc ?_
            walk_at "go"
            refine k_ix1 fac ?_
            refine k_I (.inr ⟨by omega, by omega⟩) ?_
            walk_at "go"
            have lt2 : (2 : Rat) * sumR t t < 2 * sumR (t + 1) (t + 1) := by
              have := reach_lt t
              grind
            have lt3 := (Rat.lt_iff _ _).mp lt2
            refine ite_f (decide_eq_false (by omega)) ?_
            walk_at "go"
            refine ⟨pt, pl, yd, yl, rfl, .inr ⟨.inl (.inl etc'), .inl (.inl el), ?_⟩⟩
            refine lcIn_zipQ (fun k => rowR t k) (fun k => rowR (t + 2) k) (.inl (.inl etc')) (.inl (.inl el)) fqc fl (by omega) (fun _ _ _ _ => wipe_four _ _ _ _) (fun m H2 hm s2 QT kq => ?_) (fun pz Hz hpz sz ez => ?_)
            · have e1 := den_row (t := t) (i := m) (by omega)
              have e2 := den_row (t := t + 2) (i := m) (by omega)
              have h61 : (2 : Nat) ^ (t + 2) ≤ 2305843009213693952 := Nat.le_trans (Nat.pow_le_pow_right (by decide) (show t + 2 ≤ 61 by omega)) (by decide)
              have le2 := (Rat.le_iff (rowR t m) (rowR (t + 2) m)).mp (Rat.le_trans (row_mono t m) (row_mono (t + 1) m))
              walk_at "go"
              refine k_I (.inr ⟨by omega, by omega⟩) ?_
              walk_at "go"
              refine k_I (.inr ⟨by omega, by omega⟩) ?_
              walk_at "go"
              have := kq
              rwa [show false = decide ((rowR t m).num * ((rowR (t + 2) m).den : Int) > (rowR (t + 2) m).num * ((rowR t m).den : Int)) from (decide_eq_false (by omega)).symm] at this
            · walk_at "go"
              refine ⟨small64 (by simp), fun pw hpw => ?_⟩
              generalize hU : upd _ pw _ = Hw
              obtain ⟨sw, ew⟩ := upd_facts hU hpw
              clear hU
              refine k_neD (.lst (.inl (.inl (sw _ _ ez))) .nil) (.lst (.inl (.inl ew)) .nil) shNil shNil ?_
              rw [show (!PyData.eqv (.list []) (.list [])) = false by simp [PyData.eqv, PyData.eqvAll]]
              exact ⟨_, rfl, kk _ (sz.trans sw)⟩
          · refine iteF ?_
            walk_at "go"
            exact ⟨(Rc.same sT).mono (by omega), Tc.ext sT, _, _, _, _, _, _, _, _, _, _, _, _, _, _, _, _, rfl⟩
    · obtain ⟨R2, T2, x2, x3, x4, x5, x6, x7, x8, x9, x10, x11, x12, x13, x14, x15, x16, x17, rfl⟩ := hP
      walk_at "go"
      refine ⟨small64 (by simp), fun pl hpl => ?_⟩
      generalize hU : upd _ pl _ = HD
      obtain ⟨sD, eD⟩ := upd_facts hU hpl
      clear hU
      have RD := R2.same sD
      have TD := T2.ext sD
      have nl := R2.ne hpl
      walk_at "go"
      refine k_I ⟨by decide, by decide, by decide⟩ ?_
      walk_at "go"
      refine ⟨small64 (by simp), fun po hpo => ?_⟩
      generalize hU : upd _ po _ = HE
      obtain ⟨sE, eE⟩ := upd_facts hU hpo
      clear hU
      have RE := RD.same sE
      have TE := TD.ext sE
      walk_at "go"
      refine ⟨r, po, _, _, rfl, RE, by omega, RD.ne hpo, eE, by simp, by simp, fun HF odd gF RF hodd => ?_⟩
      have TF := TE.gr RE gF
      obtain ⟨dO, hO, wO⟩ : ∃ d, Dr r HF odd d ∧ withinD d (some 0) (some 200) = false := by
        simp only [List.mem_cons, List.not_mem_nil, or_false] at hodd
        rcases hodd with rfl | rfl | rfl | rfl | rfl | rfl | rfl
        · exact ⟨_, .non, rfl⟩
        · exact ⟨_, .int _, rfl⟩
        · exact ⟨_, .int _, rfl⟩
        · exact ⟨_, .bl _, rfl⟩
        · exact ⟨_, .str _, rfl⟩
        · exact ⟨_, .lst nl (gF.all _ _ nl (sE _ _ eD)) (.cons (.int 4) .nil), rfl⟩
        · exact ⟨_, .int _, by decide⟩
      clear hodd
      walk_at "go"
      refine k_lamP TF (fun Ha E xa Ta oa => ?_) (fun Hb xb Tb => ?_)
      · walk_at "go"
        exact ⟨r, odd, dO, rfl, hO.ext xa, fun _ => oa, fun h => absurd (wO.symm.trans h) (by decide)⟩
      have Rb := RF.ext xb
      replace hO := hO.ext xb
      walk_at "go"
      refine k_lamP Tb (fun Ha E xa Ta oa => ?_) (fun Hc xc Tc => ?_)
      · walk_at "go"
        exact ⟨r, odd, dO, rfl, hO.ext xa, fun _ => oa, fun h => absurd (wO.symm.trans h) (by decide)⟩
      have Rc := Rb.ext xc
      walk_at "go"
      refine ⟨small64 (by simp), fun pu hpu => ?_⟩
      generalize hU : upd _ pu _ = He
      obtain ⟨se, ee⟩ := upd_facts hU hpu
      clear hU
      walk_at "go"
      refine ⟨small64 (by simp), fun pw hpw => ?_⟩
      generalize hU : upd _ pw _ = Hf
      obtain ⟨sf, ef⟩ := upd_facts hU hpw
      clear hU
      refine k_neD (.lst (.inl (.inl (sf _ _ ee))) (.cons (.str _) (.cons (.str _) .nil))) (.lst (.inl (.inl ef)) (.cons (.str _) (.cons (.str _) .nil))) (sh_strs ["ticks", "ticks"] (by decide +kernel)) (sh_strs ["ticks", "ticks"] (by decide +kernel)) ?_
      walk_at "go"
      refine ite_f (ne_strs ["ticks", "ticks"]) ?_
      have Rf := (Rc.same se).same sf
      clear R2 T2 RD RE RF TD TE TF hO sD sE eD eE gF Rb Tb Rc Tc se sf ee ef
      walk_at "go"
      refine ⟨r, _, 10, rfl, Rf, by decide, by decide, by decide, fun H6 v6 g6 R6 v60 v61 => ?_⟩
      walk_at "go"
      refine ite2 (fun _ => ?_) (fun _ => ?_)
      · walk_at "go"
        refine reachIn (t := 6) (by decide) fun H7 y7 s7 hy7 => ?_
        have f7 := hy7.fr R6
        have R7 := R6.same s7
        walk_at "go"
        refine reachIn (t := 8) (by decide) fun H8 y8 s8 hy8 => ?_
        have f8 := hy8.fr R7
        have R8 := R7.same s8
        walk_at "go"
        refine ⟨small64 (by simp), fun p9 hp9 => ?_⟩
        generalize hU : upd _ p9 _ = H9
        obtain ⟨s9, e9⟩ := upd_facts hU hp9
        clear hU
        have R9 := R8.same s9
        walk_at "go"
        refine ⟨small64 (by simp), fun q1 hq1 => ?_⟩
        generalize hU : upd _ q1 _ = G1
        obtain ⟨t1, u1⟩ := upd_facts hU hq1
        clear hU
        have S1 := R9.same t1
        have w1 : Nd.Fr r G1 (.ref q1) (2 * sumR 6 6) := Fr.two (R9.ne hq1) u1 two6.1.symm two6.2.symm
        walk_at "go"
        refine ⟨small64 (by simp), fun q2 hq2 => ?_⟩
        generalize hU : upd _ q2 _ = G2
        obtain ⟨t2, u2⟩ := upd_facts hU hq2
        clear hU
        have w2 : Nd.Fr r G2 (.ref q2) (2 * sumR 8 8) := Fr.two (S1.ne hq2) u2 two8.1.symm two8.2.symm
        walk_at "go"
        refine ⟨small64 (by simp), fun q3 hq3 => ?_⟩
        generalize hU : upd _ q3 _ = G3
        obtain ⟨t3, u3⟩ := upd_facts hU hq3
        clear hU
        have tt := t1.trans (t2.trans t3)
        refine k_eqD (d := .list ([2 * sumR 6 6, 2 * sumR 8 8].map fq)) (e := .list ([2 * sumR 6 6, 2 * sumR 8 8].map fq)) (.lst (.inl (.inl (tt _ _ e9))) (.cons (((f7.same s8).same s9).same tt).dp (.cons ((f8.same s9).same tt).dp .nil))) (.lst (.inl (.inl u3)) (.cons ((w1.same t2).same t3).dp (.cons (w2.same t3).dp .nil))) (sh_fqs _) (sh_fqs _) ?_
        rw [eq_lists rfl]
        exact q _
      · walk_at "go"
        refine ⟨r, _, 139, rfl, R6, by decide, by decide, by decide, fun H7 v7 g7 R7 v70 v71 => ?_⟩
        walk_at "go"
        refine ⟨small64 (by simp), fun p8 hp8 => ?_⟩
        generalize hU : upd _ p8 _ = H8
        obtain ⟨s8, e8⟩ := upd_facts hU hp8
        clear hU
        have R8 := R7.same s8
        walk_at "go"
        refine ⟨r, p8, _, _, rfl, R8, by decide, R7.ne hp8, e8, by simp, by simp, fun H9 v9 g9 R9 hv9 => ?_⟩
        obtain ⟨t, rfl, ht⟩ : ∃ t : Nat, v9 = .int (t : Int) ∧ t ≤ 200 := by
          simp only [List.mem_cons, List.not_mem_nil, or_false] at hv9
          rcases hv9 with e | e
          · exact ⟨200, e, by decide⟩
          · exact ⟨(61 + v7).toNat, by rw [e, show (((61 + v7).toNat : Nat) : Int) = 61 + v7 by omega], by omega⟩
        clear hv9 R6 R7 R8 g6 g7 g9 s8 e8 hp8
        walk_at "go"
        refine ⟨⟨by decide, by decide, by omega, by omega⟩, ?_⟩
        rw [show (((t : Nat) : Int) + 1 - 1).toNat = t by omega]
        refine lcIn_pr (fun k => gP (1 + k) ((t - (1 + k)) / 2 + 1)) (by omega) (fun _ => rfl) (fun k H7 hk s7 QE kk => ?_) (fun pr H7 yr hpr s7 er hyr => ?_)
        · walk_at "go"
          rw [show (1 : Int) + (k : Int) = ((1 + k : Nat) : Int) by omega]
          exact ⟨1 + k, t, rfl, by omega, by omega, by omega, fun H8 y s8 hy => kk H8 y s8 hy.at⟩
        have R7 := R9.same s7
        walk_at "go"
        refine rowsIn (t := t) ht fun Ha pa ya sa npa ea hya => ?_
        have f1 := pairs_mono (fun _ _ h => FrN.fr h R7) hya
        have Ra := R7.same sa
        have hyr2 := pairs_mono (fun _ _ h => PrAt.same h sa) hyr
        walk_at "go"
        refine ⟨⟨_, .inl (.inl (sa _ _ er))⟩, ?_⟩
        refine lcIn_prf (us := fun k => gP (1 + k) ((t - (1 + k)) / 2 + 1)) (fun k => rowR t k) (.inl (.inl (sa _ _ er))) hyr2 (by omega) (fun _ _ => rfl) (fun k H8 hk s8 QE kk => ?_) (fun pd H8 yd hpd s8 ed hyd => ?_)
        · walk_at "go"
          have hg := gP_rat (far := 1 + k) (most := t) (by omega) (by omega)
          have hl := (gP_lt (far := 1 + k) (m := (t - (1 + k)) / 2 + 1) (by omega) (by unfold tk; omega)).2
          refine ⟨_, _, rfl, ?_, Nat.lt_of_lt_of_le hl (Nat.pow_le_pow_right (by decide) (by decide)), fun H9 y s9 hy => ?_⟩
          · rw [gP_fin (show 1 + k ≤ t by omega)]
            exact Int.natCast_pos.mpr (Nat.mul_pos (by unfold fb; omega) (Nat.pow_pos (by decide)))
          · rw [hg, Nat.add_comm 1 k] at hy
            exact kk H9 y s9 hy
        have f2 := pairs_mono (fun _ _ h => FrN.fr h Ra) hyd
        have R8 := Ra.same s8
        walk_at "go"
        refine ⟨pd, _, rfl, .inl ⟨.inl (.inl ed), fun pt hpt => ?_⟩⟩
        generalize hU : upd H8 pt _ = Hz
        obtain ⟨sz, ez⟩ := upd_facts hU hpt
        clear hU
        walk_at "go"
        refine k_neD (.tup (.inl (.inl (sz _ _ (s8 _ _ ea)))) (frAll_dp (pairs_mono (fun _ _ h => (Fr.same h s8).same sz) f1))) (.tup (.inl (.inl ez)) (frAll_dp (pairs_mono (fun _ _ h => Fr.same h sz) f2))) (sh_tfqs _) (sh_tfqs _) ?_
        rw [ne_tfqs]
        walk_at "go"
        refine iteF ?_
        have Rz := R8.same sz
        clear R7 R8 R9 Ra s7 sa s8 sz er ea ed ez f1 f2 hyr hyr2 hya hyd npa hpr hpd hpt
        walk_at "go"
        refine reachIn (t := 200) (by decide) fun Hb yb sb hyb => ?_
        have fb1 := hyb.fr Rz
        walk_at "go"
        refine k_ix0 fb1 ?_
        refine k_I (.inl ⟨by decide, by decide⟩) ?_
        walk_at "go"
        refine reachIn (t := 200) (by decide) fun Hc yc sc hyc => ?_
        have fc1 := hyc.fr (Rz.same sb)
        walk_at "go"
        refine k_ix1 fc1 ?_
        refine k_I (.inl ⟨by decide, by decide⟩) ?_
        walk_at "go"
        refine ite_t (decide_eq_true (below23 (t := 200) (by decide))) ?_
        walk_at "go"
        refine rowsIn (t := 200) (by decide) fun Hd pd yd sd npd ed hyd => ?_
        have hl : yd.length = 200 := by rw [pairs_len hyd, List.length_map, List.length_range]
        walk_at "go"
        refine ⟨pd, yd, rfl, .inr (.inl (.inl ed)), ?_⟩
        rw [hl]
        walk_at "go"
        exact q _
end
end K21

namespace K21
open PySem PySem.Spec PyProof.Rows L2 Nd LamX
theorem all_mk {l : PySem.W.OpenLaw} {w : World} {K : PySem.W.Frag} {h : Heap} {mg : Str → Option Value} {fa f0 f1 f2 f3 f4 f5 f6 f7 f8 f9 f10 f11 f12 f13 f14 f15 f16 f17 f18 f19 f20 f21 f22 CB C0 fI0 cL P1 : Addr} (X : K.In h) (G : h.Ns mainGlobals mg) (hfa : mg "law" = some (.ref fa))
    {od0 an0 od1 an1 od2 an2 od3 an3 od4 an4 od5 an5 od6 an6 od7 an7 od8 an8 od9 an9 od10 an10 od11 an11 od12 an12 od13 an13 od14 an14 od15 an15 od16 an16 od17 an17 od18 an18 od19 an19 od20 an20 od21 an21 od22 an22 : Option Addr} {sl0 sl1 sl2 sl3 sl4 sl5 sl6 sl7 sl8 sl9 sl10 sl11 sl12 sl13 sl14 sl15 sl16 sl17 sl18 sl19 sl20 sl21 sl22 : Array (Option Value)} {oc0 kV0 dc0 pm0 cd0 ct0 oc1 kV1 dc1 pm1 cd1 ct1 oc2 kV2 dc2 pm2 cd2 ct2 oc3 kV3 dc3 pm3 cd3 ct3 oc4 kV4 dc4 pm4 cd4 ct4 oc5 kV5 dc5 pm5 cd5 ct5 oc6 kV6 dc6 pm6 cd6 ct6 oc7 kV7 dc7 pm7 cd7 ct7 oc8 kV8 dc8 pm8 cd8 ct8 oc9 kV9 dc9 pm9 cd9 ct9 oc10 kV10 dc10 pm10 cd10 ct10 oc11 kV11 dc11 pm11 cd11 ct11 oc12 kV12 dc12 pm12 cd12 ct12 oc13 kV13 dc13 pm13 cd13 ct13 oc14 kV14 dc14 pm14 cd14 ct14 oc15 kV15 dc15 pm15 cd15 ct15 oc16 kV16 dc16 pm16 cd16 ct16 oc17 kV17 dc17 pm17 cd17 ct17 oc18 kV18 dc18 pm18 cd18 ct18 oc19 kV19 dc19 pm19 cd19 ct19 oc20 kV20 dc20 pm20 cd20 ct20 oc21 kV21 dc21 pm21 ct21 oc22 kV22 dc22 pm22 cd22 ct22 : Value}
    (a0 : PySem.W.nsIn K mainGlobals "_shown" = some (some (.ref f0))) (l0 : K.lookup f0 = some ⟨oc0, od0, .func (PySem.W.fnOf "_shown" "_shown" (defArgs s__shown) (defBody s__shown) (defScope s__shown) .none kV0 dc0 pm0 an0 cd0 ct0), sl0⟩) (c0 : PySem.W.codeIn K cd0 "_shown" = true) (k0 : PySem.W.keepIn K (.ref f0) = true)
    (a1 : PySem.W.nsIn K mainGlobals "is_integer" = some (some (.ref f1))) (l1 : K.lookup f1 = some ⟨oc1, od1, .func (PySem.W.fnOf "is_integer" "is_integer" (defArgs s_is_integer) (defBody s_is_integer) (defScope s_is_integer) .none kV1 dc1 pm1 an1 cd1 ct1), sl1⟩) (c1 : PySem.W.codeIn K cd1 "is_integer" = true) (k1 : PySem.W.keepIn K (.ref f1) = true)
    (a2 : PySem.W.nsIn K mainGlobals "is_within" = some (some (.ref f2))) (l2 : K.lookup f2 = some ⟨oc2, od2, .func (PySem.W.fnOf "is_within" "is_within" (defArgs s_is_within) (defBody s_is_within) (defScope s_is_within) .none kV2 dc2 pm2 an2 cd2 ct2), sl2⟩) (c2 : PySem.W.codeIn K cd2 "is_within" = true) (k2 : PySem.W.keepIn K (.ref f2) = true)
    (a3 : PySem.W.nsIn K mainGlobals "are_integers" = some (some (.ref f3))) (l3 : K.lookup f3 = some ⟨oc3, od3, .func (PySem.W.fnOf "are_integers" "are_integers" (defArgs s_are_integers) (defBody s_are_integers) (defScope s_are_integers) .none kV3 dc3 pm3 an3 cd3 ct3), sl3⟩) (c3 : PySem.W.codeIn K cd3 "are_integers" = true) (k3 : PySem.W.keepIn K (.ref f3) = true)
    (a4 : PySem.W.nsIn K mainGlobals "is_fraction" = some (some (.ref f4))) (l4 : K.lookup f4 = some ⟨oc4, od4, .func (PySem.W.fnOf "is_fraction" "is_fraction" (defArgs s_is_fraction) (defBody s_is_fraction) (defScope s_is_fraction) .none kV4 dc4 pm4 an4 cd4 ct4), sl4⟩) (c4 : PySem.W.codeIn K cd4 "is_fraction" = true) (k4 : PySem.W.keepIn K (.ref f4) = true)
    (a5 : PySem.W.nsIn K mainGlobals "need_integer" = some (some (.ref f5))) (l5 : K.lookup f5 = some ⟨oc5, od5, .func (PySem.W.fnOf "need_integer" "need_integer" (defArgs s_need_integer) (defBody s_need_integer) (defScope s_need_integer) .none kV5 dc5 pm5 an5 cd5 ct5), sl5⟩) (c5 : PySem.W.codeIn K cd5 "need_integer" = true) (k5 : PySem.W.keepIn K (.ref f5) = true)
    (a6 : PySem.W.nsIn K mainGlobals "_need_two" = some (some (.ref f6))) (l6 : K.lookup f6 = some ⟨oc6, od6, .func (PySem.W.fnOf "_need_two" "_need_two" (defArgs s__need_two) (defBody s__need_two) (defScope s__need_two) .none kV6 dc6 pm6 an6 cd6 ct6), sl6⟩) (c6 : PySem.W.codeIn K cd6 "_need_two" = true) (k6 : PySem.W.keepIn K (.ref f6) = true)
    (a7 : PySem.W.nsIn K mainGlobals "reduced" = some (some (.ref f7))) (l7 : K.lookup f7 = some ⟨oc7, od7, .func (PySem.W.fnOf "reduced" "reduced" (defArgs s_reduced) (defBody s_reduced) (defScope s_reduced) .none kV7 dc7 pm7 an7 cd7 ct7), sl7⟩) (c7 : PySem.W.codeIn K cd7 "reduced" = true) (k7 : PySem.W.keepIn K (.ref f7) = true)
    (a8 : PySem.W.nsIn K mainGlobals "added" = some (some (.ref f8))) (l8 : K.lookup f8 = some ⟨oc8, od8, .func (PySem.W.fnOf "added" "added" (defArgs s_added) (defBody s_added) (defScope s_added) .none kV8 dc8 pm8 an8 cd8 ct8), sl8⟩) (c8 : PySem.W.codeIn K cd8 "added" = true) (k8 : PySem.W.keepIn K (.ref f8) = true)
    (a9 : PySem.W.nsIn K mainGlobals "multiplied" = some (some (.ref f9))) (l9 : K.lookup f9 = some ⟨oc9, od9, .func (PySem.W.fnOf "multiplied" "multiplied" (defArgs s_multiplied) (defBody s_multiplied) (defScope s_multiplied) .none kV9 dc9 pm9 an9 cd9 ct9), sl9⟩) (c9 : PySem.W.codeIn K cd9 "multiplied" = true) (k9 : PySem.W.keepIn K (.ref f9) = true)
    (a10 : PySem.W.nsIn K mainGlobals "ways_of" = some (some (.ref f10))) (l10 : K.lookup f10 = some ⟨oc10, od10, .func (PySem.W.fnOf "ways_of" "ways_of" (defArgs s_ways_of) (defBody s_ways_of) (defScope s_ways_of) .none kV10 dc10 pm10 an10 cd10 ct10), sl10⟩) (c10 : PySem.W.codeIn K cd10 "ways_of" = true) (k10 : PySem.W.keepIn K (.ref f10) = true)
    (a11 : PySem.W.nsIn K mainGlobals "halved" = some (some (.ref f11))) (l11 : K.lookup f11 = some ⟨oc11, od11, .func (PySem.W.fnOf "halved" "halved" (defArgs s_halved) (defBody s_halved) (defScope s_halved) .none kV11 dc11 pm11 an11 cd11 ct11), sl11⟩) (c11 : PySem.W.codeIn K cd11 "halved" = true) (k11 : PySem.W.keepIn K (.ref f11) = true)
    (a12 : PySem.W.nsIn K mainGlobals "first_share" = some (some (.ref f12))) (l12 : K.lookup f12 = some ⟨oc12, od12, .func (PySem.W.fnOf "first_share" "first_share" (defArgs s_first_share) (defBody s_first_share) (defScope s_first_share) .none kV12 dc12 pm12 an12 cd12 ct12), sl12⟩) (c12 : PySem.W.codeIn K cd12 "first_share" = true) (k12 : PySem.W.keepIn K (.ref f12) = true)
    (a13 : PySem.W.nsIn K mainGlobals "_first_best" = some (some (.ref f13))) (l13 : K.lookup f13 = some ⟨oc13, od13, .func (PySem.W.fnOf "_first_best" "_first_best" (defArgs s__first_best) (defBody s__first_best) (defScope s__first_best) .none kV13 dc13 pm13 an13 cd13 ct13), sl13⟩) (c13 : PySem.W.codeIn K cd13 "_first_best" = true) (k13 : PySem.W.keepIn K (.ref f13) = true)
    (a14 : PySem.W.nsIn K mainGlobals "reach_rows" = some (some (.ref f14))) (l14 : K.lookup f14 = some ⟨oc14, od14, .func (PySem.W.fnOf "reach_rows" "reach_rows" (defArgs s_reach_rows) (defBody s_reach_rows) (defScope s_reach_rows) .none kV14 dc14 pm14 an14 cd14 ct14), sl14⟩) (c14 : PySem.W.codeIn K cd14 "reach_rows" = true) (k14 : PySem.W.keepIn K (.ref f14) = true)
    (a15 : PySem.W.nsIn K mainGlobals "reach" = some (some (.ref f15))) (l15 : K.lookup f15 = some ⟨oc15, od15, .func (PySem.W.fnOf "reach" "reach" (defArgs s_reach) (defBody s_reach) (defScope s_reach) .none kV15 dc15 pm15 an15 cd15 ct15), sl15⟩) (c15 : PySem.W.codeIn K cd15 "reach" = true) (k15 : PySem.W.keepIn K (.ref f15) = true)
    (a16 : PySem.W.nsIn K mainGlobals "_law_tether" = some (some (.ref f16))) (l16 : K.lookup f16 = some ⟨oc16, od16, .func (PySem.W.fnOf "_law_tether" "_law_tether" (defArgs s__law_tether) (defBody s__law_tether) (defScope s__law_tether) .none kV16 dc16 pm16 an16 cd16 ct16), sl16⟩) (c16 : PySem.W.codeIn K cd16 "_law_tether" = true) (k16 : PySem.W.keepIn K (.ref f16) = true)
    (a17 : PySem.W.nsIn K mainGlobals "_law_tug" = some (some (.ref f17))) (l17 : K.lookup f17 = some ⟨oc17, od17, .func (PySem.W.fnOf "_law_tug" "_law_tug" (defArgs s__law_tug) (defBody s__law_tug) (defScope s__law_tug) .none kV17 dc17 pm17 an17 cd17 ct17), sl17⟩) (c17 : PySem.W.codeIn K cd17 "_law_tug" = true) (k17 : PySem.W.keepIn K (.ref f17) = true)
    (a18 : PySem.W.nsIn K mainGlobals "_law_rope" = some (some (.ref f18))) (l18 : K.lookup f18 = some ⟨oc18, od18, .func (PySem.W.fnOf "_law_rope" "_law_rope" (defArgs s__law_rope) (defBody s__law_rope) (defScope s__law_rope) .none kV18 dc18 pm18 an18 cd18 ct18), sl18⟩) (c18 : PySem.W.codeIn K cd18 "_law_rope" = true) (k18 : PySem.W.keepIn K (.ref f18) = true)
    (a19 : PySem.W.nsIn K mainGlobals "_law_least" = some (some (.ref f19))) (l19 : K.lookup f19 = some ⟨oc19, od19, .func (PySem.W.fnOf "_law_least" "_law_least" (defArgs s__law_least) (defBody s__law_least) (defScope s__law_least) .none kV19 dc19 pm19 an19 cd19 ct19), sl19⟩) (c19 : PySem.W.codeIn K cd19 "_law_least" = true) (k19 : PySem.W.keepIn K (.ref f19) = true)
    (a20 : PySem.W.nsIn K mainGlobals "_law_greatest" = some (some (.ref f20))) (l20 : K.lookup f20 = some ⟨oc20, od20, .func (PySem.W.fnOf "_law_greatest" "_law_greatest" (defArgs s__law_greatest) (defBody s__law_greatest) (defScope s__law_greatest) .none kV20 dc20 pm20 an20 cd20 ct20), sl20⟩) (c20 : PySem.W.codeIn K cd20 "_law_greatest" = true) (k20 : PySem.W.keepIn K (.ref f20) = true)
    (a21 : PySem.W.nsIn K mainGlobals "law" = some (some (.ref f21))) (l21 : K.lookup f21 = some ⟨oc21, od21, .func (PySem.W.fnOf "law" "law" (defArgs s_law) (defBody s_law) (defScope s_law) .none kV21 dc21 pm21 an21 (.ref cL) ct21), sl21⟩) (c21 : PySem.W.codeIn K (.ref cL) "law" = true) (k21 : PySem.W.keepIn K (.ref f21) = true)
    (a22 : PySem.W.nsIn K mainGlobals "_law_part" = some (some (.ref f22))) (l22 : K.lookup f22 = some ⟨oc22, od22, .func (PySem.W.fnOf "_law_part" "_law_part" (defArgs s__law_part) (defBody s__law_part) (defScope s__law_part) .none kV22 dc22 pm22 an22 cd22 ct22), sl22⟩) (c22 : PySem.W.codeIn K cd22 "_law_part" = true) (k22 : PySem.W.keepIn K (.ref f22) = true)
    (z_int : PySem.W.nsIn K mainGlobals "int" = some none)
    (z_len : PySem.W.nsIn K mainGlobals "len" = some none)
    (z_abs : PySem.W.nsIn K mainGlobals "abs" = some none)
    (z_bool : PySem.W.nsIn K mainGlobals "bool" = some none)
    (z_str : PySem.W.nsIn K mainGlobals "str" = some none)
    (z_all : PySem.W.nsIn K mainGlobals "all" = some none)
    (z_list : PySem.W.nsIn K mainGlobals "list" = some none)
    (z_isinstance : PySem.W.nsIn K mainGlobals "isinstance" = some none)
    (z_min : PySem.W.nsIn K mainGlobals "min" = some none)
    (z_tuple : PySem.W.nsIn K mainGlobals "tuple" = some none)
    (z_range : PySem.W.nsIn K mainGlobals "range" = some none)
    (z_repr : PySem.W.nsIn K mainGlobals "repr" = some none)
    (z_zip : PySem.W.nsIn K mainGlobals "zip" = some none)
    (z_comb : PySem.W.nsIn K mainGlobals "comb" = some (some (.builtin "math.comb")))
    (z_gcd : PySem.W.nsIn K mainGlobals "gcd" = some (some (.builtin "math.gcd")))
    {t_MOST_FAR : Tok} (z_MOST_FAR : PySem.W.nsIn K mainGlobals "MOST_FAR" = some (some (.int 400 t_MOST_FAR)))
    {t_MOST_TICKS : Tok} (z_MOST_TICKS : PySem.W.nsIn K mainGlobals "MOST_TICKS" = some (some (.int 200 t_MOST_TICKS)))
    (aB : PySem.W.nsIn K mainGlobals "HandError" = some (some (.ref CB))) (eB : PySem.W.subIn K (.ref CB) (.type "BaseException") = some true) (hB : PySem.W.hasDictIn K CB = true) (tB : PySem.W.typeIn K (.ref CB) = some (.type "type")) (rB : PySem.W.readsIn K CB (.type "type") = true) (gB : PySem.W.specialIn K (.ref CB) "__getattribute__" = some (some (.builtin "type.__getattribute__"))) (iB : PySem.W.findCls K (.ref CB) (.type "type") "__init__" = some (.val (.builtin "ValueError.__init__"))) (oc1 : PySem.W.specialIn K (.builtin "object.__class__") "__get__" = some (some (.builtin "getset_descriptor.__get__"))) (oc2 : PySem.W.takesIn K (.builtin "object.__class__") = some true)
    {nm0 q0 : Str} {N0 : Addr} {bs0 : List Value} {sn0 : List Str} {sub0 : List Value} {ab0 : Bool} {col0 : Option Bool} {dd0 : Option Addr} {m0_0 m1_0 m2_0 m3_0 m5_0 : Option Value} {odI0 anI0 : Option Addr} {slI0 : Array (Option Value)} {ocI0 kVI0 dcI0 pmI0 cdI0 ctI0 : Value}
    (aC0 : PySem.W.nsIn K mainGlobals "BadNumber" = some (some (.ref C0))) (xC0 : K.lookup C0 = some (excClassObj nm0 q0 C0 N0 bs0 [.ref CB, .type "ValueError", .type "Exception", .type "BaseException", .type "object"] true sn0 sub0 ab0 col0 dd0 m0_0 m1_0 m2_0 m3_0 m5_0 "ValueError.__new__"))
    (sa0 : PySem.W.findIn K (.ref C0) "__setattr__" = some (some (.builtin "object.__setattr__"))) (ga0 : PySem.W.findIn K (.ref C0) "__getattribute__" = some (some (.builtin "BaseException.__getattribute__"))) (gg0 : PySem.W.findIn K (.ref C0) "__getattr__" = some none) (nb0 : PySem.W.findIn K (.ref C0) "part" = some none) (cc0 : PySem.W.findIn K (.ref C0) "__class__" = some (some (.builtin "object.__class__"))) (mo0 : PySem.W.mroIn K C0 (.type "object") = some true)
    (iC0 : PySem.W.findIn K (.ref C0) "__init__" = some (some (.ref fI0))) (tI0 : PySem.W.typeIn K (.ref fI0) = some (.type "function")) (lI0 : K.lookup fI0 = some ⟨ocI0, odI0, .func (PySem.W.fnOf "__init__" "BadNumber.__init__" (defArgs s_BadNumber___init__) (defBody s_BadNumber___init__) (defScope s_BadNumber___init__) .none kVI0 dcI0 pmI0 anI0 cdI0 ctI0), slI0⟩) (cI0 : PySem.W.codeIn K cdI0 "BadNumber.__init__" = true) (kI0 : PySem.W.keepIn K (.ref fI0) = true)
    (kC0 : PySem.W.keepIn K (.ref C0) = true) (eC0 : PySem.W.subIn K (.ref C0) (.type "BaseException") = some true) (tC0 : PySem.W.typeIn K (.ref C0) = some (.type "type")) (hC0 : PySem.W.hasDictIn K C0 = true) (isC0 : PySem.W.isClsIn K C0 = true) (sC0 : PySem.W.subIn K (.ref C0) (.ref CB) = some true)
    (tP : h.get? P1 = some { cls := .none, data := .fields #[] }) (nP : K.lookup P1 = none) (cP : PySem.W.codeHdIn K cL P1 = true)
    : ∃ (fd : FuncData) (c P1 : Addr) (sp : Sp), h.get? P1 = some { cls := .none, data := .fields #[] } ∧ K.lookup P1 = none ∧ PySem.W.CodeHd h c P1 ∧ (∀ (s : Shared) (v : Value), BindsTo s fd ⟨[v], []⟩ [("script", v)]) ∧ (∀ (H : Hp) (a : Addr) (ns : List Int), ns.length ≤ 63 → H P1 = some (.tbl #[]) → SqL K H a (ns.map V.int) → sp [.ref a] H (fun v _ => v = .bl true) E0) ∧
      ∀ base : Heap, K.In base → base.Ns mainGlobals mg → TabB base mg c P1 → FnG l.prog w K mg base CX0 9 fa fd ["script"] sp := by
  have e := hfa.symm.trans (PySem.W.mg_of X G a21)
  cases e
  have F0 := fun_mk (st := s__shown) l0 c0 k0
  have b0 := F0.binds (ps := ["field"]) fun _ _ _ _ _ _ us hl => match us, hl with | [_], _ => rfl
  have g0 := PySem.W.mg_of X G a0
  have F1 := fun_mk (st := s_is_integer) l1 c1 k1
  have b1 := F1.binds (ps := ["value"]) fun _ _ _ _ _ _ us hl => match us, hl with | [_], _ => rfl
  have g1 := PySem.W.mg_of X G a1
  have F2 := fun_mk (st := s_is_within) l2 c2 k2
  have b2 := F2.binds (ps := ["value", "least", "most"]) fun _ _ _ _ _ _ us hl => match us, hl with | [_, _, _], _ => rfl
  have g2 := PySem.W.mg_of X G a2
  have F3 := fun_mk (st := s_are_integers) l3 c3 k3
  have b3 := F3.binds (ps := ["value", "many"]) fun _ _ _ _ _ _ us hl => match us, hl with | [_, _], _ => rfl
  have g3 := PySem.W.mg_of X G a3
  have F4 := fun_mk (st := s_is_fraction) l4 c4 k4
  have b4 := F4.binds (ps := ["value"]) fun _ _ _ _ _ _ us hl => match us, hl with | [_], _ => rfl
  have g4 := PySem.W.mg_of X G a4
  have F5 := fun_mk (st := s_need_integer) l5 c5 k5
  have b5 := F5.binds (ps := ["value", "part", "least", "most"]) fun _ _ _ _ _ _ us hl => match us, hl with | [_, _, _, _], _ => rfl
  have g5 := PySem.W.mg_of X G a5
  have F6 := fun_mk (st := s__need_two) l6 c6 k6
  have b6 := F6.binds (ps := ["one", "other"]) fun _ _ _ _ _ _ us hl => match us, hl with | [_, _], _ => rfl
  have g6 := PySem.W.mg_of X G a6
  have F7 := fun_mk (st := s_reduced) l7 c7 k7
  have b7 := F7.binds (ps := ["up", "down"]) fun _ _ _ _ _ _ us hl => match us, hl with | [_, _], _ => rfl
  have g7 := PySem.W.mg_of X G a7
  have F8 := fun_mk (st := s_added) l8 c8 k8
  have b8 := F8.binds (ps := ["one", "other"]) fun _ _ _ _ _ _ us hl => match us, hl with | [_, _], _ => rfl
  have g8 := PySem.W.mg_of X G a8
  have F9 := fun_mk (st := s_multiplied) l9 c9 k9
  have b9 := F9.binds (ps := ["one", "other"]) fun _ _ _ _ _ _ us hl => match us, hl with | [_, _], _ => rfl
  have g9 := PySem.W.mg_of X G a9
  have F10 := fun_mk (st := s_ways_of) l10 c10 k10
  have b10 := F10.binds (ps := ["far", "ticks"]) fun _ _ _ _ _ _ us hl => match us, hl with | [_, _], _ => rfl
  have g10 := PySem.W.mg_of X G a10
  have F11 := fun_mk (st := s_halved) l11 c11 k11
  have b11 := F11.binds (ps := ["up", "times"]) fun _ _ _ _ _ _ us hl => match us, hl with | [_, _], _ => rfl
  have g11 := PySem.W.mg_of X G a11
  have F12 := fun_mk (st := s_first_share) l12 c12 k12
  have b12 := F12.binds (ps := ["far", "ticks"]) fun _ _ _ _ _ _ us hl => match us, hl with | [_, _], _ => rfl
  have g12 := PySem.W.mg_of X G a12
  have F13 := fun_mk (st := s__first_best) l13 c13 k13
  have b13 := F13.binds (ps := ["far", "most"]) fun _ _ _ _ _ _ us hl => match us, hl with | [_, _], _ => rfl
  have g13 := PySem.W.mg_of X G a13
  have F14 := fun_mk (st := s_reach_rows) l14 c14 k14
  have b14 := F14.binds (ps := ["ticks"]) fun _ _ _ _ _ _ us hl => match us, hl with | [_], _ => rfl
  have g14 := PySem.W.mg_of X G a14
  have F15 := fun_mk (st := s_reach) l15 c15 k15
  have b15 := F15.binds (ps := ["ticks"]) fun _ _ _ _ _ _ us hl => match us, hl with | [_], _ => rfl
  have g15 := PySem.W.mg_of X G a15
  have F16 := fun_mk (st := s__law_tether) l16 c16 k16
  have b16 := F16.binds (ps := ["script"]) fun _ _ _ _ _ _ us hl => match us, hl with | [_], _ => rfl
  have g16 := PySem.W.mg_of X G a16
  have F17 := fun_mk (st := s__law_tug) l17 c17 k17
  have b17 := F17.binds (ps := ["tether", "many"]) fun _ _ _ _ _ _ us hl => match us, hl with | [_, _], _ => rfl
  have g17 := PySem.W.mg_of X G a17
  have F18 := fun_mk (st := s__law_rope) l18 c18 k18
  have b18 := F18.binds (ps := ["tether", "some"]) fun _ _ _ _ _ _ us hl => match us, hl with | [_, _], _ => rfl
  have g18 := PySem.W.mg_of X G a18
  have F19 := fun_mk (st := s__law_least) l19 c19 k19
  have b19 := F19.binds (ps := ["up", "down"]) fun _ _ _ _ _ _ us hl => match us, hl with | [_, _], _ => rfl
  have g19 := PySem.W.mg_of X G a19
  have F20 := fun_mk (st := s__law_greatest) l20 c20 k20
  have b20 := F20.binds (ps := ["far", "most"]) fun _ _ _ _ _ _ us hl => match us, hl with | [_, _], _ => rfl
  have g20 := PySem.W.mg_of X G a20
  have F21 := fun_mk (st := s_law) l21 c21 k21
  have F22 := fun_mk (st := s__law_part) l22 c22 k22
  have b22 := F22.binds (ps := ["ask"]) fun _ _ _ _ _ _ us hl => match us, hl with | [_], _ => rfl
  have g22 := PySem.W.mg_of X G a22
  have FI0 := fun_mk (x := "__init__") (qual := "BadNumber.__init__") (st := s_BadNumber___init__) lI0 cI0 kI0
  have bI0 := FI0.binds (ps := ["self", "part"]) fun _ _ _ _ _ _ us hl => match us, hl with | [_, _], _ => rfl
  have oe0 : OexC K C0 := ⟨⟨nm0, q0, N0, bs0, _, sn0, sub0, ab0, col0, dd0, m0_0, m1_0, m2_0, m3_0, m5_0, xC0, by rfl⟩, sa0, eC0, tC0, kC0⟩
  have TBadNumber : ErrT K mg "BadNumber" "HandError" C0 CB := { gC := PySem.W.mg_of X G aC0, gB := PySem.W.mg_of X G aB, exm := PySem.W.exm_ref eB hB tB sC0, oex := oe0, exc := ⟨ga0, gg0, eC0, hC0, cc0, oc1, oc2, mo0⟩, cls := isC0, xf := ⟨ga0, gg0, eC0, hC0⟩, he := ⟨rB, gB, iB⟩, noP := nb0 }
  have T : TxtF mg := { m_comb := PySem.W.mg_of X G z_comb, m_gcd := PySem.W.mg_of X G z_gcd, c_MOST_FAR := ⟨_, PySem.W.mg_of X G z_MOST_FAR, ⟨_, rfl⟩⟩, c_MOST_TICKS := ⟨_, PySem.W.mg_of X G z_MOST_TICKS, ⟨_, rfl⟩⟩, m_int := PySem.W.mg_none_of X G z_int, m_len := PySem.W.mg_none_of X G z_len, m_abs := PySem.W.mg_none_of X G z_abs, m_bool := PySem.W.mg_none_of X G z_bool, m_str := PySem.W.mg_none_of X G z_str, m_all := PySem.W.mg_none_of X G z_all, m_list := PySem.W.mg_none_of X G z_list, m_isinstance := PySem.W.mg_none_of X G z_isinstance, m_min := PySem.W.mg_none_of X G z_min, m_tuple := PySem.W.mg_none_of X G z_tuple, m_range := PySem.W.mg_none_of X G z_range, m_repr := PySem.W.mg_none_of X G z_repr, m_zip := PySem.W.mg_none_of X G z_zip }
  have T0 : Txt mg := ⟨T.m_int, T.m_len, T.m_abs⟩
  refine ⟨PySem.W.fnOf "law" "law" (defArgs s_law) (defBody s_law) (defScope s_law) .none kV21 dc21 pm21 an21 (.ref cL) ct21, cL, P1, spLaw K P1, tP, nP, PySem.W.codeHd_of_K X cP, fun s v => .of_eq rfl, fun H a ns hl hT hS => ⟨a, ns, rfl, hS, hl, hT, fun _ => rfl⟩, fun base _ _ TB => ?_⟩
  have C__shown : Cal l.prog w K mg base CX0 1 "_shown" spShown := ⟨f0, _, _, ok_shown F0 T.toTxtC, g0, k0, b0⟩
  have M_BadNumber : MkE l.prog w K mg base "BadNumber" C0 2 (spInit C0 ["part"]) := ⟨oe0, TBadNumber.gC, fI0, _, _, iC0, tI0, ok_BadNumber FI0 TBadNumber C__shown, bI0⟩
  have C_is_integer : Cal l.prog w K mg base CX0 1 "is_integer" spIsInt := ⟨f1, _, _, ok_is_integer F1 T.toTxtC, g1, k1, b1⟩
  have C_is_within : Cal l.prog w K mg base CX0 2 "is_within" spWithin := ⟨f2, _, _, ok_is_within F2 C_is_integer, g2, k2, b2⟩
  have C_are_integers : Cal l.prog w K mg base CX0 2 "are_integers" spAreInts := ⟨f3, _, _, ok_are_integers F3 T.toTxtC C_is_integer, g3, k3, b3⟩
  have C_is_fraction : Cal l.prog w K mg base CX0 3 "is_fraction" spFrac := ⟨f4, _, _, ok_is_fraction F4 T.toTxtC C_are_integers, g4, k4, b4⟩
  have C_need_integer : Cal l.prog w K mg base CX0 3 "need_integer" spNeed := ⟨f5, _, _, ok_need_integer F5 C_is_within, g5, k5, b5⟩
  have CX_need_integer : Cal l.prog w K mg base (L2.CX l.prog w) 4 "need_integer" (spNeedX C0) := ⟨f5, _, _, ok_needX F5 C_is_within M_BadNumber, g5, k5, b5⟩
  have C__need_two : Cal l.prog w K mg base CX0 4 "_need_two" spTwo := ⟨f6, _, _, ok_need_two F6 C_is_fraction, g6, k6, b6⟩
  have C_reduced : Cal l.prog w K mg base CX0 4 "reduced" spRed := ⟨f7, _, _, ok_reduced F7 T.toTxtC C_need_integer, g7, k7, b7⟩
  have C_added : Cal l.prog w K mg base CX0 5 "added" (spBin (· + ·)) := ⟨f8, _, _, ok_added F8 C__need_two C_reduced, g8, k8, b8⟩
  have C_multiplied : Cal l.prog w K mg base CX0 5 "multiplied" (spBin (· * ·)) := ⟨f9, _, _, ok_multiplied F9 C__need_two C_reduced, g9, k9, b9⟩
  have C_ways_of : Cal l.prog w K mg base CX0 1 "ways_of" spWays := ⟨f10, _, _, ok_ways_of F10 T.toTxtC, g10, k10, b10⟩
  have C_halved : Cal l.prog w K mg base CX0 1 "halved" spHalved := ⟨f11, _, _, ok_halved F11 T.toTxtC, g11, k11, b11⟩
  have C_first_share : Cal l.prog w K mg base CX0 4 "first_share" spFirst := ⟨f12, _, _, ok_first_share F12 T.toTxtC C_need_integer C_ways_of C_halved, g12, k12, b12⟩
  have C__first_best : Cal l.prog w K mg base CX0 1 "_first_best" spFB := ⟨f13, _, _, ok_first_best F13, g13, k13, b13⟩
  have CX_reach_rows : Cal l.prog w K mg base (L2.CX l.prog w) 5 "reach_rows" (spRR C0) := ⟨f14, _, _, ok_reach_rows F14 T.toTxtC CX_need_integer C__first_best C_first_share, g14, k14, b14⟩
  have CX_reach : Cal l.prog w K mg base (L2.CX l.prog w) 6 "reach" (spReach C0) := ⟨f15, _, _, ok_reach F15 CX_reach_rows C_added C_multiplied, g15, k15, b15⟩
  have CKX_reach_rows_ticks : CalK l.prog w K mg base (L2.CX l.prog w) 5 "reach_rows" ["ticks"] [0] (spRR C0) := ⟨f14, _, _, ok_reach_rows F14 T.toTxtC CX_need_integer C__first_best C_first_share, g14, k14, kwBinds (ks := ["ticks"]) (ix := [0]) F14 fun _ _ _ _ _ _ ws hl => match ws, hl with | [_], _ => rfl⟩
  have CKX_reach_ticks : CalK l.prog w K mg base (L2.CX l.prog w) 6 "reach" ["ticks"] [0] (spReach C0) := ⟨f15, _, _, ok_reach F15 CX_reach_rows C_added C_multiplied, g15, k15, kwBinds (ks := ["ticks"]) (ix := [0]) F15 fun _ _ _ _ _ _ ws hl => match ws, hl with | [_], _ => rfl⟩
  have C__law_tether : Cal l.prog w K mg base CX0 1 "_law_tether" (spRiddle K) := ⟨f16, _, _, ok_riddle F16 T0, g16, k16, b16⟩
  have C__law_tug : Cal l.prog w K mg base CX0 1 "_law_tug" spDraw := ⟨f17, _, _, ok_shake F17 T0, g17, k17, b17⟩
  have C__law_rope : Cal l.prog w K mg base CX0 2 "_law_rope" spPick := ⟨f18, _, _, ok_pick F18 T0 C__law_tug, g18, k18, b18⟩
  have C__law_least : Cal l.prog w K mg base CX0 1 "_law_least" spLeast := ⟨f19, _, _, ok_least F19 T0, g19, k19, b19⟩
  have C__law_greatest : Cal l.prog w K mg base CX0 1 "_law_greatest" spGr := ⟨f20, _, _, ok_greatest F20 T.toTxtC, g20, k20, b20⟩
  have Te__law_part : Tells l.prog w K mg base "_law_part" 7 (TTpart C0) := tells_part F22 g22 k22 b22 TBadNumber T.m_isinstance
  exact ok_law F21 rfl TB T C__law_tether C__law_tug C__law_rope C__law_least C__law_greatest CX_reach CX_reach_rows CKX_reach_ticks CKX_reach_rows_ticks Te__law_part
end K21
open PySem PySem.W PyProof.Rows
set_option maxHeartbeats 0 in
theorem PySem.Challenge.cw_nodice_k21_reaches_by_own_first_shares_holds : PySem.Challenge.rw_nodice_k21_reaches_by_own_first_shares.Holds := by
  w_on; o_law; k_head; (case hw => w_witness2)
  k_fill
  refine Nd.walkT (l := PySem.Challenge.rw_nodice_k21_reaches_by_own_first_shares) (n := 63) (k := 9) (x := "script") (CX := fun _ => L2.CX0) rfl (by decide) rfl ⟨rfl, by decide, by decide⟩ (fun w h Y => PySem.W.km_in_of Y) ?F (fun _ _ _ _ _ h => h)
  case F =>
    intro w mg fa h Y KX G hmg
    refine' K21.all_mk KX G hmg ?a0 ?l0 ?c0 ?k0 ?a1 ?l1 ?c1 ?k1 ?a2 ?l2 ?c2 ?k2 ?a3 ?l3 ?c3 ?k3 ?a4 ?l4 ?c4 ?k4 ?a5 ?l5 ?c5 ?k5 ?a6 ?l6 ?c6 ?k6 ?a7 ?l7 ?c7 ?k7 ?a8 ?l8 ?c8 ?k8 ?a9 ?l9 ?c9 ?k9 ?a10 ?l10 ?c10 ?k10 ?a11 ?l11 ?c11 ?k11 ?a12 ?l12 ?c12 ?k12 ?a13 ?l13 ?c13 ?k13 ?a14 ?l14 ?c14 ?k14 ?a15 ?l15 ?c15 ?k15 ?a16 ?l16 ?c16 ?k16 ?a17 ?l17 ?c17 ?k17 ?a18 ?l18 ?c18 ?k18 ?a19 ?l19 ?c19 ?k19 ?a20 ?l20 ?c20 ?k20 ?a21 ?l21 ?c21 ?k21 ?a22 ?l22 ?c22 ?k22 ?z_int ?z_len ?z_abs ?z_bool ?z_str ?z_all ?z_list ?z_isinstance ?z_min ?z_tuple ?z_range ?z_repr ?z_zip ?z_comb ?z_gcd ?z_MOST_FAR ?z_MOST_TICKS ?aB ?eB ?hB ?tB ?rB ?gB ?iB ?oc1 ?oc2 ?aC0 ?xC0 ?sa0 ?ga0 ?gg0 ?nb0 ?cc0 ?mo0 ?iC0 ?tI0 ?lI0 ?cI0 ?kI0 ?kC0 ?eC0 ?tC0 ?hC0 ?isC0 ?sC0 ?tP ?nP ?cP
    (case a0 => k_is); (case l0 => k_is); (case c0 => k_is); (case k0 => k_is); (case a1 => k_is); (case l1 => k_is); (case c1 => k_is); (case k1 => k_is); (case a2 => k_is); (case l2 => k_is); (case c2 => k_is); (case k2 => k_is); (case a3 => k_is); (case l3 => k_is); (case c3 => k_is); (case k3 => k_is); (case a4 => k_is); (case l4 => k_is); (case c4 => k_is); (case k4 => k_is); (case a5 => k_is); (case l5 => k_is); (case c5 => k_is); (case k5 => k_is); (case a6 => k_is); (case l6 => k_is); (case c6 => k_is); (case k6 => k_is); (case a7 => k_is); (case l7 => k_is); (case c7 => k_is); (case k7 => k_is); (case a8 => k_is); (case l8 => k_is); (case c8 => k_is); (case k8 => k_is); (case a9 => k_is); (case l9 => k_is); (case c9 => k_is); (case k9 => k_is); (case a10 => k_is); (case l10 => k_is); (case c10 => k_is); (case k10 => k_is); (case a11 => k_is); (case l11 => k_is); (case c11 => k_is); (case k11 => k_is); (case a12 => k_is); (case l12 => k_is); (case c12 => k_is); (case k12 => k_is); (case a13 => k_is); (case l13 => k_is); (case c13 => k_is); (case k13 => k_is); (case a14 => k_is); (case l14 => k_is); (case c14 => k_is); (case k14 => k_is); (case a15 => k_is); (case l15 => k_is); (case c15 => k_is); (case k15 => k_is); (case a16 => k_is); (case l16 => k_is); (case c16 => k_is); (case k16 => k_is); (case a17 => k_is); (case l17 => k_is); (case c17 => k_is); (case k17 => k_is); (case a18 => k_is); (case l18 => k_is); (case c18 => k_is); (case k18 => k_is); (case a19 => k_is); (case l19 => k_is); (case c19 => k_is); (case k19 => k_is); (case a20 => k_is); (case l20 => k_is); (case c20 => k_is); (case k20 => k_is); (case a21 => k_is); (case l21 => k_is); (case c21 => k_is); (case k21 => k_is); (case a22 => k_is); (case l22 => k_is); (case c22 => k_is); (case k22 => k_is); (case z_int => k_is); (case z_len => k_is); (case z_abs => k_is); (case z_bool => k_is); (case z_str => k_is); (case z_all => k_is); (case z_list => k_is); (case z_isinstance => k_is); (case z_min => k_is); (case z_tuple => k_is); (case z_range => k_is); (case z_repr => k_is); (case z_zip => k_is); (case z_comb => k_is); (case z_gcd => k_is); (case z_MOST_FAR => k_is); (case z_MOST_TICKS => k_is); (case aB => k_is); (case eB => k_is); (case hB => k_is); (case tB => k_is); (case rB => k_is); (case gB => k_is); (case iB => k_is); (case oc1 => k_is); (case oc2 => k_is); (case aC0 => k_is); (case xC0 => k_is); (case sa0 => k_is); (case ga0 => k_is); (case gg0 => k_is); (case nb0 => k_is); (case cc0 => k_is); (case mo0 => k_is); (case iC0 => k_is); (case tI0 => k_is); (case lI0 => k_is); (case cI0 => k_is); (case kI0 => k_is); (case kC0 => k_is); (case eC0 => k_is); (case tC0 => k_is); (case hC0 => k_is); (case isC0 => k_is); (case sC0 => k_is)
    (case tP => exact PySem.W.km_tabs_of Y _ (List.Mem.head _)); (case nP => kernel_rfl); (case cP => kernel_rfl)
