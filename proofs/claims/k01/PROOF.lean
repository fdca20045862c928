import PyProof.Rows.All
import Wide.All
import OpenK.AllK
import Wide.FinOn
import HandS.ForMost
import HandS.IsInst
import HandS.Walk
import HandS.Wide
import HandS.StrMore
import HandS.Codes
import PyProof.ReprRoads
import PyProof.Rows.NestShow
import HandS.SetBool
import HandS.SetKeys
import HandS.Defaults
import HandS.MakeKwOnly
import HandS.TupMul
import HandS.Style
import PyProof.StrLawsRepr
import HandS.TupAny
import HandS.Flow
import PySem.Challenge.RW_playstead_k01_rules_made
set_option Elab.async false
set_option linter.all false
set_option maxRecDepth 100000
/-! Calls of defs whose promise holds where no object is being shown (no guard stands around): for repr. -/
namespace G0
open PySem PySem.Spec PyProof.Rows L2
/-- as FnOk, where no guard stands around -/
structure FnG (P : Program) (w : World) (K : PySem.W.Frag) (mg : Str → Option Value) (base : Heap) (CX : CXT) (k : Nat)
    (f : Addr) (fd : FuncData) (ps : List Str) (sp : Sp) : Prop where
  len : ∀ vs H Q E, sp vs H Q E → vs.length = ps.length
  run : ∀ (A : Around) (outer : List Env) (s : Shared) (H : Hp) (args : Args) (us : List Value) (vs : List V) (Q : VK) (E : XK),
    A.guards = some [] → Room k A → Env0 P w K mg base A outer s H → BindsTo s fd args (ps.zip us) → Vals vs us → sp vs H Q E →
      codeAny (model P w) A (.call (.ref f) args) (CR CX outer P w H s Q E) s
section
variable {P : Program} {w : World} {K : PySem.W.Frag} {mg : Str → Option Value} {base : Heap}
theorem okG {x qual : Str} {st : Stmt} {f : Addr} {fd : FuncData} {N ps : List Str} {k : Nat} {sp : Sp}
    (F : Fun K x qual st f fd) (S : FnScope N ps (defScope st)) (len : ∀ vs H Q E, sp vs H Q E → vs.length = ps.length)
    (hbody : ∀ (cdv : Value) (A : Around) (outer : List Env) (s : Shared) (H : Hp) (vs : List V) (Q : VK) (E : XK),
      A.guards = some [] → Room k (A.deeper (envOfC qual (defScope st) s.heap.objs.size f cdv)) → sp vs H Q E →
      ∃ t, PSs (cxOf CX0 P w K mg base N qual (defScope st) f cdv A outer s H E).nox (defBody st) t ∧
        t { nx := fun _ H' => Q .non H', rt := Q } (start N vs) H) :
    FnG P w K mg base CX0 (k + 1) f fd ps sp := by
  obtain ⟨oc, od, kV, doc, pm, an, cdv, ct, osl, rfl, lk, hcd⟩ := F.ex
  refine ⟨len, ?_⟩
  intro A outer s H args us vs Q E hgu hr e0 hb r hsp
  have hl : vs.length = ps.length := len _ _ _ _ hsp
  have KX : K.In s.heap := e0.mod.kin.keeps (fun b o e => (e0.bs b o e).1)
  have lim : s.heap.NoLimit := e0.mod.nolimit.keeps (fun b o e => (e0.bs b o e).1)
  have hkind : ∀ y ∈ ps.zip us, (defScope st).names.lookup y.1 = some .local ∨
      ((defScope st).names.lookup y.1 = some .cell ∧ ((cellsFrom (s.heap.objs.size + 1) (defScope st).names []).lookup y.1).isSome = true) := by
    rintro ⟨n, v⟩ hy
    rcases S.par n (List.of_mem_zip hy).1 with q | q
    · exact Or.inl q
    · exact Or.inr ⟨q, PySem.W.cellsFrom_some _ _ _ (Or.inl q)⟩
  refine codeAny_call_function hr.depth (KX _ _ lk) rfl S.co S.gen rfl
    (PySem.W.codeRec_of KX hcd) (hb _ _ _ _ ?_)
  refine wpAny_newFunctionEnv_cells S.kind hkind ?_
  intro env he s1 x
  subst he
  refine ⟨lim.keeps x.toInCall.keep, codeAny_func ?_⟩
  obtain ⟨t, ht0, hq⟩ := hbody cdv A outer s H vs Q E hgu (hr.deeper _) hsp
  have ht := ht0.nox
  have I : Inv (cxOf CX0 P w K mg base N qual (defScope st) f cdv A outer s H E) [] (start N vs) H s1 :=
    inv_start S hr.hd e0 hl r x
  refine wpAny_mono (ht.run [] s1 (start N vs) H _ I hq) ?_ (fun e s' hs => hs)
  intro fl s' hs
  cases fl with
  | ret u =>
    obtain ⟨v, σ', H', J, rv, q⟩ := hs
    exact ⟨v, H', J.os, J.bare, J.base, J.hok, rv, q⟩
  | next =>
    obtain ⟨σ', H', J, q⟩ := hs
    exact ⟨V.non, H', J.os, J.bare, J.base, J.hok, rfl, q⟩
  | brk =>
    obtain ⟨_, _, _, q⟩ := hs
    exact q.elim
  | cont =>
    obtain ⟨_, _, _, q⟩ := hs
    exact q.elim
end
section
variable {X : Cx} {CX : CXT} {k : Nat} {f : Addr} {fd : FuncData} {ps : List Str} {sp : Sp} {E : XK} {x : Str} {p pos : Pos} {e : Expr} {es : List Expr} {t : TA}
theorem pe_callG (gu : X.A.guards = some []) (F : FnG X.prog X.w X.K X.mg X.base CX k f fd ps sp) (hr : Room k X.A) (hg : Gl X x)
    (hm : X.mg x = some (.ref f)) (hk : PySem.W.keepIn X.K (.ref f) = true) (hb : Binds X.K fd ps []) (hx : Passes CX X E) (ha : PA X (e :: es) t)
    (hdb : (x == ("__debug__" : Str)) = false := by decide)
    (he : starEach (e :: es) X.env = (false, eval e X.env) :: starEach es X.env := by rfl)
    (hpl : (backTo pos (starEach es X.env)).any (·.1) = false := by rfl) :
    PE X (.Call (.Name x p) (e :: es) [] pos) (tCall sp [] E t) := by
  constructor
  intro pins s σ H Q I h
  refine wpAny_Call_Name_kw ?_
  refine ld_glob I hg hm ?_ hdb
  refine PySem.W.callWith_K (h₀ := X.base) I.ok.mod.kin hk ?_ he hpl
  refine thn (ha.run pos pins s σ H _ I h) ?_
  rintro us s1 ⟨vs, H1, I1, r, q⟩
  refine ⟨I1.kIn, ?_⟩
  have r2 : Vals (vs ++ []) (us ++ []) := by
    rw [List.append_nil, List.append_nil]
    exact r
  have hl : (us ++ []).length = ps.length := by
    rw [← r2.length]
    exact F.len _ _ _ _ q
  refine wpAny_call (codeAny_mono (F.run X.A X.stack s1 H1 ⟨us, []⟩ (us ++ []) (vs ++ []) Q E gu hr I1.env0 (hb s1 us I1.kIn hl) r2 q) ?_)
  intro r s' hq
  match r, hq with
  | .error e, hq => exact hx pins σ H1 s1 e s' I1 hq
  | .ok (.ret u), hq => exact I1.after hq
  | .ok .next, hq => exact False.elim hq
  | .ok .brk, hq => exact False.elim hq
  | .ok .cont, hq => exact False.elim hq
end
/-- what the law's row asks, from such a promise of its def -/
theorem law_callG {P : Program} {w : World} {K : PySem.W.Frag} {mg mb : Str → Option Value} {k : Nat} {fa a : Addr} {fd : FuncData} {x : Str} {sp : Sp}
    {s₁ : Shared} {vs : List Value} {ns : List Int} (KX : K.In s₁.heap) (hns : s₁.heap.Ns mainGlobals mg) (hb : s₁.heap.Ns builtinsNs mb)
    (hbb : ∀ x : Str, x ≠ "__name__" → mb x = bootBuiltins x) (hlim : s₁.heap.NoLimit) (hg : s₁.gens = #[])
    (ha : s₁.heap.get? a = some { cls := .type "list", data := .seq vs.toArray }) (hi : IntsAre vs ns) (hl : ns.length ≤ sizeLine) (hr : Room k callerA)
    (F : ∀ base : Heap, K.In base → base.Ns mainGlobals mg → FnG P w K mg base CX0 k fa fd [x] sp)
    (hbind : ∀ (s : Shared) (u : Value), BindsTo s fd ⟨[u], []⟩ [(x, u)])
    (hsp : ∀ H : Hp, Only H → SqL K H a (ns.map V.int) → sp [.ref a] H (fun v _ => v = .bl true) fun _ _ _ => False) :
    codeAny (model P w) callerA (.call (.ref fa) ⟨[.ref a], []⟩)
      (fun r s' => r = .ok (.ret (.bool true)) ∧ OldK s₁.heap s'.heap ∧ s'.os = s₁.os ∧ AllBare s'.gens) s₁ := by
  have rv : Vals (ns.map V.int) vs := vals_ints hi
  have lenV : vs.length = ns.length := hi.length
  have core : ∀ H : Hp, Only H → SqL K H a (ns.map V.int) → HOk P w H s₁.heap → (∀ b, H b ≠ none → b = a) → (H a ≠ none → K.lookup a = none) →
      codeAny (model P w) callerA (.call (.ref fa) ⟨[.ref a], []⟩)
        (fun r s' => r = .ok (.ret (.bool true)) ∧ OldK s₁.heap s'.heap ∧ s'.os = s₁.os ∧ AllBare s'.gens) s₁ := by
    intro H hO hS hok hA hK
    have isA : ∀ {b : Addr} {u : HO}, H b = some u → b = a := by
      intro b u q
      exact hA b (by rw [q]; exact fun z => by cases z)
    have base_of : ∀ {b : Addr} {o : Obj}, s₁.heap.get? b = some o → H b = none → (hidT s₁.heap H).get? b = some o :=
      fun e n => hidT_get e n
    have noA : ∀ {b : Addr} {o : Obj} {es : Array DictEntry} {ep : Nat}, s₁.heap.get? b = some o → o.data = .dict es ep → H b = none := by
      intro b o es ep e d
      cases q : H b with
      | none => rfl
      | some u =>
        rw [isA q, ha] at e
        cases e
        cases (show Data.seq vs.toArray _ = Data.dict es ep from d)
    have nsK : ∀ {b : Addr} {m : Str → Option Value}, s₁.heap.Ns b m → (hidT s₁.heap H).Ns b m := by
      rintro b m ⟨o, es, ep, e, d, r⟩
      exact ⟨o, es, ep, base_of e (noA e d), d, r⟩
    have hKb : K.In (hidT s₁.heap H) := by
      intro b o e
      refine base_of (KX b o e) ?_
      cases q : H b with
      | none => rfl
      | some u =>
        have ea := isA q
        rw [ea] at e q
        rw [hK (by rw [q]; exact fun z => by cases z)] at e
        cases e
    have hM : Mod K mg (hidT s₁.heap H) := by
      obtain ⟨mc, h1, h2⟩ := hlim
      exact ⟨hKb, nsK hns, ⟨mb, nsK hb, hbb⟩, mc, nsK h1, h2⟩
    have e0 : Env0 P w K mg (hidT s₁.heap H) callerA [] s₁ H := by
      refine ⟨rfl, hM, fun b o e => of_hidT e, ?_, trivial, ?_, hok, .of_eq hg⟩
      · exact Nat.le_of_eq (hidT_size _ _)
      · intro b hb
        cases hb
    have run := (F _ hKb (nsK hns)).run callerA [] s₁ H ⟨[.ref a], []⟩ [.ref a] [.ref a] _ _ rfl hr e0 (hbind s₁ (.ref a)) (.cons rfl .nil) (hsp H hO hS)
    refine codeAny_mono run ?_
    intro r s' h
    match r, h with
    | .error e, h => exact False.elim h
    | .ok .next, h => exact False.elim h
    | .ok .brk, h => exact False.elim h
    | .ok .cont, h => exact False.elim h
    | .ok (.ret u), h =>
      obtain ⟨v, H', os, bare, un, hok', r', q⟩ := h
      cases (show v = .bl true from q)
      cases (show u = Value.bool true from r')
      refine ⟨rfl, OldK.of_keep ?_, os, bare⟩
      intro b o e
      cases q : H b with
      | none => exact un.keep b o e q (fun z => by cases z) (fun z => by cases z)
      | some u =>
        rcases hO b with z | ⟨ob, xs, z⟩
        · rw [q] at z
          cases z
        · have e1 := (hok b _ z).1
          have e2 := (hok' b _ (un.frzs b ob _ z)).1
          rw [e] at e1
          cases e1
          exact e2
  cases hk : K.lookup a with
  | some o =>
    have e := KX a o hk
    rw [ha] at e
    cases e
    refine core (fun _ => none) (fun _ => Or.inl rfl) (Or.inr ⟨_, vs.toArray, _, hk, rfl, rfl, rfl, ?_, ?_⟩) ?_ ?_ ?_
    · rw [List.size_toArray, lenV]
      exact hl
    · simpa using rv
    · intro b u z
      cases (show (none : Option HO) = some u from z)
    · intro b z
      exact absurd rfl z
    · intro z
      exact absurd rfl z
  | none =>
    let ob : Obj := { cls := .type "list", data := .seq vs.toArray }
    let H1 : Hp := fun b => if b = a then some (.frz ob (.lst (ns.map V.int))) else none
    have at_ : H1 a = some (.frz ob (.lst (ns.map V.int))) := if_pos rfl
    have off : ∀ b, b ≠ a → H1 b = none := fun b hb => if_neg hb
    refine core H1 ?_ (Or.inl (Or.inr ⟨ob, at_⟩)) ?_ ?_ (fun _ => hk)
    · intro b
      by_cases hb : b = a
      · exact Or.inr ⟨_, _, hb ▸ at_⟩
      · exact Or.inl (off b hb)
    · intro b u z
      by_cases hb : b = a
      · rw [hb, at_] at z
        cases z
        subst hb
        refine ⟨ha, ?_, vs, _, rv, ha⟩
        rw [List.length_map]
        exact hl
      · rw [off b hb] at z
        cases z
    · intro b z
      by_cases hb : b = a
      · exact hb
      · exact absurd (off b hb) z
theorem walkG {l : PySem.W.OpenLaw} {n k : Nat} {q : Program} {loose : List Str} {XP : (Str → Option Value) → Heap → Prop} {YP : World → Heap → Prop}
    {d : DefRec} {K : Params → PySem.W.Frag} {sp : PySem.W.Frag → Sp} {x : Str}
    (hn : l.most = some n) (hn2 : n ≤ sizeLine) (hdf : d.params.defaults = []) (hr : Room k callerA)
    (hY : ∀ (w : World) (h : Heap), YP w h → (K w.params).In h)
    (F : ∀ (w : World) (mg : Str → Option Value) (fa : Addr) (h : Heap), (K w.params).In h → h.Ns mainGlobals mg → mg d.name = some (.ref fa) →
      ∃ fd : FuncData, (∀ (s : Shared) (u : Value), BindsTo s fd ⟨[u], []⟩ [(x, u)]) ∧
        ∀ base : Heap, (K w.params).In base → base.Ns mainGlobals mg → FnG l.prog w (K w.params) mg base CX0 k fa fd [x] (sp (K w.params)))
    (hsp : ∀ (K : PySem.W.Frag) (H : Hp) (a : Addr) (ns : List Int), ns.length ≤ n → Only H → SqL K H a (ns.map V.int) →
      sp K [.ref a] H (fun v _ => v = .bl true) fun _ _ _ => False) :
    PySem.W.WalkO q loose XP YP l.row.toRowW d [] (fun f vs => PySem.call f vs) := by
  refine Att.attach_call hn hdf ?_
  intro w s₀ s₁ mg mb fa o pm cd doc a vs ns G Y ho hd hcd hmg hobj hints hlen hg
  have KX := hY w _ Y
  obtain ⟨fd, hb, hF⟩ := F w mg fa _ KX G.T.g hmg
  refine law_callG KX G.T.g G.T.b G.T.builtins G.T.nolimit hg hobj hints (Nat.le_trans hlen hn2) hr hF hb ?_
  intro H hO hS
  exact hsp _ H a ns hlen hO hS
/-! ### repr -/
theorem Dp.display {K : PySem.W.Frag} {H : Hp} {x : V} {d : PyData} (h : Dp K H x d) (hd : isDisplay d = true) : ∃ a, x = .ref a := by
  cases h with
  | lst _ _ => exact ⟨_, rfl⟩
  | tup _ _ => exact ⟨_, rfl⟩
  | non => cases hd
  | bl _ => cases hd
  | int _ => cases hd
  | str _ => cases hd
def rShown (K : PySem.W.Frag) : List V → Hp → VK → Prop := fun xs H Q => ∃ (x : V) (d : PyData), xs = [x] ∧ Dp K H x d ∧ isDisplay d = true ∧
  d.showable = true ∧ d.hasDict = false ∧ d.depth ≤ 64 ∧ d.shown.length ≤ sizeLine ∧ Q (.str d.shown) H
theorem call_shown {X : Cx} (gu : X.A.guards = some []) (hu : X.A.units + 80 < cLine) : CallR X (.builtin "repr") (rShown X.K) := by
  intro pins s σ H xs us Q I r h
  obtain ⟨x, d, rfl, hd, dsp, hs, hnd, hdep, hsz, q⟩ := h
  obtain ⟨a, rfl⟩ := Dp.display hd dsp
  cases r with
  | cons r1 r2 =>
    cases r2
    cases (show _ = Value.ref a from r1)
    obtain ⟨as, R⟩ := Dp.reads I d _ _ hd rfl
    refine repr_of_reads' R hs (PyData.noDict_hsm hnd) gu (by omega) (fun _ _ e => e) ?_ hsz
    intro h' u tk hk
    exact ⟨.str _, H, I.kept hk, ⟨u, rfl⟩, q⟩
end G0
set_option maxHeartbeats 2000000
/-! {f(x) for x in xs}: a set of numbers or texts, and how many it holds. -/
namespace S0
open PySem PySem.Spec PyProof.Rows L2
theorem empty_keys {P : Program} {w : World} {h : Heap} : (h.push { cls := .type "set", dict := none, data := .set #[] 0 (.fresh 0 0 (!w.params.followText "set-order")) }).SetOf (mixKind P w) h.objs.size (fun _ => false) 0 := by
  refine ⟨_, #[], 0, _, Heap.get?_push_size _ rfl, ⟨rfl, rfl, rfl⟩, rfl, ?_, ?_, by decide, by rfl, rfl⟩
  · intro e he
    simp at he
  · intro k
    simp
/-- the step of a set: one key more -/
def plus (S : Key → Bool) (k : Key) : Key → Bool := fun j => S j || decide (j = k)
def plusN (S : Key → Bool) (k : Key) (n : Nat) : Nat := if S k = true then n else n + 1
/-- what a turn of the set's loop asks -/
def kTurn (P : Program) (w : World) (D : Addr) (g : TG) (tt : TT) (te : TE) (vs : List Nat) (σ0 : L2.St) (x : V) (H : Hp) (Nx : Hp → Prop) : Prop :=
  g x σ0 H fun σ2 H2 => wipe σ2 vs = σ0 ∧ tt σ2 H2 fun b H3 =>
    if b = true then te σ2 H3 fun y H4 => ∃ (k : Key) (S : Key → Bool) (n : Nat), y = kV k ∧ H4 D = some (SetK P w D S n) ∧ n + 1 < scanBound ∧ Nx (upd H4 D (SetK P w D (plus S k) (plusN S k n)))
    else Nx H3
/-- {elt for target in iter if ..}, elt a number or a text: D the new set -/
def tKeys (P : Program) (w : World) (wi : TI) (g : TG) (tt : TT) (te : TE) (vs : List Nat) : TE := fun σ H Q => wi σ H fun J H1 => ∀ D, H1 D = none →
  ∃ W : Nat → Nat → Hp → Prop, (∃ m, W 0 m (upd H1 D (SetK P w D (fun _ => false) 0))) ∧ ∀ i m H, W i m H →
    (J.stop i H ∧ Q (.ref D) H) ∨
    (J.go i H ∧ ∃ Nx : Hp → Prop, (∀ H', Nx H' → ∃ m', m' < m ∧ W (i + 1) m' H') ∧ ∀ x H', J.yld i H x H' → kTurn P w D g tt te vs (wipe σ vs) x H' Nx)
section
variable {B : Cx}
theorem put_key {pins : List (Addr × Obj)} {σ : L2.St} {H : Hp} {s : Shared} {E : Value → Shared → Prop} {D : Addr} {S : Key → Bool} {n : Nat} {k : Key} {u : Value} {Q : Value → Shared → Prop}
    (I : Inv B pins σ H s) (hD : H D = some (SetK B.prog B.w D S n)) (r : RelV (kV k) u) (room : n + 1 < scanBound)
    (h : ∀ s', Inv B pins σ (upd H D (SetK B.prog B.w D (plus S k) (plusN S k n))) s' → Q .none s') :
    wpAny (model B.prog B.w) B.A (call (.builtin "set.add") [.ref D, u]) Q E s := by
  apply call_set_add (kV_is r) (key_scan r) (setK_get I hD) room
  intro h' sb new
  have he : ∃ o, h'.get? D = some o := ⟨_, new.choose_spec.choose_spec.choose_spec.choose_spec.1⟩
  refine h _ (I.write (e := D) (t' := s.toks + 1) ?_ (Or.inl rfl) ?_ he (setK_new new))
  · rw [hD]
    trivial
  · intro b o hb hu
    exact (sb.2 b hb).trans hu
/-- the loop of the block, in the block's own context B -/
theorem keys_loop {σ0 : L2.St} {D it : Addr} {fp : List Addr} {tn : Nat → Heap → Prop} {J : It} {elt tg iter : Expr} {ifs : List Expr} {scope : Scope} {pos : Pos} {g : TG} {tt : TT} {te : TE} {vs : List Nat}
    {R : Result → Shared → Prop} {W : Nat → Nat → Hp → Prop} {Qd : Hp → Prop} (cm : B.calm = true) (T : Turn B.prog B.w B.K tg J fp it tn)
    (pg : PG B tg g) (pt : PTs B ifs tt) (pe : PE B elt te) (xF : ∀ e s, B.xe e s → False)
    (fpo : ∀ σ H s, Inv B [] σ H s → (∀ b ∈ fp, H b = none) → ∀ b ∈ fp, FpOk B [] H b)
    (step : ∀ i m H, W i m H → (J.stop i H ∧ Qd H) ∨
      (J.go i H ∧ ∃ Nx : Hp → Prop, (∀ H', Nx H' → ∃ m', m' < m ∧ W (i + 1) m' H') ∧ ∀ x H', J.yld i H x H' → kTurn B.prog B.w D g tt te vs σ0 x H' Nx))
    (fin : ∀ H s, Inv B [] σ0 H s → Qd H → R (.ok .next) s) (m : Nat) (i : Nat) (H : Hp) (s : Shared)
    (I : Inv B [] σ0 H s) (st : tn i s.heap) (nf : ∀ b ∈ fp, H b = none) (hW : W i m H) :
    codeAny (model B.prog B.w) B.A (.compLoop (.SetComp elt [⟨tg, iter, ifs, 0⟩] scope pos) 0 (.ref it) (.ref D) B.env) R s := by
  have weaken : ∀ {α : Type} {t : Sem α} {Q : α → Shared → Prop} {E : Value → Shared → Prop} {s : Shared}, wpAny (model B.prog B.w) B.A t Q B.xe s → wpAny (model B.prog B.w) B.A t Q E s :=
    fun h => wpAny_mono h (fun _ _ q => q) (fun e s q => (xF e s q).elim)
  refine PpSet.compLoopS_any (fun m s => ∃ i H, Inv B [] σ0 H s ∧ tn i s.heap ∧ (∀ b ∈ fp, H b = none) ∧ W i m H) ?_ m ⟨i, H, I, st, nf, hW⟩
  clear I st nf hW s H i m
  rintro m s ⟨i, H, I, st, nf, hW⟩
  rcases step i m H hW with ⟨stop, qd⟩ | ⟨go, Nx, hNx, body⟩
  · refine thn (T.done B rfl rfl rfl cm i [] s σ0 H _ I (fpo σ0 H s I nf) st stop) ?_
    rintro r s' ⟨rfl, I'⟩
    exact fin H s' I' qd
  · refine thn (T.item B rfl rfl rfl cm i [] s σ0 H _ I (fpo σ0 H s I nf) st go) ?_
    rintro r s1 ⟨u, rfl, h1⟩
    refine thn h1 ?_
    rintro _ s2 ⟨x, H2, I2, rx, yl, st2, nf2⟩
    have P2 := I2.pinned (fpo σ0 H2 s2 I2 nf2) (T.obj _ _ st2)
    refine thn (weaken (pg.run _ s2 _ H2 x u _ P2 rx (body x H2 yl))) ?_
    rintro _ s3 ⟨σ3, H3, I3, ew, q3⟩
    refine thn (weaken (pt.run _ s3 σ3 H3 _ I3 q3)) ?_
    rintro b s4 ⟨H4, I4, q4⟩
    have back : ∀ {s' : Shared} {H' : Hp}, Inv B ([] ++ pinsAt fp s2.heap) σ3 H' s' → Nx H' →
        ∃ m', m' < m ∧ ∃ i H, Inv B [] σ0 H s' ∧ tn i s'.heap ∧ (∀ b ∈ fp, H b = none) ∧ W i m' H := by
      intro s' H' I' nx
      obtain ⟨m', lt, hw⟩ := hNx H' nx
      have held : ∀ b ∈ fp, ∀ o, s2.heap.get? b = some o → s'.heap.get? b = some o ∧ H' b = none := by
        intro b hb o e
        have z := I'.pin (b, o) (List.mem_append_right _ (List.mem_append_right _ (mem_pinsAt hb e)))
        exact ⟨z.1, z.2.1⟩
      refine ⟨m', lt, i + 1, H', (I'.unpinned (pins := [])).weak ?_ ?_, ?_, ?_, hw⟩
      · rw [← ew, wipe_length]
      · intro j v e
        rw [← ew] at e
        exact (wipe_some e).1
      · exact T.keep _ _ _ st2 fun b hb o e => (held b hb o e).1
      · intro b hb
        obtain ⟨o, e, _⟩ := T.obj _ _ st2 b hb
        exact (held b hb o e).2
    cases b with
    | false => exact back I4 q4
    | true =>
      refine thn (weaken (pe.run _ s4 σ3 H4 _ I4 q4)) ?_
      rintro v s5 ⟨y, H5, I5, ry, k, S, n, rfl, hD, room, nx⟩
      exact put_key I5 hD ry room fun s6 I6 => back I6 nx
end
section
variable {X : Cx}
theorem pe_keys {elt tg iter : Expr} {ifs : List Expr} {scope : Scope} {own : List (Str × Nat)} {pos : Pos} {wi : TI} {g : TG} {tt : TT} {te : TE}
    (hc : X.calm = true) (hN : X.N.Nodup) (hi : PI X tg iter wi) (ok : BlkOk X.N X.env.scope scope own)
    (pg : ∀ (s : Shared) (H : Hp) (C : Addr) (cl : List (Str × Addr)) (fp : List Addr), PG (X.blk s H scope (compEnvC scope cl C X.env) fp) tg g)
    (pt : ∀ (s : Shared) (H : Hp) (C : Addr) (cl : List (Str × Addr)) (fp : List Addr), PTs (X.blk s H scope (compEnvC scope cl C X.env) fp) ifs tt)
    (pe : ∀ (s : Shared) (H : Hp) (C : Addr) (cl : List (Str × Addr)) (fp : List Addr), PE (X.blk s H scope (compEnvC scope cl C X.env) fp) elt te)
    (hs : ∀ x, foldedSetIterable iter X.env x = pure x := by intro _; rfl) :
    PE X (.SetComp elt [⟨tg, iter, ifs, 0⟩] scope pos) (tKeys X.prog X.w wi g tt te (own.map (·.2))) := by
  constructor
  intro pins s σ H Q I h
  have cap : ∀ y ∈ scope.names, y.2 = .free → ∃ c, X.env.cells.lookup y.1 = some c := by
    intro y hy e
    exact I.ok.has _ (ok.free y hy e)
  rw [PpSet.eval_SetComp]
  refine wpAny_comprehension_free rfl hs (closure_ok cap) ok.kind ?_ (thn (hi.run pins s σ H _ I h) ?_)
  · intro y hy e
    rw [ok.uniq y hy, e]
  intro xv s1 hx
  refine thn hx ?_
  rintro itv s2 ⟨it, fp, tn, J, H2, rfl, I2, T, st, fp2, q⟩
  refine PpSet.newSet_ok (newEnv_comp ?_)
  have noD : H2 s2.heap.objs.size = none := I2.hok.fresh (Nat.le_refl _)
  obtain ⟨W, ⟨m, w0⟩, step⟩ := q _ noD
  have keep3 : ∀ b o, s2.heap.get? b = some o → (s2.heap.push { cls := .type "set", dict := none, data := .set #[] 0 (.fresh 0 0 (!X.w.params.followText "set-order")) }).get? b = some o :=
    fun b o e => Heap.get?_push_of_some _ e
  have I3 := I2.laid (t' := s2.toks) keep3 (Nat.le_refl _) (setK_new (w := X.w) (P := X.prog) (H := upd H2 s2.heap.objs.size (SetK X.prog X.w s2.heap.objs.size (fun _ => false) 0)) empty_keys)
  generalize hD : s2.heap.objs.size = D at noD w0 step I3 ⊢
  generalize h3 : s2.heap.push { cls := .type "set", dict := none, data := .set #[] 0 (.fresh 0 0 (!X.w.params.followText "set-order")) } = hp3 at keep3 I3 ⊢
  have size3 : hp3.objs.size = D + 1 := by
    rw [← h3, Heap.size_push, hD]
  have fp3 : ∀ b ∈ fp, FpOk X pins (upd H2 D (SetK X.prog X.w D (fun _ => false) 0)) b ∧ b < hp3.objs.size := by
    intro b hb
    obtain ⟨o, e, _⟩ := T.obj _ _ st b hb
    have lt : b < D := by
      rw [← hD]
      exact Heap.lt_size e
    have lt3 : b < hp3.objs.size := by
      rw [size3]
      exact Nat.lt_succ_of_lt lt
    refine ⟨⟨?_, (fp2 b hb).2⟩, lt3⟩
    rw [upd_ne (Nat.ne_of_lt lt)]
    exact (fp2 b hb).1
  have I4 := block_start I3 ok hN fp3
  have keep4 : ∀ b o, hp3.get? b = some o → (pushCells (hp3.push { cls := .type "dict", data := .dict #[] }) scope.names).get? b = some o :=
    fun b o e => pushCells_keeps _ _ _ _ (Heap.get?_push_of_some _ e)
  have st4 : tn 0 (pushCells (hp3.push { cls := .type "dict", data := .dict #[] }) scope.names) :=
    T.keep _ _ _ st fun b _ o e => keep4 b o (keep3 b o e)
  have nf : ∀ b ∈ fp, (upd H2 D (SetK X.prog X.w D (fun _ => false) 0)) b = none := fun b hb => (fp3 b hb).1.1
  have fpo : ∀ (σ' : L2.St) (H' : Hp) (s' : Shared), Inv (X.blk { s2 with heap := hp3 } (upd H2 D (SetK X.prog X.w D (fun _ => false) 0)) scope (compEnvC scope (cellsFrom (hp3.objs.size + 1) scope.names (cloFrom X.env.cells scope.names [])) hp3.objs.size X.env) fp) [] σ' H' s' →
      (∀ b ∈ fp, H' b = none) → ∀ b ∈ fp, FpOk (X.blk { s2 with heap := hp3 } (upd H2 D (SetK X.prog X.w D (fun _ => false) 0)) scope (compEnvC scope (cellsFrom (hp3.objs.size + 1) scope.names (cloFrom X.env.cells scope.names [])) hp3.objs.size X.env) fp) [] H' b := by
    intro σ' H' s' I' hn b hb
    refine ⟨hn b hb, (I'.ok.exf b hb).1, I'.ok.exfs b hb, Or.inl hb, fun x c e => (I'.ok.exf b hb).2 x c e, ?_⟩
    intro p hp
    cases hp
  have lp := keys_loop (R := compPost (model X.prog X.w) X.A X.xe none (EP X pins σ Q) (.ref D) hp3.objs.size) (elt := elt) (tg := tg) (iter := iter) (ifs := ifs) (scope := scope) (pos := pos)
    (B := X.blk { s2 with heap := hp3 } (upd H2 D (SetK X.prog X.w D (fun _ => false) 0)) scope (compEnvC scope (cellsFrom (hp3.objs.size + 1) scope.names (cloFrom X.env.cells scope.names [])) hp3.objs.size X.env) fp)
    hc T (pg _ _ _ _ _) (pt _ _ _ _ _) (pe _ _ _ _ _) (fun _ _ z => z) fpo step ?_ m 0 _ _ I4 st4 nf w0
  · exact PpSet.codeAny_compStart_set lp (T.self X.A 0 _ _ _ st4 lp)
  · intro H' s' I' qd
    have IX := I3.call' (ch := fp) I'.os I'.base I'.hok I'.bare fun b hb => ⟨(fp3 b hb).1.2.2.2.1, (fp3 b hb).1.2.1, (fp3 b hb).1.2.2.2.2.1, (fp3 b hb).1.2.2.2.2.2⟩
    obtain ⟨mL, hn, _⟩ := I'.loc
    obtain ⟨f0, f1, f2, f3, f4, f5⟩ := I3.fpOk (b := hp3.objs.size) (Nat.le_refl _) (show H' hp3.objs.size = none from I'.free)
    refine ⟨mL, hn, fun h'' sb => ?_⟩
    exact ⟨.ref D, H', IX.turned (t' := s'.toks) (fun b o hb e => (sb.2 b hb).trans e) f0 f1 f3 f4 f5, rfl, qd⟩
/-- how many keys a set holds -/
theorem call_len_keys : CallR X (.builtin "len") (fun xs H Q => ∃ (a : Addr) (S : Key → Bool) (n : Nat), xs = [.ref a] ∧ H a = some (SetK X.prog X.w a S n) ∧ Q (.int n) H) := by
  intro pins s σ H xs us Q I r h
  obtain ⟨a, S, n, rfl, ha, q⟩ := h
  obtain ⟨o, es, ep, t, ho, hex, hd, _, _, hb, hf, hn⟩ := setK_get I ha
  cases r with
  | cons r1 r2 =>
    cases r2
    cases (show _ = Value.ref a from r1)
    have lim : scanBound ≤ 2 ^ 62 := by decide +kernel
    refine call_len_set ho hex hd hf (by omega) ⟨.int n, H, I.tok _, ⟨_, by rw [hn]⟩, q⟩
end
end S0
/-! a == b, a an instance with its own __eq__, b anything whose class is not below a's: whatever the promise tells. -/
namespace O0
open PySem PySem.Spec PyProof.Rows L2
section
variable {X : Cx} {CX : CXT} {n : Nat} {C f : Addr} {fd : FuncData} {ps : List Str} {sp : Sp} {E : XK}
def rOwn (K : PySem.W.Frag) (C : Addr) (sp : Sp) (E : XK) : R2 := fun x y H Q => ∃ (a dx : Addr) (fs : List (Str × V)) (t : Value), x = .ref a ∧ H a = some (.ins C dx fs) ∧
  TyX K H y t ∧ PySem.W.notFirst K C t = true ∧ sp [x, y] H (fun v H' => ∃ b, v = .bl b ∧ Q (.bl b) H') E
theorem op_own (F : FnOk X.prog X.w X.K X.mg X.base CX n f fd ps sp) (hr : Room n X.A)
    (hs : PySem.W.findIn X.K (.ref C) "__eq__" = some (some (.ref f))) (hf : PySem.W.isFn X.K (.ref f) = true)
    (hb : Binds X.K fd ps []) (hx : Passes CX X E) : OpR X (compareOp .Eq) (rOwn X.K C sp E) := by
  intro pins s σ H x y v u Q I rx ry hq
  obtain ⟨a, dx, fs, t, rfl, ha, ty, hn, q⟩ := hq
  cases (show v = Value.ref a from rx)
  obtain ⟨mA, J0, _⟩ := ins_get I.hok ha
  obtain ⟨od, J, _⟩ := J0.look
  obtain ⟨m, hF⟩ := I.fr
  obtain ⟨P, Z, p, _⟩ := kit_of I ry ty
  show wpAny (model X.prog X.w) X.A (richCompare .Eq (.ref a) u) (EP X pins σ Q) X.xe s
  refine PySem.W.cmp_K (op := .Eq) hr.units0 hF I.ok.mod.kin J (Z.ty _ _ I.kIn p) hn hs hf ?_
  have rv : Vals [V.ref a, y] [Value.ref a, u] := .cons rfl (.cons ry .nil)
  have run := run_fn (dvs := []) (ds := []) F hr hb .nil hx I rv (by rw [List.append_nil]; exact q)
  refine thn run ?_
  rintro r s' ⟨z, H', I', rz, b, rfl, q'⟩
  cases (show r = Value.bool b from rz)
  exact ⟨.bl b, H', I', rfl, q'⟩
end
end O0
/-! Data of tuples alone: what stands for ever. -/
namespace D0
open PySem PySem.Spec PyProof.Rows L2
/-- a tuple, or a locked one -/
def isT : HO → Prop
  | .tup _ => True
  | .frz _ (.tup _) => True
  | _ => False
/-- all tuples stand -/
def TK (H H' : Hp) : Prop := ∀ a u, isT u → H a = some u → H' a = some u
theorem TK.refl {H : Hp} : TK H H := fun _ _ _ h => h
theorem TK.trans {H H1 H2 : Hp} (x : TK H H1) (y : TK H1 H2) : TK H H2 := fun a u t h => y a u t (x a u t h)
theorem TK.of_same {H H' : Hp} (x : Same H H') : TK H H' := fun a u _ h => x a u h
theorem TK.sqt {K : PySem.W.Frag} {H H' : Hp} {a : Addr} {xs : List V} (k : TK H H') (h : SqT K H a xs) : SqT K H' a xs := by
  rcases h with (h | ⟨o, h⟩) | h
  · exact .inl (.inl (k _ _ trivial h))
  · exact .inl (.inr ⟨o, k _ _ trivial h⟩)
  · exact .inr h
theorem TK.upd {H : Hp} {p : Addr} {o u : HO} (h : H p = some o) (n : ¬ isT o) : TK H (upd H p u) := fun a v t e => by
  rw [upd_ne]
  · exact e
  · rintro rfl
    rw [h] at e
    cases e
    exact n t
mutual
/-- v is d, tuples within tuples -/
inductive Td (K : PySem.W.Frag) (H : Hp) : V → PyData → Prop
  | non : Td K H .non .none
  | bl (b : Bool) : Td K H (.bl b) (.bool b)
  | int (i : Int) : Td K H (.int i) (.int i)
  | str (x : Str) : Td K H (.str x) (.str x)
  | tup {a : Addr} {xs : List V} {ds : List PyData} : SqT K H a xs → TdAll K H xs ds → Td K H (.ref a) (.tuple ds)
inductive TdAll (K : PySem.W.Frag) (H : Hp) : List V → List PyData → Prop
  | nil : TdAll K H [] []
  | cons {v : V} {vs : List V} {d : PyData} {ds : List PyData} : Td K H v d → TdAll K H vs ds → TdAll K H (v :: vs) (d :: ds)
end
section
variable {K : PySem.W.Frag} {H H' : Hp}
mutual
theorem Td.dp : ∀ {v : V} {d : PyData}, Td K H v d → Dp K H v d
  | _, _, .non => .non
  | _, _, .bl b => .bl b
  | _, _, .int i => .int i
  | _, _, .str x => .str x
  | _, _, .tup h t => .tup h (TdAll.dp t)
theorem TdAll.dp : ∀ {vs : List V} {ds : List PyData}, TdAll K H vs ds → DpAll K H vs ds
  | _, _, .nil => .nil
  | _, _, .cons h t => .cons (Td.dp h) (TdAll.dp t)
end
mutual
theorem Td.keep (k : TK H H') : ∀ {v : V} {d : PyData}, Td K H v d → Td K H' v d
  | _, _, .non => .non
  | _, _, .bl b => .bl b
  | _, _, .int i => .int i
  | _, _, .str x => .str x
  | _, _, .tup h t => .tup (k.sqt h) (TdAll.keep k t)
theorem TdAll.keep (k : TK H H') : ∀ {vs : List V} {ds : List PyData}, TdAll K H vs ds → TdAll K H' vs ds
  | _, _, .nil => .nil
  | _, _, .cons h t => .cons (Td.keep k h) (TdAll.keep k t)
end
theorem Td.tuple {v : V} {ds : List PyData} (h : Td K H v (.tuple ds)) : ∃ a xs, v = .ref a ∧ SqT K H a xs ∧ TdAll K H xs ds := by
  cases h with
  | tup h t => exact ⟨_, _, rfl, h, t⟩
theorem Td.isInt {v : V} {i : Int} (h : Td K H v (.int i)) : v = .int i := by cases h; rfl
theorem Td.isStr {v : V} {x : Str} (h : Td K H v (.str x)) : v = .str x := by cases h; rfl
theorem Td.isNon {v : V} (h : Td K H v .none) : v = .non := by cases h; rfl
theorem TdAll.len : ∀ {vs : List V} {ds : List PyData}, TdAll K H vs ds → vs.length = ds.length
  | _, _, .nil => rfl
  | _, _, .cons _ t => congrArg Nat.succ (TdAll.len t)
theorem TdAll.get : ∀ {vs : List V} {ds : List PyData} {i : Nat} {v : V}, TdAll K H vs ds → vs[i]? = some v → ∃ d, ds[i]? = some d ∧ Td K H v d
  | _, _, _, _, .nil, e => by simp at e
  | _, _, 0, _, .cons h _, e => by
    simp at e
    subst e
    exact ⟨_, rfl, h⟩
  | _, _, i + 1, _, .cons _ t, e => TdAll.get (i := i) t (by simpa using e)
theorem TdAll.app : ∀ {vs ws : List V} {ds es : List PyData}, TdAll K H vs ds → TdAll K H ws es → TdAll K H (vs ++ ws) (ds ++ es)
  | _, _, _, _, .nil, h => h
  | _, _, _, _, .cons h t, g => .cons h (TdAll.app t g)
theorem TdAll.ints : ∀ {vs : List V} {ns : List Int}, TdAll K H vs (ns.map PyData.int) → vs = ns.map V.int
  | vs, [], h => by cases h; rfl
  | vs, n :: r, h => by
    cases h with
    | cons h t => rw [h.isInt, TdAll.ints t]; rfl
theorem TdAll.of_ints : ∀ ns : List Int, TdAll K H (ns.map V.int) (ns.map PyData.int)
  | [] => .nil
  | n :: r => .cons (.int n) (TdAll.of_ints r)
end
end D0
namespace D0
open PySem PySem.Spec PyProof.Rows L2
/-! ### walks over what may be a list or a tuple -/
def iOr (w1 w2 : TI) : TI := fun σ H R => w1 σ H R ∨ w2 σ H R
theorem pi_or {X : Cx} {tg l : Expr} {w1 w2 : TI} (h1 : PI X tg l w1) (h2 : PI X tg l w2) : PI X tg l (iOr w1 w2) := by
  constructor
  rintro pins s σ H R I (h | h)
  · exact h1.run pins s σ H R I h
  · exact h2.run pins s σ H R I h
/-- what walks xs while all that is tracked in H stands -/
def Goes (wi : TI) (σ : L2.St) (H : Hp) (xs : List V) : Prop := ∀ R : It → Hp → Prop, (∀ J G, (∀ H', Same H H' → G H') → Walk J xs.length G (YAt xs) → R J H) → wi σ H R
theorem goes_seq {K : PySem.W.Frag} {σ : L2.St} {H : Hp} {i : Nat} {a : Addr} {xs : List V} (hs : σ[i]? = some (some (.ref a))) (h : SqL K H a xs ∨ SqT K H a xs) :
    Goes (iOr (iList K (tVar i)) (iTup K (tVar i))) σ H xs := by
  intro R r
  rcases h with h | h
  · exact .inl ⟨_, hs, a, rfl, ⟨_, h⟩, r _ _ (fun H' s => s.seq h) walk_list⟩
  · exact .inr ⟨_, hs, a, rfl, ⟨_, h⟩, r _ _ (fun H' s => (TK.of_same s).sqt h) walk_tup⟩
theorem goes_tup {K : PySem.W.Frag} {σ : L2.St} {H : Hp} {i : Nat} {a : Addr} {xs : List V} (hs : σ[i]? = some (some (.ref a))) (h : SqT K H a xs) :
    Goes (iTup K (tVar i)) σ H xs := fun R r => ⟨_, hs, a, rfl, ⟨_, h⟩, r _ _ (fun H' s => (TK.of_same s).sqt h) walk_tup⟩
theorem wipe1 (σ : L2.St) (i : Nat) (v : Option V) : wipe ((wipe σ [i]).set i v) [i] = wipe σ [i] := by
  show ((σ.set i none).set i v).set i none = σ.set i none
  rw [List.set_set, List.set_set]
/-- all([f(x) for x in xs]) where every f(x) is True -/
theorem all_true {K : PySem.W.Frag} {wi : TI} {te : TE} {i : Nat} {σ : L2.St} {H : Hp} {Q : VK} {xs : List V} (hw : Goes wi σ H xs) (hl : xs.length ≤ 1000)
    (helt : ∀ (k : Nat) (x : V) (H' : Hp) (R : VK), xs[k]? = some x → Same H H' → (∀ H2, Same H' H2 → R (.bl true) H2) → te ((wipe σ [i]).set i (some x)) H' R)
    (q : ∀ H', Same H H' → Q (.bl true) H') :
    tCB (rAll K) (tCons (tLc wi (gName i) tYes te [i]) tNil) σ H Q := by
  refine hw _ fun J G hG W => ?_
  intro D nD
  refine lc_it W (fun k H' => Same H H' ∧ H' D = some (.lst ((List.replicate k true).map V.bl))) ⟨fun b o e => ?_, upd_same⟩ (fun k H' _ h => hG H' h.1) ?_ ?_
  · rw [upd_ne (ne_of_none e nD)]
    exact e
  · rintro k x H1 H2 hk ⟨sm, hD⟩ ⟨rfl, hx⟩
    refine ⟨wipe1 σ i _, ?_⟩
    refine helt k x H2 _ hx sm fun H3 s3 => ⟨_, s3 _ _ hD, ?_, fun b o e => ?_, ?_⟩
    · rw [List.length_map, List.length_replicate]
      exact small1000 (by omega)
    · rw [upd_ne (ne_of_none e nD)]
      exact s3 _ _ (sm _ _ e)
    · rw [upd_same, List.replicate_succ', List.map_append]
      rfl
  · rintro H1 ⟨sm, hD⟩
    refine ⟨D, _, rfl, SqL.of hD, ?_⟩
    have e : (List.replicate xs.length true).all id = true := List.all_eq_true.mpr fun b hb => (List.mem_replicate.mp hb).2
    rw [e]
    exact q H1 sm
/-- {f(x) for x in xs} where all f(x) are unlike -/
theorem keys_unlike {P : Program} {w : World} {wi : TI} {te : TE} {i : Nat} {σ : L2.St} {H : Hp} {Q : VK} {xs : List V} {ks : List Key} (hw : Goes wi σ H xs) (hl : xs.length ≤ 1000)
    (hk : ks.length = xs.length) (nd : ks.Nodup)
    (helt : ∀ (j : Nat) (x : V) (k : Key) (H' : Hp) (R : VK), xs[j]? = some x → ks[j]? = some k → Same H H' → (∀ H2, Same H' H2 → R (kV k) H2) → te ((wipe σ [i]).set i (some x)) H' R)
    (q : ∀ a S H', Same H H' → H' a = some (SetK P w a S xs.length) → Q (.ref a) H') :
    S0.tKeys P w wi (gName i) tYes te [i] σ H Q := by
  refine hw _ fun J G hG W => ?_
  intro D nD
  have room : 1001 < scanBound := by decide +kernel
  refine ⟨fun j m H' => m = xs.length - j ∧ j ≤ xs.length ∧ Same H H' ∧ ∃ S, H' D = some (SetK P w D S j) ∧ ∀ k, S k = true ↔ k ∈ ks.take j,
    ⟨xs.length, by omega, Nat.zero_le _, fun b o e => ?_, _, upd_same, fun k => ?_⟩, ?_⟩
  · rw [upd_ne (ne_of_none e nD)]
    exact e
  · simp
  · rintro j m H1 ⟨rfl, hj, sm, S, hD, hS⟩
    by_cases lt : j < xs.length
    · refine .inr ⟨W.goes j H1 lt (hG _ sm), fun H' => Same H H' ∧ ∃ S, H' D = some (SetK P w D S (j + 1)) ∧ ∀ k, S k = true ↔ k ∈ ks.take (j + 1), ?_, ?_⟩
      · rintro H' ⟨s', S', h1, h2⟩
        exact ⟨xs.length - (j + 1), by omega, rfl, lt, s', S', h1, h2⟩
      · intro x H2 hy
        obtain ⟨rfl, hx⟩ := W.yields j H1 x H2 lt (hG _ sm) hy
        have hkj : ks[j]? = some ks[j] := List.getElem?_eq_getElem (by omega)
        refine ⟨wipe1 σ i _, ?_⟩
        have hn : S0.plusN S ks[j] j = j + 1 := by
          have hn : ¬ S ks[j] = true := by
            rw [hS]
            intro hm
            obtain ⟨n, hn, e⟩ := List.mem_take_iff_getElem.mp hm
            have := (List.getElem_inj nd).mp e
            omega
          unfold S0.plusN
          rw [if_neg hn]
        refine helt j x ks[j] H2 _ hx hkj sm fun H3 s3 => ⟨ks[j], S, j, rfl, s3 _ _ hD, by omega, fun b o e => ?_, S0.plus S ks[j], ?_, fun k => ?_⟩
        · rw [upd_ne (ne_of_none e nD)]
          exact s3 _ _ (sm _ _ e)
        · rw [hn, upd_same]
        · unfold S0.plus
          rw [Bool.or_eq_true, hS, decide_eq_true_eq, List.take_add_one, hkj, List.mem_append]
          show _ ↔ _ ∨ k ∈ [ks[j]]
          rw [List.mem_singleton]
    · have e : j = xs.length := by omega
      subst e
      exact .inl ⟨W.stops H1 (hG _ sm), q D S H1 sm hD⟩
end D0
namespace D0
open PySem PySem.Spec PyProof.Rows L2
theorem ty_tup {K : PySem.W.Frag} {H : Hp} {a : Addr} {xs : List V} (h : SqT K H a xs) : TyX K H (.ref a) (.type "tuple") := by
  rcases h with (h | ⟨o, h⟩) | ⟨o, its, n, h, c, _⟩
  · exact .base (.tup h)
  · exact .fTuple h
  · exact .kTuple h c
theorem ty_lst {K : PySem.W.Frag} {H : Hp} {a : Addr} {xs : List V} (h : SqL K H a xs) : TyX K H (.ref a) (.type "list") := by
  rcases h with (h | ⟨o, h⟩) | ⟨o, its, n, h, c, _⟩
  · exact .base (.lst h)
  · exact .base (.frz h)
  · exact .kList h c
end D0
namespace D0
open PySem PySem.Spec PyProof.Rows L2
theorem len_unlike {P : Program} {w : World} {wi : TI} {te tb : TE} {i : Nat} {σ : L2.St} {H : Hp} {Q : VK} {xs : List V} {ks : List Key} {r2 : R2} {R : List V → Hp → VK → Prop}
    (hw : Goes wi σ H xs) (hl : xs.length ≤ 1000) (hk : ks.length = xs.length) (nd : ks.Nodup)
    (helt : ∀ (j : Nat) (x : V) (k : Key) (H' : Hp) (R : VK), xs[j]? = some x → ks[j]? = some k → Same H H' → (∀ H2, Same H' H2 → R (kV k) H2) → te ((wipe σ [i]).set i (some x)) H' R)
    (q : ∀ a S H', Same H H' → H' a = some (SetK P w a S xs.length) → R [.ref a] H' fun x H1 => tb σ H1 fun y H2 => r2 x y H2 Q) :
    tOp r2 (tCB R (tCons (S0.tKeys P w wi (gName i) tYes te [i]) tNil)) tb σ H Q :=
  keys_unlike (P := P) (w := w) (Q := fun y H1 => R [y] H1 fun x H2 => tb σ H2 fun z H3 => r2 x z H3 Q) hw hl hk nd helt q
end D0
/-! Defs of the text that may be called by their names. -/
namespace D0
open PySem PySem.Spec PyProof.Rows L2
/-- the def that stands at the name x keeps the promise sp -/
structure Cal (P : Program) (w : World) (K : PySem.W.Frag) (mg : Str → Option Value) (base : Heap) (x : Str) (k : Nat) (ps : List Str) (sp : Sp) : Prop where
  ex : ∃ (f : Addr) (fd : FuncData), mg x = some (.ref f) ∧ PySem.W.keepIn K (.ref f) = true ∧ Binds K fd ps [] ∧ FnOk P w K mg base CX0 k f fd ps sp
/-- the same where no guard stands around -/
structure CalG (P : Program) (w : World) (K : PySem.W.Frag) (mg : Str → Option Value) (base : Heap) (x : Str) (k : Nat) (ps : List Str) (sp : Sp) : Prop where
  ex : ∃ (f : Addr) (fd : FuncData), mg x = some (.ref f) ∧ PySem.W.keepIn K (.ref f) = true ∧ Binds K fd ps [] ∧ G0.FnG P w K mg base CX0 k f fd ps sp
/-- a def as it stands behind the top, under its name -/
structure Def (K : PySem.W.Frag) (mg : Str → Option Value) (x : Str) (st : Stmt) (ps : List Str) (f : Addr) (fd : FuncData) : Prop where
  F : Fun K x x st f fd
  b : Binds K fd ps []
  g : mg x = some (.ref f)
section
variable {P : Program} {w : World} {K : PySem.W.Frag} {mg : Str → Option Value} {base : Heap} {x : Str} {st : Stmt} {ps : List Str} {f : Addr} {fd : FuncData} {k : Nat} {sp : Sp}
theorem Def.cal (D : Def K mg x st ps f fd) (G : FnOk P w K mg base CX0 k f fd ps sp) : Cal P w K mg base x k ps sp := ⟨f, fd, D.g, D.F.kp, D.b, G⟩
theorem Def.calG (D : Def K mg x st ps f fd) (G : G0.FnG P w K mg base CX0 k f fd ps sp) : CalG P w K mg base x k ps sp := ⟨f, fd, D.g, D.F.kp, D.b, G⟩
end
/-- f(..) by such a promise -/
def tCal (sp : Sp) (t : TA) : TE := fun σ H Q => t σ H fun vs H1 => sp vs H1 Q E0
section
variable {X : Cx} {k : Nat} {ps : List Str} {sp : Sp} {x : Str} {p pos : Pos} {e : Expr} {es : List Expr} {t : TA}
theorem pe_cal (C : Cal X.prog X.w X.K X.mg X.base x k ps sp) (hr : Room k X.A) (hg : Gl X x) (ha : PA X (e :: es) t)
    (hdb : (x == ("__debug__" : Str)) = false := by decide)
    (he : starEach (e :: es) X.env = (false, eval e X.env) :: starEach es X.env := by rfl)
    (hpl : (backTo pos (starEach es X.env)).any (·.1) = false := by rfl) :
    PE X (.Call (.Name x p) (e :: es) [] pos) (tCal sp t) := by
  obtain ⟨f, fd, g, kp, b, G⟩ := C.ex
  constructor
  intro pins s σ H Q I h
  refine (pe_call (E := E0) (dvs := []) (ds := []) G hr hg g kp b .nil pass0 ha hdb he hpl).run pins s σ H Q I ?_
  show t σ H fun vs H1 => sp (vs ++ []) H1 Q E0
  have e : (fun (vs : List V) (H1 : Hp) => sp (vs ++ []) H1 Q E0) = fun vs H1 => sp vs H1 Q E0 := by
    funext vs H1
    rw [List.append_nil]
  rw [e]
  exact h
theorem pe_calG (gu : X.A.guards = some []) (C : CalG X.prog X.w X.K X.mg X.base x k ps sp) (hr : Room k X.A) (hg : Gl X x) (ha : PA X (e :: es) t)
    (hdb : (x == ("__debug__" : Str)) = false := by decide)
    (he : starEach (e :: es) X.env = (false, eval e X.env) :: starEach es X.env := by rfl)
    (hpl : (backTo pos (starEach es X.env)).any (·.1) = false := by rfl) :
    PE X (.Call (.Name x p) (e :: es) [] pos) (tCal sp t) := by
  obtain ⟨f, fd, g, kp, b, G⟩ := C.ex
  constructor
  intro pins s σ H Q I h
  refine (G0.pe_callG (E := E0) gu G hr hg g kp b pass0 ha hdb he hpl).run pins s σ H Q I ?_
  show t σ H fun vs H1 => sp (vs ++ []) H1 Q E0
  have e : (fun (vs : List V) (H1 : Hp) => sp (vs ++ []) H1 Q E0) = fun vs H1 => sp vs H1 Q E0 := by
    funext vs H1
    rw [List.append_nil]
  rw [e]
  exact h
end
end D0
namespace PL
open PySem PySem.Spec PyProof.Rows L2
def topS (i : Nat) : Stmt := PySem.Challenge.pw_playstead_k01_rules_made.main.body.getD i (.Pass ⟨0, 0, 0, 0⟩)
abbrev s_is_name : Stmt := topS 4
theorem sc_is_name : FnScope ["thing"] ["thing"] (defScope s_is_name) := ⟨rfl, rfl, rfl, by decide +kernel, rfl, by decide +kernel, by decide +kernel⟩
abbrev s_is_number : Stmt := topS 5
theorem sc_is_number : FnScope ["thing", "low", "high"] ["thing", "low", "high"] (defScope s_is_number) := ⟨rfl, rfl, rfl, by decide +kernel, rfl, by decide +kernel, by decide +kernel⟩
abbrev s_is_tuple : Stmt := topS 6
theorem sc_is_tuple : FnScope ["thing", "low", "high"] ["thing", "low", "high"] (defScope s_is_tuple) := ⟨rfl, rfl, rfl, by decide +kernel, rfl, by decide +kernel, by decide +kernel⟩
abbrev s_is_list : Stmt := topS 7
theorem sc_is_list : FnScope ["thing", "low", "high"] ["thing", "low", "high"] (defScope s_is_list) := ⟨rfl, rfl, rfl, by decide +kernel, rfl, by decide +kernel, by decide +kernel⟩
abbrev s_are_tests : Stmt := topS 12
theorem sc_are_tests : FnScope ["thing", "cells", "part"] ["thing", "cells"] (defScope s_are_tests) := ⟨rfl, rfl, rfl, by decide +kernel, rfl, by decide +kernel, by decide +kernel⟩
abbrev s_is_test : Stmt := topS 13
theorem sc_is_test : FnScope ["thing", "cells"] ["thing", "cells"] (defScope s_is_test) := ⟨rfl, rfl, rfl, by decide +kernel, rfl, by decide +kernel, by decide +kernel⟩
abbrev s_are_changes : Stmt := topS 14
theorem sc_are_changes : FnScope ["thing", "cells", "part"] ["thing", "cells"] (defScope s_are_changes) := ⟨rfl, rfl, rfl, by decide +kernel, rfl, by decide +kernel, by decide +kernel⟩
abbrev s_is_change : Stmt := topS 15
theorem sc_is_change : FnScope ["thing", "cells"] ["thing", "cells"] (defScope s_is_change) := ⟨rfl, rfl, rfl, by decide +kernel, rfl, by decide +kernel, by decide +kernel⟩
abbrev s_are_moves : Stmt := topS 16
theorem sc_are_moves : FnScope ["thing", "cells", "players", "part"] ["thing", "cells", "players"] (defScope s_are_moves) := ⟨rfl, rfl, rfl, by decide +kernel, rfl, by decide +kernel, by decide +kernel⟩
abbrev s_is_move : Stmt := topS 17
theorem sc_is_move : FnScope ["thing", "cells", "players"] ["thing", "cells", "players"] (defScope s_is_move) := ⟨rfl, rfl, rfl, by decide +kernel, rfl, by decide +kernel, by decide +kernel⟩
abbrev s_is_end : Stmt := topS 18
theorem sc_is_end : FnScope ["thing", "cells", "players"] ["thing", "cells", "players"] (defScope s_is_end) := ⟨rfl, rfl, rfl, by decide +kernel, rfl, by decide +kernel, by decide +kernel⟩
abbrev s_are_points : Stmt := topS 19
theorem sc_are_points : FnScope ["thing", "players", "part"] ["thing", "players"] (defScope s_are_points) := ⟨rfl, rfl, rfl, by decide +kernel, rfl, by decide +kernel, by decide +kernel⟩
abbrev s_Rule_init : Stmt := inClass (topS 20) 0
theorem sc_Rule_init : FnScope ["self", "start", "moves", "players", "ends", "most", "stuck", "part"] ["self", "start", "moves", "players", "ends", "most", "stuck"] (defScope s_Rule_init) := ⟨rfl, rfl, rfl, by decide +kernel, rfl, by decide +kernel, by decide +kernel⟩
abbrev s_Rule_told : Stmt := inClass (topS 20) 1
theorem sc_Rule_told : FnScope ["self"] ["self"] (defScope s_Rule_told) := ⟨rfl, rfl, rfl, by decide +kernel, rfl, by decide +kernel, by decide +kernel⟩
abbrev s_Rule_eq : Stmt := inClass (topS 20) 2
theorem sc_Rule_eq : FnScope ["self", "other"] ["self", "other"] (defScope s_Rule_eq) := ⟨rfl, rfl, rfl, by decide +kernel, rfl, by decide +kernel, by decide +kernel⟩
abbrev s_law_begin : Stmt := topS 22
theorem sc_law_begin : FnScope ["script", "cells", "cell"] ["script"] (defScope s_law_begin) := ⟨rfl, rfl, rfl, by decide +kernel, rfl, by decide +kernel, by decide +kernel⟩
abbrev s_law_take : Stmt := topS 23
theorem sc_law_take : FnScope ["draw", "size", "cells", "at", "cell"] ["draw", "size"] (defScope s_law_take) := ⟨rfl, rfl, rfl, by decide +kernel, rfl, by decide +kernel, by decide +kernel⟩
abbrev s_law_pick : Stmt := topS 24
theorem sc_law_pick : FnScope ["draw", "some"] ["draw", "some"] (defScope s_law_pick) := ⟨rfl, rfl, rfl, by decide +kernel, rfl, by decide +kernel, by decide +kernel⟩
abbrev s_law_names : Stmt := topS 25
theorem sc_law_names : FnScope ["draw", "many", "own", "found", "k", "word", "some", "j", "one"] ["draw", "many"] (defScope s_law_names) := ⟨rfl, rfl, rfl, by decide +kernel, rfl, by decide +kernel, by decide +kernel⟩
abbrev s_law_heaps : Stmt := topS 26
theorem sc_law_heaps : FnScope ["draw", "seats", "many", "begun", "names", "plays", "cell", "n", "k"] ["draw", "seats"] (defScope s_law_heaps) := ⟨rfl, rfl, rfl, by decide +kernel, rfl, by decide +kernel, by decide +kernel⟩
abbrev s_law_marks : Stmt := topS 27
theorem sc_law_marks : FnScope ["draw", "seats", "many", "names", "plays", "closes", "player", "cell", "k", "tests", "longest", "halted", "one"] ["draw", "seats"] (defScope s_law_marks) := ⟨rfl, rfl, rfl, by decide +kernel, rfl, by decide +kernel, by decide +kernel⟩
abbrev s_law_tests : Stmt := topS 28
theorem sc_law_tests : FnScope ["draw", "many", "longest", "found", "k"] ["draw", "many", "longest"] (defScope s_law_tests) := ⟨rfl, rfl, rfl, by decide +kernel, rfl, by decide +kernel, by decide +kernel⟩
abbrev s_law_changes : Stmt := topS 29
theorem sc_law_changes : FnScope ["draw", "many", "first", "found", "k", "way", "n"] ["draw", "many"] (defScope s_law_changes) := ⟨rfl, rfl, rfl, by decide +kernel, rfl, by decide +kernel, by decide +kernel⟩
abbrev s_law_mixed : Stmt := topS 30
theorem sc_law_mixed : FnScope ["draw", "seats", "many", "begun", "names", "plays", "closes", "k", "by", "one"] ["draw", "seats"] (defScope s_law_mixed) := ⟨rfl, rfl, rfl, by decide +kernel, rfl, by decide +kernel, by decide +kernel⟩
abbrev s_law_rule : Stmt := topS 31
theorem sc_law_rule : FnScope ["draw", "seats", "way"] ["draw"] (defScope s_law_rule) := ⟨rfl, rfl, rfl, by decide +kernel, rfl, by decide +kernel, by decide +kernel⟩
abbrev s_law_made : Stmt := topS 32
theorem sc_law_made : FnScope ["told"] ["told"] (defScope s_law_made) := ⟨rfl, rfl, rfl, by decide +kernel, rfl, by decide +kernel, by decide +kernel⟩
abbrev s_law_same : Stmt := topS 33
theorem sc_law_same : FnScope ["one", "other"] ["one", "other"] (defScope s_law_same) := ⟨rfl, rfl, rfl, by decide +kernel, rfl, by decide +kernel, by decide +kernel⟩
abbrev s_law_otherwise : Stmt := topS 34
theorem sc_law_otherwise : FnScope ["draw", "told", "begun", "plays", "seats", "closes", "longest", "halted", "way", "name", "by", "tests", "changes", "some", "fresh", "other", "sign", "word", "move"] ["draw", "told"] (defScope s_law_otherwise) := ⟨rfl, rfl, rfl, by decide +kernel, rfl, by decide +kernel, by decide +kernel⟩
abbrev s_law_right : Stmt := topS 35
theorem sc_law_right : FnScope ["draw", "told", "begun", "plays", "seats", "closes", "longest", "halted", "handed", "rule", "part", "again", "other", "plain", "move"] ["draw"] (defScope s_law_right) := ⟨rfl, rfl, rfl, by decide +kernel, rfl, by decide +kernel, by decide +kernel⟩
abbrev s_law : Stmt := topS 36
theorem sc_law : FnScope ["script", "draw", "turn"] ["script"] (defScope s_law) := ⟨rfl, rfl, rfl, by decide +kernel, rfl, by decide +kernel, by decide +kernel⟩
end PL
namespace PL
open PySem PySem.Spec PyProof.Rows L2
structure TM (mg : Str → Option Value) : Prop where
  m_len : mg "len" = none
  m_isinstance : mg "isinstance" = none
  m_str : mg "str" = none
  m_bool : mg "bool" = none
  m_range : mg "range" = none
  m_abs : mg "abs" = none
  m_int : mg "int" = none
  m_tuple : mg "tuple" = none
  m_list : mg "list" = none
  m_all : mg "all" = none
  m_min : mg "min" = none
  m_repr : mg "repr" = none
/-! ### the draw -/
/-- the drawing state: its list at d, its numbers at c -/
def DrC (H : Hp) (d c : Addr) : Prop := d ≠ c ∧ ∃ (a b : Int) (ns : List Int), H d = some (.lst [.ref c, .int a, .int b]) ∧ H c = some (.lst (ns.map V.int)) ∧ 0 < ns.length ∧ ns.length ≤ 63 ∧ (∀ n ∈ ns, 0 ≤ n) ∧ 0 ≤ a ∧ 0 ≤ b ∧ b < 2147483647
/-- all but the draw stands as it stood -/
def Kp (d c : Addr) (H H' : Hp) : Prop := ∀ b o, b ≠ d → b ≠ c → H b = some o → H' b = some o
theorem Kp.refl {d c : Addr} {H : Hp} : Kp d c H H := fun _ _ _ _ h => h
theorem Kp.trans {d c : Addr} {H H1 H2 : Hp} (x : Kp d c H H1) (y : Kp d c H1 H2) : Kp d c H H2 := fun b o h1 h2 h => y b o h1 h2 (x b o h1 h2 h)
theorem Kp.of_same {d c : Addr} {H H1 : Hp} (x : Same H H1) : Kp d c H H1 := fun b o _ _ h => x b o h
theorem Kp.new {d c p : Addr} {H : Hp} {o : HO} (h : H p = none) : Kp d c H (upd H p o) := fun b u _ _ e => by
  rw [upd_ne (ne_of_none e h)]
  exact e
theorem DrC.get {H : Hp} {d c : Addr} (x : DrC H d c) : ∃ o, H d = some o := let ⟨_, _, _, _, h, _⟩ := x; ⟨_, h⟩
theorem DrC.nd {H : Hp} {d c p : Addr} (x : DrC H d c) (h : H p = none) : p ≠ d := let ⟨_, _, _, _, e, _⟩ := x; (ne_of_none e h).symm
theorem DrC.nc {H : Hp} {d c p : Addr} (x : DrC H d c) (h : H p = none) : p ≠ c := let ⟨_, _, _, _, _, e, _⟩ := x; (ne_of_none e h).symm
theorem DrC.upd {H : Hp} {d c p : Addr} {o : HO} (x : DrC H d c) (h1 : p ≠ d) (h2 : p ≠ c) : DrC (upd H p o) d c := by
  obtain ⟨n, a, b, ns, hd, hc, r⟩ := x
  exact ⟨n, a, b, ns, by rw [upd_ne h1.symm]; exact hd, by rw [upd_ne h2.symm]; exact hc, r⟩
theorem DrC.new {H : Hp} {d c p : Addr} {o : HO} (x : DrC H d c) (h : H p = none) : DrC (L2.upd H p o) d c := x.upd (x.nd h) (x.nc h)
theorem DrC.tup {H : Hp} {d c p : Addr} {xs : List V} (x : DrC H d c) (h : H p = some (.tup xs)) : p ≠ d ∧ p ≠ c := by
  obtain ⟨n, a, b, ns, hd, hc, r⟩ := x
  exact ⟨ne_of h hd (by intro z; cases z), ne_of h hc (by intro z; cases z)⟩

/-! ### the promises -/
def spTake : Sp := fun vs H Q _ => ∃ (d c : Addr) (n : Int), vs = [.ref d, .int n] ∧ DrC H d c ∧ 0 < n ∧ n ≤ 1000000 ∧ ∀ v H', 0 ≤ v → v < n → DrC H' d c → Kp d c H H' → Q (.int v) H'
section
variable {P : Program} {w : World} {K : PySem.W.Frag} {mg : Str → Option Value} {base : Heap}
theorem ok_take {f : Addr} {fd : FuncData} {k : Nat} (F : Fun K "_law_take" "_law_take" s_law_take f fd) (T : TM mg) : FnOk P w K mg base CX0 (k + 1) f fd ["draw", "size"] spTake := by
  refine F.ok sc_law_take (fun vs H Q E h => ?_) (fun cdv A outer s H vs Q E hr h => ?_)
  · obtain ⟨d, c, n, rfl, _⟩ := h
    rfl
  · obtain ⟨d, c, n, rfl, ⟨ndc, a, b, ns, hd, hc, l0, l63, hp, a0, b0, b1⟩, n0, n1, q⟩ := h
    refine ⟨_, (pss_cons (ps_set (i := 2) sc_law_take.nd rfl (.inl rfl) (pe_ix ix_list (pv 0) pe_int (fun _ _ => rfl)))
      (pss_cons (ps_set (i := 3) sc_law_take.nd rfl (.inl rfl) (pe_op op_modN (pe_ix ix_list (pv 0) pe_int (fun _ _ => rfl)) (pe_callB call_len_seq (by rfl) T.m_len (by decide +kernel) (pa_cons (pv 2) pa_nil))))
      (pss_cons (ps_set (i := 4) sc_law_take.nd rfl (.inl rfl) (pe_ix ix_list (pv 2) (pv 3) (fun _ _ => rfl)))
      (pss_cons (ps_if (pt_cmpR op_ge (pv 4) (pe_op op_pow pe_int pe_int) (nomark _))
        (pss_cons (ps_asg (pe_op op_fdivW (pv 4) (pv 1)) (pg_sub (pv 2) (pv 3) set_list))
      (pss_one (ps_ret (pe_op op_modN (pv 4) (pv 1)))))
        pss_nil)
      (pss_cons (ps_asg (pe_op op_add (pe_ix ix_list (pv 0) pe_int (fun _ _ => rfl)) pe_int) (pg_sub (pv 0) pe_int set_list))
      (pss_cons (ps_asg (pe_op op_modN (pe_op op_add (pe_op op_add (pe_op op_mul (pe_ix ix_list (pv 0) pe_int (fun _ _ => rfl)) pe_int) (pv 4)) pe_int) pe_int) (pg_sub (pv 0) pe_int set_list))
      (pss_one (ps_ret (pe_op op_modN (pe_op op_fdivN (pe_op op_modN (pe_op op_mul (pe_ix ix_list (pv 0) pe_int (fun _ _ => rfl)) (pe_ix ix_list (pv 0) pe_int (fun _ _ => rfl))) pe_int) pe_int) (pv 1)))))))))), ?_⟩
    refine ⟨_, rfl, d, _, 0, .ref c, rfl, rfl, SqL.of hd, rfl, ?_⟩
    refine ⟨_, rfl, d, _, 1, .int a, rfl, rfl, SqL.of hd, rfl, _, rfl, c, _, rfl, .inl (SqL.of hc), _, _, rfl, rfl, ?_, ?_⟩
    · rw [List.length_map]; omega
    have hl : (0 : Int) < (ns.length : Int) := by omega
    have m0 : 0 ≤ a.fmod (ns.length : Int) := Int.fmod_nonneg a0 (by omega)
    have m1 : a.fmod (ns.length : Int) < (ns.length : Int) := Int.fmod_lt_of_pos a hl
    obtain ⟨j, ej⟩ : ∃ j : Nat, a.fmod (ns.length : Int) = (j : Int) := ⟨(a.fmod (ns.length : Int)).toNat, by omega⟩
    have ej' : a.fmod ((ns.map V.int).length : Int) = (j : Int) := by rw [List.length_map]; exact ej
    rw [ej] at m0 m1
    have jl : j < ns.length := by omega
    have gj : (ns.map V.int)[j]? = some (.int ns[j]) := by
      rw [List.getElem?_map, List.getElem?_eq_getElem jl]
      rfl
    have zj : 0 ≤ ns[j] := hp _ (List.getElem_mem jl)
    refine ⟨_, rfl, _, rfl, c, _, _, .int ns[j], rfl, rfl, SqL.of hc, at_of ej' gj, ?_⟩
    generalize ns[j] = x at gj zj
    refine ⟨_, rfl, 10, 18, rfl, rfl, ⟨by decide, by decide, by decide⟩, x, _, rfl, rfl, _, rfl, ?_⟩
    refine ite2 (fun hx => ?_) (fun hx => ?_)
    · refine ⟨_, rfl, _, rfl, x, n, rfl, rfl, wide_div (b := 30) n0 (by omega) (by decide) (by decide), ?_⟩
      refine ⟨_, rfl, _, rfl, c, _, _, j, rfl, rfl, hc, ?_, ?_⟩
      · show ixN (ns.map V.int).length (a.fmod ((ns.map V.int).length : Int)) = some j
        rw [ej']
        unfold ixN
        rw [if_pos (by omega), if_pos (by rw [List.length_map]; omega)]
        rfl
      refine ⟨_, rfl, _, rfl, x, n, rfl, rfl, by omega, ?_⟩
      refine q _ _ (Int.fmod_nonneg zj (by omega)) (Int.fmod_lt_of_pos x n0) ⟨ndc, a, b, ns.set j (x / n), ?_, ?_, ?_, ?_, ?_, a0, b0, b1⟩ ?_
      · rw [upd_ne ndc]; exact hd
      · rw [upd_same, List.map_set]
      · rw [List.length_set]; exact l0
      · rw [List.length_set]; exact l63
      · intro y hy
        rcases List.mem_or_eq_of_mem_set hy with h | h
        · exact hp y h
        · rw [h]; exact Int.ediv_nonneg zj (by omega)
      · intro z o h1 h2 h3
        rw [upd_ne h2]; exact h3
    · have hx1 : x < 1000000000000000000 := by
        refine Int.not_le.mp fun z => hx (decide_eq_true ?_)
        exact z
      refine ⟨_, rfl, d, _, 1, .int a, rfl, rfl, SqL.of hd, rfl, a, 1, rfl, rfl, _, rfl, d, _, 1, 1, rfl, rfl, hd, rfl, ?_⟩
      refine ⟨_, rfl, d, _, 2, .int b, rfl, rfl, SqL.of upd_same, rfl, b, _, rfl, rfl, .inl ⟨by omega, by omega⟩, _, rfl, _, x, rfl, rfl, _, _, rfl, rfl, _, _, rfl, rfl, (by show (2147483647 : Int) ≠ 0; decide), _, rfl, d, _, 2, 2, rfl, rfl, upd_same, rfl, ?_⟩
      rw [upd_upd]
      have b2 : 0 ≤ (b * 48271 + x + 12345).fmod 2147483647 := Int.fmod_nonneg (by omega) (by decide)
      have b3 : (b * 48271 + x + 12345).fmod 2147483647 < 2147483647 := Int.fmod_lt_of_pos _ (by decide)
      refine ⟨_, rfl, d, _, 2, .int ((b * 48271 + x + 12345).fmod 2147483647), rfl, rfl, SqL.of upd_same, rfl, _, rfl, d, _, 2, .int ((b * 48271 + x + 12345).fmod 2147483647), rfl, rfl, SqL.of upd_same, rfl, _, _, rfl, rfl, .inl ⟨by omega, by omega⟩, _, _, rfl, rfl, (by show (2147483629 : Int) ≠ 0; decide), _, _, rfl, rfl, ⟨by decide, by decide⟩, _, rfl, _, n, rfl, rfl, by omega, ?_⟩
      refine q _ _ (Int.fmod_nonneg ?_ (by omega)) (Int.fmod_lt_of_pos _ n0) ⟨ndc, a + 1, _, ns, upd_same, ?_, l0, l63, hp, by omega, b2, b3⟩ ?_
      · have h1 := Int.fmod_nonneg (Int.mul_nonneg b2 b2) (show (0 : Int) ≤ 2147483629 by decide)
        rw [Int.fdiv_eq_ediv_of_nonneg _ (by decide)]
        exact Int.ediv_nonneg h1 (by decide)
      · rw [upd_ne ndc.symm]; exact hc
      · intro z o h1 h2 h3
        rw [upd_ne h1]; exact h3
end
end PL
namespace PL
open PySem PySem.Spec PyProof.Rows L2
theorem Kp.seq {K : PySem.W.Frag} {d c a : Addr} {H H' : Hp} {xs : List V} (e : Kp d c H H') (h1 : a ≠ d) (h2 : a ≠ c) (h : SqL K H a xs) : SqL K H' a xs := by
  rcases h with (h | ⟨o, h⟩) | h
  · exact .inl (.inl (e _ _ h1 h2 h))
  · exact .inl (.inr ⟨o, e _ _ h1 h2 h⟩)
  · exact .inr h
theorem new_same {H : Hp} {p : Addr} {o : HO} (h : H p = none) : Same H (upd H p o) := fun b x e => by
  rw [upd_ne (ne_of_none e h)]
  exact e
/-- x may be drawn from: a list, or a text -/
def Some1 (K : PySem.W.Frag) (H : Hp) (d c : Addr) (x : V) (R : V → Prop) : Prop :=
  (∃ p xs, x = .ref p ∧ SqL K H p xs ∧ p ≠ d ∧ p ≠ c ∧ 0 < xs.length ∧ xs.length ≤ 1000 ∧ ∀ v ∈ xs, R v) ∨
  (∃ z : Str, x = .str z ∧ 0 < z.length ∧ z.length ≤ 1000 ∧ ∀ u ∈ z.cps.toList, R (.str ⟨#[u]⟩))
def spPick (K : PySem.W.Frag) : Sp := fun vs H Q _ => ∃ (d c : Addr) (x : V) (R : V → Prop), vs = [.ref d, x] ∧ DrC H d c ∧ Some1 K H d c x R ∧ ∀ v H', R v → DrC H' d c → Kp d c H H' → Q v H'
def spBegin (K : PySem.W.Frag) : Sp := fun vs H Q _ => ∃ (s : Addr) (ns : List Int), vs = [.ref s] ∧ SqL K H s (ns.map V.int) ∧ ns.length ≤ 63 ∧ ∀ d c H', DrC H' d c → Same H H' → Q (.ref d) H'
theorem cut63 (xs : List V) (h : xs.length ≤ 63) : cutV xs none (some 63) = xs := by
  unfold cutV
  rw [show HT.sIx xs.length xs.length (some 63) = min 63 xs.length from HT.sIx_nat xs.length _ 63, HT.sIx_none]
  rw [show min 63 xs.length = xs.length by omega]
  show (xs.drop 0).take (xs.length - 0) = xs
  rw [List.drop_zero, Nat.sub_zero, List.take_length]
theorem dp_ints {K : PySem.W.Frag} {H : Hp} : ∀ ms : List Int, DpAll K H (ms.map V.int) (ms.map PyData.int)
  | [] => .nil
  | m :: r => .cons (.int m) (dp_ints r)
theorem sh_ints (ms : List Int) : SeqAt.shaped (.list (ms.map PyData.int)) = true := PySem.W.ke_shaped_ints ms
section
variable {P : Program} {w : World} {K : PySem.W.Frag} {mg : Str → Option Value} {base : Heap}
theorem ok_pick {f : Addr} {fd : FuncData} (F : Fun K "_law_pick" "_law_pick" s_law_pick f fd) (T : TM mg) (C_law_take : D0.Cal P w K mg base "_law_take" 1 ["draw", "size"] spTake) : FnOk P w K mg base CX0 2 f fd ["draw", "some"] (spPick K) := by
  refine F.ok sc_law_pick (fun vs H Q E h => ?_) (fun cdv A outer s H vs Q E hr h => ?_)
  · obtain ⟨d, c, x, R, rfl, _⟩ := h
    rfl
  · obtain ⟨d, c, x, R, rfl, D, S, q⟩ := h
    refine ⟨_, (pss_one (ps_ret (pe_ix ix_seq (pv 1) (D0.pe_cal C_law_take (hr.mono (by decide)) (by rfl) (pa_cons (pv 0) (pa_cons (pe_callB call_len (by rfl) T.m_len (by decide +kernel) (pa_cons (pv 1) pa_nil)) pa_nil))) (fun _ _ => rfl)))), ?_⟩
    rcases S with ⟨p, xs, rfl, hS, n1, n2, l0, l1, hR⟩ | ⟨z, rfl, l0, l1, hR⟩
    · refine ⟨_, rfl, _, rfl, _, rfl, _, xs.length, rfl, .inl ⟨xs, hS, rfl⟩, d, c, _, rfl, D, by omega, by omega, fun v H' v0 v1 D' k => ?_⟩
      obtain ⟨j, rfl⟩ : ∃ j : Nat, v = (j : Int) := ⟨v.toNat, by omega⟩
      have jl : j < xs.length := by omega
      exact .inl ⟨p, xs, _, _, rfl, rfl, k.seq n1 n2 hS, atI_nat (List.getElem?_eq_getElem jl), q _ _ (hR _ (List.getElem_mem jl)) D' k⟩
    · refine ⟨_, rfl, _, rfl, _, rfl, _, z.length, rfl, ⟨Nat.le_of_lt (small1000 l1), rfl⟩, d, c, _, rfl, D, by omega, by omega, fun v H' v0 v1 D' k => ?_⟩
      obtain ⟨j, rfl⟩ : ∃ j : Nat, v = (j : Int) := ⟨v.toNat, by omega⟩
      have jl : j < z.cps.toList.length := by
        have e : z.length = z.cps.toList.length := rfl
        omega
      exact .inr (.inr ⟨z, _, z.cps.toList[j], rfl, rfl, Nat.le_of_lt (small1000 l1), atI_nat (List.getElem?_eq_getElem jl), q _ _ (hR _ (List.getElem_mem jl)) D' k⟩)
theorem ok_begin {f : Addr} {fd : FuncData} {k : Nat} (F : Fun K "_law_begin" "_law_begin" s_law_begin f fd) (T : TM mg) : FnOk P w K mg base CX0 (k + 1) f fd ["script"] (spBegin K) := by
  refine F.ok sc_law_begin (fun vs H Q E h => ?_) (fun cdv A outer s H vs Q E hr h => ?_)
  · obtain ⟨a, ns, rfl, _⟩ := h
    rfl
  · obtain ⟨a, ns, rfl, hS, l63, q⟩ := h
    refine ⟨_, (pss_cons (ps_setLc (i := 1) (own := [("cell", 2)]) (g := gName 2) rfl sc_law_begin.nd rfl rfl (sw_true rfl rfl rfl (by decide +kernel)) (pi_list (pe_slice sl_list (pv 0) po_none (po_some pe_int))) (blkOk_by (own := [("cell", 2)]) (N := ["script", "cells", "cell"]) (sc := defScope s_law_begin) (by decide +kernel)) (fun _ _ _ _ _ => pg_name (i := 2) sc_law_begin.nd rfl (Or.inl rfl)) (fun _ _ _ _ _ => pts_nil) (fun _ _ _ _ _ => (pe_callB call_abs (by rfl) T.m_abs (by decide +kernel) (pa_cons (pv 2) pa_nil))))
      (pss_cons (ps_if (pt_cmpR (op_eqD hr.units) (pv 1) (pe_lst pa_nil) (nomark _))
        (pss_one (ps_set (i := 1) sc_law_begin.nd rfl (.inl rfl) (pe_lst (pa_cons pe_int pa_nil))))
        pss_nil)
      (pss_one (ps_ret (pe_lst (pa_cons (pv 1) (pa_cons pe_int (pa_cons pe_int pa_nil)))))))), ?_⟩
    refine ⟨.ref a, rfl, 63, rfl, a, ns.map V.int, rfl, hS, fun p np => ?_⟩
    rw [cut63 _ (by rw [List.length_map]; exact l63)]
    refine ⟨p, rfl, ⟨_, SqL.of upd_same⟩, fun D nD => ?_⟩
    have npD : p ≠ D := fun e => by
      rw [← e, upd_same] at nD
      cases nD
    have hD0 : H D = none := by
      rw [upd_ne npD.symm] at nD
      exact nD
    refine lc_list (K := K) (a := p) (xs := ns.map V.int) (fun i H' => Same H H' ∧ H' p = some (.lst (ns.map V.int)) ∧ H' D = some (.lst ((ns.take i).map fun n => V.int (if n < 0 then -n else n))))
      ⟨(new_same np).trans (new_same nD), by rw [upd_ne npD, upd_same], upd_same⟩ (fun i H' _ h => SqL.of h.2.1) ?_ ?_
    · rintro i x H' hi ⟨sm, hp, hD⟩
      obtain ⟨n, hn, rfl⟩ : ∃ n, ns[i]? = some n ∧ V.int n = x := by
        rw [List.getElem?_map] at hi
        cases e : ns[i]? with
        | none =>
          rw [e] at hi
          cases hi
        | some u =>
          rw [e] at hi
          exact ⟨u, rfl, Option.some.inj hi⟩
      refine ⟨rfl, ?_⟩
      skip
      refine ⟨_, rfl, _, rfl, _, hD, ?_, fun b o e => ?_, ?_, ?_⟩
      · rw [List.length_map, List.length_take]
        exact small1000 (by omega)
      · have nb : b ≠ D := ne_of_none e hD0
        rw [upd_ne nb]
        exact sm _ _ e
      · rw [upd_ne npD]
        exact hp
      · rw [upd_same, List.take_add_one, hn, List.map_append]
        rfl
    · rintro H' ⟨sm, hp, hD⟩
      have eT : (ns.take (ns.map V.int).length) = ns := by
        rw [List.length_map, List.take_length]
      rw [eT] at hD
      have hm : (ns.map fun n => V.int (if n < 0 then -n else n)) = (ns.map fun n => (if n < 0 then -n else n : Int)).map V.int := by
        rw [List.map_map]
        rfl
      rw [hm] at hD
      have hpos : ∀ m ∈ (ns.map fun n => (if n < 0 then -n else n : Int)), 0 ≤ m := by
        intro m hm
        obtain ⟨n, _, rfl⟩ := List.mem_map.mp hm
        split <;> omega
      have hlen : (ns.map fun n => (if n < 0 then -n else n : Int)).length ≤ 63 := by
        rw [List.length_map]
        exact l63
      generalize (ns.map fun n => (if n < 0 then -n else n : Int)) = ms at hD hpos hlen
      refine ⟨.ref D, rfl, Nat.zero_le _, fun e ne => ?_⟩
      have nDe : D ≠ e := ne_of_none hD ne
      refine ⟨.list (ms.map PyData.int), .list [], .lst (SqL.of (by rw [upd_ne nDe]; exact hD)) (dp_ints ms), .lst (SqL.of upd_same) .nil, sh_ints ms, rfl, _, rfl, ite2 (fun hx => ?_) (fun hx => ?_)⟩
      · refine ⟨Nat.le_of_lt (small1000 (by decide)), fun g ng => ?_⟩
        refine ⟨.ref g, rfl, Nat.le_of_lt (small1000 (show 3 ≤ 1000 by decide)), fun r nr => ?_⟩
        refine q r g _ ⟨(ne_of_none upd_same nr).symm, 0, 1, [7], upd_same, ?_, by decide, by decide, ?_, by decide, by decide, by decide⟩ (((sm.trans (new_same ne)).trans (new_same ng)).trans (new_same nr))
        · rw [upd_ne (ne_of_none upd_same nr), upd_same]
          rfl
        · intro n hn
          rw [List.mem_singleton.mp hn]
          decide
      · refine ⟨.ref D, rfl, Nat.le_of_lt (small1000 (show 3 ≤ 1000 by decide)), fun r nr => ?_⟩
        have hD2 : upd H' e (.lst []) D = some (.lst (ms.map V.int)) := by
          rw [upd_ne nDe]; exact hD
        refine q r D _ ⟨(ne_of_none hD2 nr).symm, 0, 1, ms, upd_same, ?_, ?_, hlen, hpos, by decide, by decide, by decide⟩ ((sm.trans (new_same ne)).trans (new_same nr))
        · rw [upd_ne (ne_of_none hD2 nr)]
          exact hD2
        · cases ms with
          | nil => exact absurd rfl hx
          | cons m r => exact Nat.succ_pos _
end
end PL
namespace PL
open PySem PySem.Spec PyProof.Rows L2
/-! ### names -/
def az (c : Nat) : Bool := decide (97 ≤ c) && decide (c ≤ 122)
def nameB (z : Str) : Bool := decide (1 ≤ z.length) && decide (z.length ≤ 8) && z.cps.toList.all az
def isNm : V → Bool
  | .str z => nameB z
  | _ => false
theorem asc_az : ∀ c : Nat, c < 128 → (Unicode.isAlpha c && !(Unicode.isUpper c || Unicode.isTitle c)) = az c := by decide +kernel
theorem az_low : ∀ c : Nat, c < 128 → az c = true → Unicode.isLower c = true ∧ Unicode.isAlpha c = true ∧ (Unicode.isUpper c || Unicode.isTitle c) = false := by decide +kernel
theorem az_lt {c : Nat} (h : az c = true) : c < 128 := by
  unfold az at h
  rw [Bool.and_eq_true] at h
  have := of_decide_eq_true h.2
  omega
theorem name_txt (z : Str) (h : 1 ≤ z.length) : (Txt.isascii z && (Txt.isalpha z && Txt.islower z)) = z.cps.toList.all az := by
  have hl : z.length = z.cps.toList.length := rfl
  unfold Txt.isascii Txt.isalpha Txt.islower
  rw [← Array.all_toList, ← Array.all_toList, ← Array.any_toList, ← Array.any_toList]
  have hp : (decide (z.length > 0)) = true := decide_eq_true h
  rw [hp, Bool.true_and]
  rw [hl] at h
  generalize z.cps.toList = cs at h ⊢
  rw [Bool.eq_iff_iff]
  simp only [Bool.and_eq_true, List.all_eq_true, List.any_eq_true, Bool.not_eq_true', decide_eq_true_eq, List.any_eq_false]
  constructor
  · rintro ⟨h1, h2, _, h4⟩ c hc
    rw [← asc_az c (h1 c hc), h2 c hc, Bool.true_and]
    have := h4 c hc
    cases e : (Unicode.isUpper c || Unicode.isTitle c) with
    | true => exact absurd e this
    | false => rfl
  · intro h1
    refine ⟨fun c hc => az_lt (h1 c hc), fun c hc => (az_low c (az_lt (h1 c hc)) (h1 c hc)).2.1, ?_, fun c hc => ?_⟩
    · cases cs with
      | nil => exact absurd h (by decide)
      | cons c r => exact ⟨c, List.mem_cons_self, (az_low c (az_lt (h1 c List.mem_cons_self)) (h1 c List.mem_cons_self)).1⟩
    · rw [(az_low c (az_lt (h1 c hc)) (h1 c hc)).2.2]
      decide
theorem abc_list : (Str.ofString "abcdefghijklmnopqrstuvwxyz").cps.toList = List.range' 97 26 := by decide +kernel
theorem abc_mem (c : Nat) : decide (c ∈ (Str.ofString "abcdefghijklmnopqrstuvwxyz").cps.toList) = az c := by
  rw [abc_list, Bool.eq_iff_iff, decide_eq_true_eq, List.mem_range'_1]
  unfold az
  rw [Bool.and_eq_true, decide_eq_true_eq, decide_eq_true_eq]
  omega
def sgn (c : Nat) : Str := ⟨#[c]⟩
/-- the things that are asked of: texts, and what is surely no text -/
inductive Kd (H : Hp) : V → String → Prop where
  | non : Kd H .non "NoneType"
  | bl (b : Bool) : Kd H (.bl b) "bool"
  | int (i : Int) : Kd H (.int i) "int"
  | lst {a : Addr} {xs : List V} (e : H a = some (.lst xs)) : Kd H (.ref a) "list"
  | tup {a : Addr} {xs : List V} (e : H a = some (.tup xs)) : Kd H (.ref a) "tuple"
  | dK {a : Addr} {xs : List (Key × V)} (e : H a = some (.dK xs)) : Kd H (.ref a) "dict"
theorem Kd.ty {K : PySem.W.Frag} {H : Hp} {x : V} {nm : String} (h : Kd H x nm) : TyX K H x (.type nm) ∧ kitB nm "str" = some false ∧ isNm x = false := by
  cases h with
  | non => exact ⟨.base .non, by decide +kernel, rfl⟩
  | bl b => exact ⟨.base (.bl b), by decide +kernel, rfl⟩
  | int i => exact ⟨.base (.int i), by decide +kernel, rfl⟩
  | lst e => exact ⟨.base (.lst e), by decide +kernel, rfl⟩
  | tup e => exact ⟨.base (.tup e), by decide +kernel, rfl⟩
  | dK e => exact ⟨.base (.dK e), by decide +kernel, rfl⟩
theorem Kd.mono {H H' : Hp} {x : V} {nm : String} (h : Kd H x nm) (k : ∀ a o, x = .ref a → H a = some o → H' a = some o) : Kd H' x nm := by
  cases h with
  | non => exact .non
  | bl b => exact .bl b
  | int i => exact .int i
  | lst e => exact .lst (k _ _ rfl e)
  | tup e => exact .tup (k _ _ rfl e)
  | dK e => exact .dK (k _ _ rfl e)
def KindV (K : PySem.W.Frag) (H : Hp) (x : V) : Prop :=
  (∃ z, x = .str z ∧ z.length ≤ 1000 ∧ z.cps.toList.all (fun c => decide (c < 128)) = true) ∨ (∃ nm, Kd H x nm)
def spIsName (K : PySem.W.Frag) : Sp := fun vs H Q _ => ∃ x, vs = [x] ∧ KindV K H x ∧ Q (.bl (isNm x)) H
section
variable {P : Program} {w : World} {K : PySem.W.Frag} {mg : Str → Option Value} {base : Heap}
theorem ok_is_name {f : Addr} {fd : FuncData} {k : Nat} (F : Fun K "is_name" "is_name" s_is_name f fd) (T : TM mg) : FnOk P w K mg base CX0 (k + 1) f fd ["thing"] (spIsName K) := by
  refine F.ok sc_is_name (fun vs H Q E h => ?_) (fun cdv A outer s H vs Q E hr h => ?_)
  · obtain ⟨x, rfl, _⟩ := h
    rfl
  · obtain ⟨x, rfl, S, q⟩ := h
    refine ⟨_, (pss_one (ps_ret (pe_and (pe_callB call_isi (by rfl) T.m_isinstance (by decide +kernel) (pa_cons (pv 0) (pa_cons (pe_bltn (v := .ty "str") (by rfl) T.m_str (by decide +kernel) rfl) pa_nil))) (pe_and (pe_chain op_le op_le pe_int (pe_callB call_len (by rfl) T.m_len (by decide +kernel) (pa_cons (pv 0) pa_nil)) pe_int) (pe_and (pe_bm0 PySem.F.plainAttrs_str PySem.F.slot_str_isascii PySem.F.type_str_isascii mt_isascii (pv 0)) (pe_and (pe_bm0 PySem.F.plainAttrs_str PySem.F.slot_str_isalpha PySem.F.type_str_isalpha mt_isalpha (pv 0)) (pe_one (pe_bm0 PySem.F.plainAttrs_str PySem.F.slot_str_islower PySem.F.type_str_islower mt_islower (pv 0))))))))), ?_⟩
    rcases S with ⟨z, rfl, hz, _⟩ | ⟨nm, kd⟩
    · have hz2 : z.length ≤ sizeLine := Nat.le_of_lt (small1000 hz)
      have q' : Q (.bl (nameB z)) H := q
      unfold nameB at q'
      refine ⟨_, rfl, .str z, .ty "str", _, _, true, rfl, .ty _, .base (.str z), kit_ty (by decide +kernel), true, rfl, ?_⟩
      refine ⟨_, rfl, .str z, _, rfl, ⟨hz2, rfl⟩, 1, _, rfl, rfl, _, rfl, ite2 (fun h1 => ?_) (fun h1 => ?_)⟩
      · have h1' : 1 ≤ z.length := by
          have := of_decide_eq_true h1
          omega
        rw [decide_eq_true h1', ← name_txt z h1', Bool.true_and] at q'
        refine ⟨_, _, rfl, rfl, _, rfl, ite2 (fun h2 => ?_) (fun h2 => ?_)⟩
        · have h2' : z.length ≤ 8 := by
            have := of_decide_eq_true h2
            omega
          rw [decide_eq_true h2', Bool.true_and] at q'
          refine ⟨_, rfl, rfl, z, rfl, rfl, trivial, _, rfl, ite2 (fun h3 => ?_) (fun h3 => ?_)⟩
          · rw [h3, Bool.true_and] at q'
            refine ⟨_, rfl, rfl, z, rfl, rfl, trivial, _, rfl, ite2 (fun h4 => ?_) (fun h4 => ?_)⟩
            · rw [h4, Bool.true_and] at q'
              exact ⟨_, rfl, rfl, z, rfl, rfl, trivial, q'⟩
            · rw [Bool.not_eq_true] at h4
              rw [h4, Bool.false_and] at q'
              exact q'
          · rw [Bool.not_eq_true] at h3
            rw [h3, Bool.false_and] at q'
            exact q'
        · have h2' : ¬ z.length ≤ 8 := fun t => h2 (decide_eq_true (by omega))
          rw [decide_eq_false h2', Bool.false_and] at q'
          exact q'
      · have h1' : ¬ 1 ≤ z.length := fun t => h1 (decide_eq_true (by omega))
        rw [decide_eq_false h1', Bool.false_and, Bool.false_and] at q'
        exact ⟨false, rfl, q'⟩
    · obtain ⟨ty, hk, e⟩ := kd.ty (K := K)
      rw [e] at q
      exact ⟨_, rfl, x, .ty "str", _, _, false, rfl, .ty _, ty, kit_ty hk, false, rfl, q⟩
end
end PL
namespace PL
open PySem PySem.Spec PyProof.Rows L2
/-! ### words, the mathematics -/
theorem name_iff {z : Str} : nameB z = true ↔ 1 ≤ z.cps.toList.length ∧ z.cps.toList.length ≤ 8 ∧ ∀ c ∈ z.cps.toList, az c = true := by
  unfold nameB
  rw [Bool.and_eq_true, Bool.and_eq_true, decide_eq_true_eq, decide_eq_true_eq, List.all_eq_true, and_assoc]
  rfl
theorem str_ext {x y : Str} (h : x.cps.toList = y.cps.toList) : x = y := by
  cases x; cases y
  congr 1
  exact Array.toList_inj.mp h
theorem join_sgn (e : Str) (he : e.cps.toList = []) (cs : List Nat) : (Txt.join e (cs.map sgn)).cps.toList = cs := by
  rw [TL.join_eq]
  show TL.tl _ = cs
  rw [TL.tl_join, show TL.tl e = [] from he]
  have : ∀ l : List Nat, TL.joinL [] ((l.map sgn).map TL.tl) = l := by
    intro l
    induction l with
    | nil => rfl
    | cons a r ih =>
      cases r with
      | nil => rfl
      | cons b t =>
        show [a] ++ ([] ++ TL.joinL [] (((b :: t).map sgn).map TL.tl)) = a :: b :: t
        rw [ih]
        rfl
  exact this cs
theorem join_az {e : Str} (he : e.cps.toList = []) {cs : List Nat} (h : ∀ c ∈ cs, az c = true) (h1 : 1 ≤ cs.length) (h8 : cs.length ≤ 8) : nameB (Txt.join e (cs.map sgn)) = true := by
  rw [name_iff, join_sgn e he cs]
  exact ⟨h1, h8, h⟩
theorem sum_sgn : ∀ cs : List Nat, ((cs.map sgn).map (·.length)).sum = cs.length
  | [] => rfl
  | c :: r => by
    rw [List.map_cons, List.map_cons, List.sum_cons, sum_sgn r, List.length_cons]
    show 1 + r.length = r.length + 1
    omega
/-- the j-th other word of a word that stands already -/
def qz : List Nat := [113, 122, 120, 106]
def am : List Nat := List.range' 97 13
def alt (z : Str) (j : Nat) : Str := (cutS z none (some 6) ++ sgn (qz.getD (j / 13) 0)) ++ sgn (am.getD (j % 13) 0)
theorem cut6 (z : Str) : (cutS z none (some 6)).cps.toList = z.cps.toList.take 6 := by
  unfold cutS
  have hl : z.length = z.cps.toList.length := rfl
  rw [show HT.sIx z.length z.length (some 6) = min 6 z.length from HT.sIx_nat z.length _ 6, HT.sIx_none]
  show ((z.cps.toList.drop 0).take (min 6 z.length - 0)) = z.cps.toList.take 6
  rw [List.drop_zero, Nat.sub_zero, hl]
  rcases Nat.le_total 6 z.cps.toList.length with h | h
  · rw [Nat.min_eq_left h]
  · rw [Nat.min_eq_right h, List.take_length, List.take_of_length_le h]
theorem alt_list (z : Str) (j : Nat) : (alt z j).cps.toList = z.cps.toList.take 6 ++ [qz.getD (j / 13) 0, am.getD (j % 13) 0] := by
  unfold alt
  rw [PySem.Str.cps_append, PySem.Str.cps_append, Array.toList_append, Array.toList_append, cut6, List.append_assoc]
  rfl
theorem alt_az : ∀ j : Nat, j < 52 → az (qz.getD (j / 13) 0) = true ∧ az (am.getD (j % 13) 0) = true := by decide +kernel
theorem alt_name {z : Str} (h : nameB z = true) {j : Nat} (hj : j < 52) : nameB (alt z j) = true := by
  rw [name_iff] at h ⊢
  rw [alt_list]
  obtain ⟨h1, h2, h3⟩ := h
  refine ⟨?_, ?_, fun c hc => ?_⟩
  · rw [List.length_append]
    show 1 ≤ _ + 2
    omega
  · rw [List.length_append, List.length_take]
    show min 6 z.cps.toList.length + 2 ≤ 8
    omega
  · rcases List.mem_append.mp hc with hc | hc
    · exact h3 c (List.mem_of_mem_take hc)
    · rcases List.mem_cons.mp hc with hc | hc
      · rw [hc]; exact (alt_az j hj).1
      · rw [List.mem_singleton.mp hc]; exact (alt_az j hj).2
theorem alt_pair : ∀ i : Nat, i < 52 → ∀ j : Nat, j < 52 → qz.getD (i / 13) 0 = qz.getD (j / 13) 0 → am.getD (i % 13) 0 = am.getD (j % 13) 0 → i = j := by decide +kernel
theorem alt_inj {z : Str} {i j : Nat} (hi : i < 52) (hj : j < 52) (e : alt z i = alt z j) : i = j := by
  have e2 : (alt z i).cps.toList = (alt z j).cps.toList := by rw [e]
  rw [alt_list, alt_list] at e2
  have e3 := List.append_cancel_left e2
  exact alt_pair i hi j hj (List.cons.inj e3).1 (List.cons.inj (List.cons.inj e3).2).1
def alts (z : Str) : List Str := (List.range 52).map (alt z)
theorem nodup_map_range {α : Type} {f : Nat → α} : ∀ n : Nat, (∀ i j, i < n → j < n → f i = f j → i = j) → ((List.range n).map f).Nodup
  | 0, _ => List.nodup_nil
  | n + 1, h => by
    rw [List.range_succ, List.map_append]
    refine List.nodup_append.mpr ⟨nodup_map_range n fun i j hi hj e => h i j (by omega) (by omega) e, by simp, fun a ha b hb e => ?_⟩
    obtain ⟨i, hi, rfl⟩ := List.mem_map.mp ha
    obtain rfl := List.mem_singleton.mp hb
    have hi' := List.mem_range.mp hi
    have := h i n (by omega) (by omega) e
    omega
theorem len_sub {α : Type} [DecidableEq α] : ∀ (xs ys : List α), xs.Nodup → (∀ x ∈ xs, x ∈ ys) → xs.length ≤ ys.length
  | [], _, _, _ => Nat.zero_le _
  | x :: r, ys, h, hs => by
    have hx := hs x List.mem_cons_self
    have h2 := List.nodup_cons.mp h
    have := len_sub r (ys.erase x) h2.2 fun y hy => (List.mem_erase_of_ne (by rintro rfl; exact h2.1 hy)).mpr (hs y (List.mem_cons_of_mem _ hy))
    rw [List.length_erase_of_mem hx] at this
    have hp : 0 < ys.length := List.length_pos_of_mem hx
    rw [List.length_cons]
    omega
/-- of 52 other words one stands not among fewer than 52 -/
theorem alt_new (z : Str) (zs : List Str) (h : zs.length < 52) : ∃ y r, (alts z).filter (fun a => !decide (a ∈ zs)) = y :: r ∧ y ∉ zs ∧ ∃ j, j < 52 ∧ y = alt z j := by
  cases e : (alts z).filter (fun a => !decide (a ∈ zs)) with
  | nil =>
    exfalso
    have hs : ∀ x ∈ alts z, x ∈ zs := fun x hx => by
      by_cases q : x ∈ zs
      · exact q
      · have : x ∈ (alts z).filter (fun a => !decide (a ∈ zs)) := List.mem_filter.mpr ⟨hx, by simp [q]⟩
        rw [e] at this
        cases this
    have := len_sub _ _ (nodup_map_range (f := alt z) 52 fun i j hi hj q => alt_inj hi hj q) hs
    rw [List.length_map, List.length_range] at this
    omega
  | cons y r =>
    have hy : y ∈ (alts z).filter (fun a => !decide (a ∈ zs)) := by rw [e]; exact List.mem_cons_self
    obtain ⟨h1, h2⟩ := List.mem_filter.mp hy
    obtain ⟨j, hj, rfl⟩ := List.mem_map.mp h1
    exact ⟨_, _, rfl, by simpa using h2, j, List.mem_range.mp hj, rfl⟩
theorem inV_strs (z : Str) : ∀ zs : List Str, inV (.str z) (zs.map V.str) = decide (z ∈ zs)
  | [] => rfl
  | y :: r => by
    have ih := inV_strs z r
    unfold inV at ih ⊢
    rw [List.map_cons, List.any_cons, ih]
    show ((y == z) || decide (z ∈ r)) = decide (z ∈ y :: r)
    rw [Bool.eq_iff_iff, Bool.or_eq_true, decide_eq_true_eq, decide_eq_true_eq, List.mem_cons, beq_iff_eq]
    constructor
    · rintro (h | h)
      · exact .inl h.symm
      · exact .inr h
    · rintro (h | h)
      · exact .inl h.symm
      · exact .inr h
theorem flat_strs (zs : List Str) : (zs.map V.str).all flatV = true := by
  rw [List.all_map]
  exact List.all_eq_true.mpr fun _ _ => rfl
def ownZ : List Str := ["move", "by", "when", "then", "any", "end", "is", "put", "add", "give", "even", "over", "rule", "most"]
theorem own_name : ∀ z ∈ ownZ, nameB z = true := by decide +kernel
theorem Kp.none {d c p : Addr} {H H' : Hp} (k : Kp d c H H') (h1 : p ≠ d) (h2 : p ≠ c) (h : H' p = Option.none) : H p = Option.none := by
  cases e : H p with
  | none => rfl
  | some u =>
    rw [k p u h1 h2 e] at h
    cases h
theorem qz_list : (Str.ofString "qzxj").cps.toList = qz := by decide +kernel
theorem am_list : (Str.ofString "abcdefghijklm").cps.toList = am := by decide +kernel
theorem qz_at (k : Nat) (h : k < 4) : (Str.ofString "qzxj").cps.toList[k]? = some (qz.getD k 0) := by
  rw [qz_list]
  exact (show ∀ k : Nat, k < 4 → qz[k]? = some (qz.getD k 0) by decide +kernel) k h
theorem am_at (k : Nat) (h : k < 13) : (Str.ofString "abcdefghijklm").cps.toList[k]? = some (am.getD k 0) := by
  rw [am_list]
  exact (show ∀ k : Nat, k < 13 → am[k]? = some (am.getD k 0) by decide +kernel) k h
theorem len_app (x y : Str) : (x ++ y).length = x.length + y.length := by
  show (x ++ y).cps.size = x.cps.size + y.cps.size
  rw [PySem.Str.cps_append, Array.size_append]
theorem at_ofA {α : Type} {xs : List α} {z : Int} {j : Nat} {v : α} (e : z = (j : Int)) (h : xs[j]? = some v) : atI xs z = some v := by
  rw [e]
  exact atI_nat h
/-! ### the promise -/
def spNames : Sp := fun vs H Q _ => ∃ (d c : Addr) (m : Nat), vs = [.ref d, .int m] ∧ DrC H d c ∧ m ≤ 20 ∧
  ∀ (p : Addr) (zs : List Str) H', DrC H' d c → Kp d c H H' → H p = none → p ≠ d → p ≠ c → H' p = some (.lst (zs.map V.str)) → zs.length = m → zs.Nodup → (∀ z ∈ zs, nameB z = true) → Q (.ref p) H'
/-- what holds in the loop -/
structure NInv (H H' : Hp) (d c o p : Addr) (zs : List Str) : Prop where
  dr : DrC H' d c
  kp : Kp d c H H'
  ho : H' o = some (.lst (ownZ.map V.str))
  hp : H' p = some (.lst (zs.map V.str))
  nd : zs.Nodup
  nm : ∀ z ∈ zs, nameB z = true
theorem NInv.go {H H' H2 : Hp} {d c o p : Addr} {zs : List Str} (I : NInv H H' d c o p zs) (od : o ≠ d) (oc : o ≠ c) (pd : p ≠ d) (pc : p ≠ c) (D : DrC H2 d c) (k : Kp d c H' H2) : NInv H H2 d c o p zs :=
  ⟨D, I.kp.trans k, k _ _ od oc I.ho, k _ _ pd pc I.hp, I.nd, I.nm⟩
theorem NInv.new {H H' : Hp} {d c o p D : Addr} {zs : List Str} {u : HO} (I : NInv H H' d c o p zs) (nD : H' D = none) : NInv H (upd H' D u) d c o p zs :=
  ⟨I.dr.new nD, I.kp.trans (Kp.new nD), by rw [upd_ne (ne_of_none I.ho nD)]; exact I.ho, by rw [upd_ne (ne_of_none I.hp nD)]; exact I.hp, I.nd, I.nm⟩
section
variable {P : Program} {w : World} {K : PySem.W.Frag} {mg : Str → Option Value} {base : Heap}
theorem ok_names {f : Addr} {fd : FuncData} (F : Fun K "_law_names" "_law_names" s_law_names f fd) (T : TM mg) (C_law_take : D0.Cal P w K mg base "_law_take" 1 ["draw", "size"] spTake) (C_law_pick : D0.Cal P w K mg base "_law_pick" 2 ["draw", "some"] (spPick K)) : FnOk P w K mg base CX0 3 f fd ["draw", "many"] spNames := by
  refine F.ok sc_law_names (fun vs H Q E h => ?_) (fun cdv A outer s H vs Q E hr h => ?_)
  · obtain ⟨d, c, m, rfl, _⟩ := h
    rfl
  · obtain ⟨d, c, m, rfl, Dz, hm, q⟩ := h
    refine ⟨_, (pss_cons (ps_set (i := 2) sc_law_names.nd rfl (.inl rfl) (pe_lst (pa_cons pe_str (pa_cons pe_str (pa_cons pe_str (pa_cons pe_str (pa_cons pe_str (pa_cons pe_str (pa_cons pe_str (pa_cons pe_str (pa_cons pe_str (pa_cons pe_str (pa_cons pe_str (pa_cons pe_str (pa_cons pe_str (pa_cons pe_str pa_nil))))))))))))))))
      (pss_cons (ps_set (i := 3) sc_law_names.nd rfl (.inr rfl) (pe_lst pa_nil))
      (pss_cons (ps_for PassesOwn.never rfl (pi_range1 (by rfl) T.m_range (pa_cons (pv 1) pa_nil)) (pg_name (i := 4) sc_law_names.nd rfl (.inl rfl))
        (pss_cons (ps_set (i := 5) sc_law_names.nd rfl (.inr rfl) (D0.pe_cal C_law_pick (hr.mono (by decide)) (by rfl) (pa_cons (pv 0) (pa_cons (pv 2) pa_nil))))
      (C8.pss_cut (ps_if (pt_cmpR op_gt (D0.pe_cal C_law_take (hr.mono (by decide)) (by rfl) (pa_cons (pv 0) (pa_cons pe_int pa_nil))) pe_int (nomark _))
        (pss_one (ps_set (i := 5) sc_law_names.nd rfl (.inr rfl) (pe_join pe_str (pe_lc (own := [("j", 7)]) (g := gName 7) rfl sc_law_names.nd (pi_range1 (by rfl) T.m_range (pa_cons (pe_op op_add pe_int (D0.pe_cal C_law_take (hr.mono (by decide)) (by rfl) (pa_cons (pv 0) (pa_cons pe_int pa_nil)))) pa_nil)) (blkOk_by (own := [("j", 7)]) (N := ["draw", "many", "own", "found", "k", "word", "some", "j", "one"]) (sc := defScope s_law_names) (by decide +kernel)) (fun _ _ _ _ _ => pg_name (i := 7) sc_law_names.nd rfl (Or.inl rfl)) (fun _ _ _ _ _ => pts_nil) (fun _ _ _ _ _ => (D0.pe_cal C_law_pick (hr.mono (by decide)) (by rfl) (pa_cons (pv 0) (pa_cons pe_str pa_nil))))))))
        pss_nil)
      (C8.pss_cut (ps_if (pt_cmpR op_in_seq (pv 5) (pv 3) rfl)
        (pss_cons (ps_setLc (i := 6) (own := [("j", 7)]) (g := gName 7) rfl sc_law_names.nd rfl rfl (sw_true rfl rfl rfl (by decide +kernel)) (pi_range1 (by rfl) T.m_range (pa_cons pe_int pa_nil)) (blkOk_by (own := [("j", 7)]) (N := ["draw", "many", "own", "found", "k", "word", "some", "j", "one"]) (sc := defScope s_law_names) (by decide +kernel)) (fun _ _ _ _ _ => pg_name (i := 7) sc_law_names.nd rfl (Or.inl rfl)) (fun _ _ _ _ _ => pts_nil) (fun _ _ _ _ _ => (pe_op op_add_str (pe_op op_add_str (pe_slice sl_str (pv 5) po_none (po_some pe_int)) (pe_ix ix_str pe_str (pe_op op_fdivN (pv 7) pe_int) (fun _ _ => rfl))) (pe_ix ix_str pe_str (pe_op op_modN (pv 7) pe_int) (fun _ _ => rfl)))))
      (pss_one (ps_set (i := 5) sc_law_names.nd rfl (.inr rfl) (pe_ix ix_list (pe_lc (own := [("one", 8)]) (g := gName 8) rfl sc_law_names.nd (pi_list (pv 6)) (blkOk_by (own := [("one", 8)]) (N := ["draw", "many", "own", "found", "k", "word", "some", "j", "one"]) (sc := defScope s_law_names) (by decide +kernel)) (fun _ _ _ _ _ => pg_name (i := 8) sc_law_names.nd rfl (Or.inl rfl)) (fun _ _ _ _ _ => (pts_one (pt_cmpR (r := rIn K true) op_notIn_seq (pv 8) (pv 3) rfl))) (fun _ _ _ _ _ => (pv 8))) pe_int (fun _ _ => rfl)))))
        pss_nil)
      (pss_one (ps_expr (pe_bm PySem.F.plainAttrs_list PySem.F.slot_list_append PySem.F.type_list_append mt_append (pv 3) (pa_cons (pv 5) pa_nil))))))))
      (pss_one (ps_ret (pv 3)))))), ?_⟩
    refine ⟨Nat.le_of_lt (small1000 (show 14 ≤ 1000 by decide)), fun o no => ?_⟩
    refine ⟨Nat.zero_le _, fun p np => ?_⟩
    have hO : upd H o (.lst (ownZ.map V.str)) o = some (.lst (ownZ.map V.str)) := upd_same
    have nop : o ≠ p := ne_of_none hO np
    have nHp : H p = none := by
      rw [upd_ne nop.symm] at np
      exact np
    have od := Dz.nd no
    have oc := Dz.nc no
    have pd := Dz.nd nHp
    have pc := Dz.nc nHp
    refine ⟨_, rfl, m, rfl, by omega, by omega, ?_⟩
    refine for_range (lo := 0) (n := (m : Int).toNat) (fun i σ H' => ∃ (zs : List Str) (y4 y5 y6 y7 y8 : Option V), σ = [some (.ref d), some (.int m), some (.ref o), some (.ref p), y4, y5, y6, y7, y8] ∧ NInv H H' d c o p zs ∧ zs.length = i)
      ⟨[], none, none, none, none, none, rfl, ⟨(Dz.new no).new np, (Kp.new no).trans (Kp.new np), by rw [upd_ne nop]; exact hO, upd_same, List.nodup_nil, fun _ h => (nomatch h)⟩, rfl⟩ ?_ ?_
    · rintro i σ H1 hi ⟨zs, y4, y5, y6, y7, y8, rfl, I, hl⟩
      -- word = _law_pick(draw, own)
      refine ⟨_, rfl, _, rfl, d, c, _, fun v => ∃ z ∈ ownZ, v = .str z, rfl, I.dr, .inl ⟨o, _, rfl, SqL.of I.ho, od, oc, (by decide), (by decide), fun v hv => ?_⟩, fun v H2 hv D2 k2 => ?_⟩
      · obtain ⟨z, hz, rfl⟩ := List.mem_map.mp hv
        exact ⟨z, hz, rfl⟩
      obtain ⟨z, hz, rfl⟩ := hv
      have I2 := I.go od oc pd pc D2 k2
      have hz1 := own_name z hz
      -- if _law_take(draw, 3) > 0: word = ''.join(..)
      refine ⟨fun σ H' => ∃ (z : Str) (y4 y6 y7 y8 : Option V), σ = [some (.ref d), some (.int m), some (.ref o), some (.ref p), y4, some (.str z), y6, y7, y8] ∧ NInv H H' d c o p zs ∧ nameB z = true, ?_, ?_⟩
      · refine ⟨_, rfl, d, c, 3, rfl, D2, by decide, by decide, fun v H3 _ _ D3 k3 => ?_⟩
        have I3 := I2.go od oc pd pc D3 k3
        refine ⟨_, _, rfl, rfl, _, rfl, ite2 (fun _ => ?_) (fun _ => ⟨z, _, _, _, _, rfl, I3, hz1⟩)⟩
        refine ⟨⟨_, rfl⟩, _, rfl, d, c, 8, rfl, D3, by decide, by decide, fun n H4 n0 n1 D4 k4 => ?_⟩
        have I4 := I3.go od oc pd pc D4 k4
        refine ⟨_, _, rfl, rfl, _, rfl, by omega, by omega, fun D nD => ?_⟩
        refine lc_range (lo := 0) (n := (1 + n).toNat) (fun i H' => ∃ cs : List Nat, cs.length = i ∧ (∀ c ∈ cs, az c = true) ∧ NInv H H' d c o p zs ∧ D ≠ d ∧ D ≠ c ∧ D ≠ o ∧ D ≠ p ∧ H D = none ∧ H' D = some (.lst ((cs.map sgn).map V.str)))
          ⟨[], rfl, fun _ h => (nomatch h), I4.new nD, D4.nd nD, D4.nc nD, (ne_of_none I4.ho nD).symm, (ne_of_none I4.hp nD).symm, ?_, upd_same⟩ ?_ ?_
        · exact I4.kp.none (D4.nd nD) (D4.nc nD) nD
        · rintro j H5 hj ⟨cs, hc1, hc2, I5, Dd, Dc, Do, Dp, HD, hD⟩
          refine ⟨rfl, ?_⟩
          refine ⟨_, rfl, d, c, _, fun v => ∃ u, az u = true ∧ v = .str (sgn u), rfl, I5.dr, .inr ⟨_, rfl, by decide +kernel, by decide +kernel, fun u hu => ?_⟩, fun v H6 hv D6 k6 => ?_⟩
          · have := decide_eq_true hu
            rw [abc_mem] at this
            exact ⟨u, this, rfl⟩
          · obtain ⟨u, hu, rfl⟩ := hv
            have hD6 := k6 _ _ Dd Dc hD
            have I6 := I5.go od oc pd pc D6 k6
            refine ⟨_, hD6, ?_, cs ++ [u], ?_, ?_, ?_, Dd, Dc, Do, Dp, HD, ?_⟩
            · rw [List.length_map, List.length_map]
              exact small1000 (by omega)
            · rw [List.length_append, hc1]; rfl
            · intro x hx
              rcases List.mem_append.mp hx with h | h
              · exact hc2 x h
              · rw [List.mem_singleton.mp h]; exact hu
            · exact ⟨D6.upd Dd Dc, fun b x h1 h2 h3 => by
                rw [upd_ne (ne_of_none h3 HD)]
                exact I6.kp b x h1 h2 h3, by rw [upd_ne Do.symm]; exact I6.ho, by rw [upd_ne Dp.symm]; exact I6.hp, I6.nd, I6.nm⟩
            · rw [upd_same, List.map_append, List.map_append]
              rfl
        · rintro H5 ⟨cs, hc1, hc2, I5, Dd, Dc, Do, Dp, HD, hD⟩
          refine ⟨_, D, cs.map sgn, rfl, rfl, .inl (SqL.of hD), ?_, ?_⟩
          · rw [sum_sgn, List.length_map, hc1]
            show (1 + n).toNat + (1 + n).toNat * 0 ≤ 16777216
            omega
          · exact ⟨_, _, _, _, _, rfl, I5, join_az rfl hc2 (by omega) (by omega)⟩
      · -- if word in found
        rintro σ' H3 ⟨z, y4, y6, y7, y8, rfl, I3, hz⟩
        refine ⟨fun σ H' => ∃ (z : Str) (y4 y6 y7 y8 : Option V), σ = [some (.ref d), some (.int m), some (.ref o), some (.ref p), y4, some (.str z), y6, y7, y8] ∧ NInv H H' d c o p zs ∧ nameB z = true ∧ z ∉ zs, ?_, ?_⟩
        · refine ⟨_, rfl, _, rfl, p, _, rfl, .inl (SqL.of I3.hp), rfl, flat_strs zs, _, rfl, ?_⟩
          rw [inV_strs]
          refine ite2 (fun hin => ?_) (fun hin => ⟨z, _, _, _, _, rfl, I3, hz, fun h => hin (decide_eq_true h)⟩)
          refine ⟨52, rfl, by decide, by decide, fun D nD => ?_⟩
          have Dd := I3.dr.nd nD
          have Dc := I3.dr.nc nD
          have HD : H D = none := I3.kp.none Dd Dc nD
          refine lc_range (lo := 0) (n := 52) (fun i H' => NInv H H' d c o p zs ∧ D ≠ o ∧ D ≠ p ∧ H' D = some (.lst (((List.range i).map (alt z)).map V.str)))
            ⟨I3.new nD, (ne_of_none I3.ho nD).symm, (ne_of_none I3.hp nD).symm, upd_same⟩ ?_ ?_
          · rintro j H4 hj ⟨I4, Do, Dp, hD⟩
            obtain ⟨z1, z8, _⟩ := name_iff.mp hz
            have z8' : z.length ≤ 8 := z8
            have e13 : (0 + (j : Int)).fdiv 13 = ((j / 13 : Nat) : Int) := by
              rw [Int.fdiv_eq_ediv_of_nonneg _ (by decide)]
              omega
            have em : (0 + (j : Int)).fmod 13 = ((j % 13 : Nat) : Int) := by
              rw [Int.fmod_eq_emod_of_nonneg _ (by decide)]
              omega
            have l6 : (cutS z none (some 6)).length ≤ 8 := by
              have : (cutS z none (some 6)).length = (cutS z none (some 6)).cps.toList.length := rfl
              rw [this, cut6, List.length_take]
              omega
            refine ⟨rfl, ?_⟩
            refine ⟨_, rfl, 6, rfl, z, rfl, Nat.le_of_lt (small1000 (by omega)), ?_⟩
            refine ⟨_, rfl, _, _, rfl, rfl, ⟨by decide, by decide⟩, _, _, _, rfl, rfl, by decide +kernel, at_ofA e13 (qz_at (j / 13) (by omega)), ?_⟩
            refine ⟨_, _, rfl, rfl, Nat.le_of_lt (small1000 (show (cutS z none (some 6)).length + 1 ≤ 1000 by omega)), ?_⟩
            refine ⟨_, rfl, _, _, rfl, rfl, (by show (13 : Int) ≠ 0; decide), _, _, _, rfl, rfl, by decide +kernel, at_ofA em (am_at (j % 13) (Nat.mod_lt _ (by decide))), ?_⟩
            have l7 : (cutS z none (some 6) ++ sgn (qz.getD (j / 13) 0)).length ≤ 9 := by
              rw [len_app]
              show (cutS z none (some 6)).length + 1 ≤ 9
              omega
            refine ⟨_, _, rfl, rfl, Nat.le_of_lt (small1000 (show (cutS z none (some 6) ++ sgn (qz.getD (j / 13) 0)).length + 1 ≤ 1000 by omega)), ?_⟩
            refine ⟨_, hD, ?_, ⟨I4.dr.upd Dd Dc, fun b x h1 h2 h3 => ?_, by rw [upd_ne Do.symm]; exact I4.ho, by rw [upd_ne Dp.symm]; exact I4.hp, I4.nd, I4.nm⟩, Do, Dp, ?_⟩
            · rw [List.length_map, List.length_map, List.length_range]
              exact small1000 (by omega)
            · rw [upd_ne (ne_of_none h3 HD)]
              exact I4.kp b x h1 h2 h3
            · rw [upd_same, List.range_succ, List.map_append, List.map_append]
              rfl
          · rintro H4 ⟨I4, Do, Dp, hD⟩
            refine ⟨_, rfl, D, rfl, ⟨_, SqL.of hD⟩, fun G nG => ?_⟩
            have nDG := ne_of_none hD nG
            refine lc_list (K := K) (a := D) (xs := (alts z).map V.str) (fun i H' => NInv H H' d c o p zs ∧ H' D = some (.lst ((alts z).map V.str)) ∧ H' G = some (.lst ((((alts z).take i).filter fun a => !decide (a ∈ zs)).map V.str)))
              ⟨I4.new nG, by rw [upd_ne nDG]; exact hD, upd_same⟩ (fun _ _ _ h => SqL.of h.2.1) ?_ ?_
            · rintro i x H5 hi ⟨I5, hD5, hG5⟩
              obtain ⟨a, ha, rfl⟩ : ∃ a, (alts z)[i]? = some a ∧ V.str a = x := by
                rw [List.getElem?_map] at hi
                cases e : (alts z)[i]? with
                | none =>
                  rw [e] at hi
                  cases hi
                | some u =>
                  rw [e] at hi
                  exact ⟨u, rfl, Option.some.inj hi⟩
              have et : (alts z).take (i + 1) = (alts z).take i ++ [a] := by
                rw [List.take_add_one, ha]
                rfl
              have Gd := I4.dr.nd nG
              have Gc := I4.dr.nc nG
              have HG : H G = none := I4.kp.none Gd Gc nG
              refine ⟨rfl, ?_⟩
              refine ⟨_, rfl, _, rfl, p, _, rfl, .inl (SqL.of I5.hp), rfl, flat_strs zs, _, rfl, ?_⟩
              rw [inV_strs, et, List.filter_append]
              refine ite2 (fun hn => ?_) (fun hn => ?_)
              · refine ⟨_, rfl, _, hG5, ?_, ⟨I5.dr.upd Gd Gc, fun b x h1 h2 h3 => ?_, by rw [upd_ne (ne_of_none I4.ho nG)]; exact I5.ho, by rw [upd_ne (ne_of_none I4.hp nG)]; exact I5.hp, I5.nd, I5.nm⟩, ?_, ?_⟩
                · rw [List.length_map]
                  refine small1000 (Nat.le_trans (List.length_filter_le _ _) ?_)
                  rw [List.length_take]
                  unfold alts
                  rw [List.length_map, List.length_range]
                  omega
                · rw [upd_ne (ne_of_none h3 HG)]
                  exact I5.kp b x h1 h2 h3
                · rw [upd_ne nDG]
                  exact hD5
                · have ef : [a].filter (fun a => !decide (a ∈ zs)) = [a] := by
                    rw [List.filter_cons, if_pos (show (!decide (a ∈ zs)) = true from hn)]
                    rfl
                  rw [upd_same, ef, List.map_append]
                  rfl
              · have ef : [a].filter (fun a => !decide (a ∈ zs)) = [] := by
                  rw [List.filter_cons, if_neg (show ¬ (!decide (a ∈ zs)) = true from hn)]
                  rfl
                rw [ef, List.append_nil]
                exact ⟨I5, hD5, hG5⟩
            · rintro H5 ⟨I5, hD5, hG5⟩
              rw [List.length_map, List.take_length] at hG5
              obtain ⟨y, r, e1, e2, j, hj, e3⟩ := alt_new z zs (by omega)
              rw [e1] at hG5
              refine ⟨G, _, 0, .str y, rfl, rfl, SqL.of hG5, atI_nat (j := 0) rfl, ?_⟩
              exact ⟨y, _, _, _, _, rfl, I5, by rw [e3]; exact alt_name hz hj, e2⟩
        · -- found.append(word)
          rintro σ' H4 ⟨z, y4, y6, y7, y8, rfl, I4, hz, hn⟩
          refine ⟨_, rfl, .inl ⟨rfl, _, SqL.of I4.hp⟩, _, rfl, p, _, _, rfl, rfl, I4.hp, ?_, ?_⟩
          · rw [List.length_map]
            exact small1000 (by omega)
          · refine ⟨zs ++ [z], _, _, _, _, _, rfl, ⟨I4.dr.upd pd pc, fun b x h1 h2 h3 => ?_, ?_, ?_, ?_, ?_⟩, ?_⟩
            · rw [upd_ne (ne_of_none h3 nHp)]
              exact I4.kp b x h1 h2 h3
            · rw [upd_ne nop]
              exact I4.ho
            · rw [upd_same, List.map_append]
              rfl
            · refine List.nodup_append.mpr ⟨I4.nd, by simp, fun a ha b hb e => ?_⟩
              rw [List.mem_singleton.mp hb] at e
              exact hn (e ▸ ha)
            · intro x hx
              rcases List.mem_append.mp hx with h | h
              · exact I4.nm x h
              · rw [List.mem_singleton.mp h]; exact hz
            · rw [List.length_append, hl]; rfl
    · rintro σ H1 ⟨zs, y4, y5, y6, y7, y8, rfl, I, hl⟩
      exact ⟨_, rfl, q p zs H1 I.dr I.kp nHp pd pc I.hp (by omega) I.nd I.nm⟩
end
end PL
namespace PL
open PySem PySem.Spec PyProof.Rows L2 D0
/-! ### rules as data -/
abbrev Trip := Int × Str × Int
def tripD (t : Trip) : PyData := .tuple [.int t.1, .str t.2.1, .int t.2.2]
def byD : Option Int → PyData
  | none => .none
  | some i => .int i
structure MoveD where
  name : Str
  by_ : Option Int
  tests : List Trip
  changes : List Trip
def moveD (m : MoveD) : PyData := .tuple [.str m.name, byD m.by_, .tuple (m.tests.map tripD), .tuple (m.changes.map tripD)]
structure EndD where
  tests : List Trip
  points : List Int
def endD (e : EndD) : PyData := .tuple [.tuple (e.tests.map tripD), .tuple (e.points.map PyData.int)]
structure RuleD where
  begun : List Int
  plays : List MoveD
  seats : Int
  closes : List EndD
  longest : Int
  halted : Str
def ruleD (r : RuleD) : PyData := .tuple [.tuple (r.begun.map PyData.int), .tuple (r.plays.map moveD), .int r.seats, .tuple (r.closes.map endD), .int r.longest, .str r.halted]
def TestOk (n : Int) (t : Trip) : Prop := (0 ≤ t.1 ∧ t.1 ≤ n - 1) ∧ (t.2.1 = Str.ofString "is" ∨ t.2.1 = Str.ofString "least" ∨ t.2.1 = Str.ofString "most") ∧ 0 ≤ t.2.2 ∧ t.2.2 ≤ 9
def ChangeOk (n : Int) (t : Trip) : Prop := (0 ≤ t.1 ∧ t.1 ≤ n - 1) ∧ ((t.2.1 = Str.ofString "put" ∧ 0 ≤ t.2.2 ∧ t.2.2 ≤ 9) ∨ (t.2.1 = Str.ofString "add" ∧ -9 ≤ t.2.2 ∧ t.2.2 ≤ 9))
structure MoveOk (n s : Int) (m : MoveD) : Prop where
  name : nameB m.name = true
  by_ : ∀ i, m.by_ = some i → 0 ≤ i ∧ i ≤ s - 1
  tl : m.tests.length ≤ 4
  ts : ∀ t ∈ m.tests, TestOk n t
  cl0 : 1 ≤ m.changes.length
  cl : m.changes.length ≤ 4
  cs : ∀ t ∈ m.changes, ChangeOk n t
  nd : (m.changes.map (·.1)).Nodup
structure EndOk (n s : Int) (e : EndD) : Prop where
  tl : e.tests.length ≤ 4
  ts : ∀ t ∈ e.tests, TestOk n t
  pl : (e.points.length : Int) = s
  ps : ∀ p ∈ e.points, 0 ≤ p ∧ p ≤ 4
structure RuleOk (r : RuleD) : Prop where
  b0 : 1 ≤ r.begun.length
  b1 : r.begun.length ≤ 12
  bs : ∀ n ∈ r.begun, 0 ≤ n ∧ n ≤ 9
  s0 : 2 ≤ r.seats
  s1 : r.seats ≤ 4
  m0 : 1 ≤ r.plays.length
  m1 : r.plays.length ≤ 16
  ms : ∀ m ∈ r.plays, MoveOk r.begun.length r.seats m
  mn : (r.plays.map (·.name)).Nodup
  e1 : r.closes.length ≤ 6
  es : ∀ e ∈ r.closes, EndOk r.begun.length r.seats e
  l0 : 1 ≤ r.longest
  l1 : r.longest ≤ 60
  h : r.halted = Str.ofString "lose" ∨ r.halted = Str.ofString "even"
/-! ### the promises, of what is right -/
def spNumber : Sp := fun vs H Q _ => ∃ x lo hi : Int, vs = [.int x, .int lo, .int hi] ∧ lo ≤ x ∧ x ≤ hi ∧ Q (.bl true) H
def spTuple (K : PySem.W.Frag) : Sp := fun vs H Q _ => ∃ (a : Addr) (xs : List V) (lo hi : Int), vs = [.ref a, .int lo, .int hi] ∧ SqT K H a xs ∧ xs.length ≤ 1000 ∧ lo ≤ xs.length ∧ xs.length ≤ hi ∧ Q (.bl true) H
def spList (K : PySem.W.Frag) : Sp := fun vs H Q _ => ∃ (a : Addr) (xs : List V) (lo hi : Int), vs = [.ref a, .int lo, .int hi] ∧ (SqL K H a xs ∨ SqT K H a xs) ∧ xs.length ≤ 1000 ∧ lo ≤ xs.length ∧ xs.length ≤ hi ∧ ∀ H', Same H H' → Q (.bl true) H'
def spTest (K : PySem.W.Frag) : Sp := fun vs H Q _ => ∃ (v : V) (n : Int) (t : Trip), vs = [v, .int n] ∧ Td K H v (tripD t) ∧ TestOk n t ∧ ∀ H', Same H H' → Q (.bl true) H'
def spTests (K : PySem.W.Frag) : Sp := fun vs H Q _ => ∃ (v : V) (n : Int) (ts : List Trip), vs = [v, .int n] ∧ Td K H v (.tuple (ts.map tripD)) ∧ ts.length ≤ 4 ∧ (∀ t ∈ ts, TestOk n t) ∧ ∀ H', Same H H' → Q (.bl true) H'
def spChange (K : PySem.W.Frag) : Sp := fun vs H Q _ => ∃ (v : V) (n : Int) (t : Trip), vs = [v, .int n] ∧ Td K H v (tripD t) ∧ ChangeOk n t ∧ ∀ H', Same H H' → Q (.bl true) H'
def spChanges (K : PySem.W.Frag) : Sp := fun vs H Q _ => ∃ (v : V) (n : Int) (ts : List Trip), vs = [v, .int n] ∧ Td K H v (.tuple (ts.map tripD)) ∧ 1 ≤ ts.length ∧ ts.length ≤ 4 ∧ (∀ t ∈ ts, ChangeOk n t) ∧ (ts.map (·.1)).Nodup ∧ ∀ H', Same H H' → Q (.bl true) H'
def spMove (K : PySem.W.Frag) : Sp := fun vs H Q _ => ∃ (v : V) (n s : Int) (m : MoveD), vs = [v, .int n, .int s] ∧ Td K H v (moveD m) ∧ MoveOk n s m ∧ ∀ H', Same H H' → Q (.bl true) H'
def spMoves (K : PySem.W.Frag) : Sp := fun vs H Q _ => ∃ (a : Addr) (n s : Int) (xs : List V) (ms : List MoveD), vs = [.ref a, .int n, .int s] ∧ (SqL K H a xs ∨ SqT K H a xs) ∧ TdAll K H xs (ms.map moveD) ∧ 1 ≤ ms.length ∧ ms.length ≤ 16 ∧
  (∀ m ∈ ms, MoveOk n s m) ∧ (ms.map (·.name)).Nodup ∧ ∀ H', Same H H' → Q (.bl true) H'
def spPoints (K : PySem.W.Frag) : Sp := fun vs H Q _ => ∃ (v : V) (s : Int) (ps : List Int), vs = [v, .int s] ∧ Td K H v (.tuple (ps.map PyData.int)) ∧ (ps.length : Int) = s ∧ s ≤ 4 ∧ (∀ p ∈ ps, 0 ≤ p ∧ p ≤ 4) ∧ ∀ H', Same H H' → Q (.bl true) H'
def spEnd (K : PySem.W.Frag) : Sp := fun vs H Q _ => ∃ (v : V) (n s : Int) (e : EndD), vs = [v, .int n, .int s] ∧ Td K H v (endD e) ∧ EndOk n s e ∧ s ≤ 4 ∧ ∀ H', Same H H' → Q (.bl true) H'
/-! ### small facts -/
section
variable {K : PySem.W.Frag} {H : Hp}
theorem trip_at {v : V} {t : Trip} (h : Td K H v (tripD t)) : ∃ a, v = .ref a ∧ SqT K H a [.int t.1, .str t.2.1, .int t.2.2] := by
  obtain ⟨a, xs, rfl, hS, hA⟩ := h.tuple
  refine ⟨a, rfl, ?_⟩
  cases hA with
  | cons h1 r =>
    cases r with
    | cons h2 r =>
      cases r with
      | cons h3 r =>
        cases r
        rw [h1.isInt, h2.isStr, h3.isInt] at hS
        exact hS
theorem all_get {α : Type} {f : α → PyData} {xs : List V} {ts : List α} (h : TdAll K H xs (ts.map f)) {i : Nat} {x : V} (e : xs[i]? = some x) : ∃ t, ts[i]? = some t ∧ Td K H x (f t) := by
  obtain ⟨d, hd, ht⟩ := h.get e
  rw [List.getElem?_map] at hd
  cases q : ts[i]? with
  | none =>
    rw [q] at hd
    cases hd
  | some t =>
    rw [q] at hd
    cases hd
    exact ⟨t, rfl, ht⟩
theorem mem_of_at {α : Type} {xs : List α} {i : Nat} {x : α} (e : xs[i]? = some x) : x ∈ xs := List.mem_of_getElem? e
end
section
variable {P : Program} {w : World} {K : PySem.W.Frag} {mg : Str → Option Value} {base : Heap}
theorem ok_is_number {f : Addr} {fd : FuncData} {k : Nat} (F : Fun K "is_number" "is_number" s_is_number f fd) (T : TM mg) : FnOk P w K mg base CX0 (k + 1) f fd ["thing", "low", "high"] spNumber := by
  refine F.ok sc_is_number (fun vs H Q E h => ?_) (fun cdv A outer s H vs Q E hr h => ?_)
  · obtain ⟨x, lo, hi, rfl, _⟩ := h
    rfl
  · obtain ⟨x, lo, hi, rfl, h1, h2, q⟩ := h
    refine ⟨_, (pss_one (ps_ret (pe_and (pe_callB call_isi (by rfl) T.m_isinstance (by decide +kernel) (pa_cons (pv 0) (pa_cons (pe_bltn (v := .ty "int") (by rfl) T.m_int (by decide +kernel) rfl) pa_nil))) (pe_and (pe_not (pe_callB call_isi (by rfl) T.m_isinstance (by decide +kernel) (pa_cons (pv 0) (pa_cons (pe_bltn (v := .ty "bool") (by rfl) T.m_bool (by decide +kernel) rfl) pa_nil)))) (pe_one (pe_chain op_le op_le (pv 1) (pv 0) (pv 2))))))), ?_⟩
    refine ⟨_, rfl, .int x, .ty "int", _, _, true, rfl, .ty _, .base (.int x), kit_ty (by decide +kernel), true, rfl, ?_⟩
    refine ⟨_, rfl, .int x, .ty "bool", _, _, false, rfl, .ty _, .base (.int x), kit_ty (by decide +kernel), false, rfl, true, rfl, ?_⟩
    refine ⟨_, rfl, _, rfl, lo, x, rfl, rfl, _, rfl, ?_⟩
    rw [decide_eq_true h1]
    refine ⟨_, rfl, x, hi, rfl, rfl, ?_⟩
    show Q (.bl (decide (x ≤ hi))) _
    rw [decide_eq_true h2]
    exact q
theorem ok_is_tuple {f : Addr} {fd : FuncData} {k : Nat} (F : Fun K "is_tuple" "is_tuple" s_is_tuple f fd) (T : TM mg) : FnOk P w K mg base CX0 (k + 1) f fd ["thing", "low", "high"] (spTuple K) := by
  refine F.ok sc_is_tuple (fun vs H Q E h => ?_) (fun cdv A outer s H vs Q E hr h => ?_)
  · obtain ⟨a, xs, lo, hi, rfl, _⟩ := h
    rfl
  · obtain ⟨a, xs, lo, hi, rfl, hS, hl, h1, h2, q⟩ := h
    refine ⟨_, (pss_one (ps_ret (pe_and (pe_callB call_isi (by rfl) T.m_isinstance (by decide +kernel) (pa_cons (pv 0) (pa_cons (pe_bltn (v := .ty "tuple") (by rfl) T.m_tuple (by decide +kernel) rfl) pa_nil))) (pe_one (pe_chain op_le op_le (pv 1) (pe_callB call_len (by rfl) T.m_len (by decide +kernel) (pa_cons (pv 0) pa_nil)) (pv 2)))))), ?_⟩
    refine ⟨_, rfl, .ref a, .ty "tuple", _, _, true, rfl, .ty _, ty_tup hS, kit_ty (by decide +kernel), true, rfl, ?_⟩
    refine ⟨_, rfl, _, rfl, .ref a, xs.length, rfl, .inr ⟨xs, hS, rfl⟩, lo, _, rfl, rfl, _, rfl, ?_⟩
    rw [decide_eq_true h1]
    refine ⟨_, rfl, _, hi, rfl, rfl, ?_⟩
    show Q (.bl (decide ((xs.length : Int) ≤ hi))) _
    rw [decide_eq_true h2]
    exact q
theorem ok_is_list {f : Addr} {fd : FuncData} {k : Nat} (F : Fun K "is_list" "is_list" s_is_list f fd) (T : TM mg) : FnOk P w K mg base CX0 (k + 1) f fd ["thing", "low", "high"] (spList K) := by
  refine F.ok sc_is_list (fun vs H Q E h => ?_) (fun cdv A outer s H vs Q E hr h => ?_)
  · obtain ⟨a, xs, lo, hi, rfl, _⟩ := h
    rfl
  · obtain ⟨a, xs, lo, hi, rfl, hS, hl, h1, h2, q⟩ := h
    refine ⟨_, (pss_one (ps_ret (pe_and (pe_callB call_isiT (by rfl) T.m_isinstance (by decide +kernel) (pa_cons (pv 0) (pa_cons (pe_tup (pa_cons (pe_bltn (v := .ty "list") (by rfl) T.m_list (by decide +kernel) rfl) (pa_cons (pe_bltn (v := .ty "tuple") (by rfl) T.m_tuple (by decide +kernel) rfl) pa_nil))) pa_nil))) (pe_one (pe_chain op_le op_le (pv 1) (pe_callB call_len (by rfl) T.m_len (by decide +kernel) (pa_cons (pv 0) pa_nil)) (pv 2)))))), ?_⟩
    refine ⟨_, rfl, Nat.le_of_lt (small1000 (show 2 ≤ 1000 by decide)), fun p np => ?_⟩
    have sm := new_same (o := .tup [.ty "list", .ty "tuple"]) np
    have q' := q _ sm
    rcases hS with hS | hS
    · refine ⟨.ref a, p, _, .type "list", _, true, rfl, upd_same, .cons (.ty _) (.cons (.ty _) .nil), ty_lst (sm.seq hS), rfl, true, rfl, ?_⟩
      refine ⟨_, rfl, _, rfl, .ref a, xs.length, rfl, .inl ⟨xs, sm.seq hS, rfl⟩, lo, _, rfl, rfl, _, rfl, ?_⟩
      rw [decide_eq_true h1]
      refine ⟨_, rfl, _, hi, rfl, rfl, ?_⟩
      show Q (.bl (decide ((xs.length : Int) ≤ hi))) _
      rw [decide_eq_true h2]
      exact q'
    · have hS' := (TK.of_same sm).sqt hS
      refine ⟨.ref a, p, _, .type "tuple", _, true, rfl, upd_same, .cons (.ty _) (.cons (.ty _) .nil), ty_tup hS', rfl, true, rfl, ?_⟩
      refine ⟨_, rfl, _, rfl, .ref a, xs.length, rfl, .inr ⟨xs, hS', rfl⟩, lo, _, rfl, rfl, _, rfl, ?_⟩
      rw [decide_eq_true h1]
      refine ⟨_, rfl, _, hi, rfl, rfl, ?_⟩
      show Q (.bl (decide ((xs.length : Int) ≤ hi))) _
      rw [decide_eq_true h2]
      exact q'
end
end PL
namespace PL
open PySem PySem.Spec PyProof.Rows L2 D0
section
variable {P : Program} {w : World} {K : PySem.W.Frag} {mg : Str → Option Value} {base : Heap}
theorem word_in {z : Str} (a b c : Str) (h : z = a ∨ z = b ∨ z = c) : inV (.str z) [.str a, .str b, .str c] = true := by
  have := inV_strs z [a, b, c]
  show inV (.str z) ([a, b, c].map V.str) = true
  rw [this, decide_eq_true_eq]
  simp only [List.mem_cons, List.not_mem_nil, or_false]
  exact h
theorem ok_is_test {f : Addr} {fd : FuncData} (F : Fun K "_is_test" "_is_test" s_is_test f fd) (T : TM mg)
    (C_is_tuple : Cal P w K mg base "is_tuple" 1 ["thing", "low", "high"] (spTuple K)) (C_is_number : Cal P w K mg base "is_number" 1 ["thing", "low", "high"] spNumber) : FnOk P w K mg base CX0 2 f fd ["thing", "cells"] (spTest K) := by
  refine F.ok sc_is_test (fun vs H Q E h => ?_) (fun cdv A outer s H vs Q E hr h => ?_)
  · obtain ⟨v, n, t, rfl, _⟩ := h
    rfl
  · obtain ⟨v, n, t, rfl, hT, ⟨⟨h1, h2⟩, h3, h4, h5⟩, q⟩ := h
    obtain ⟨a, rfl, hS⟩ := trip_at hT
    refine ⟨_, (pss_one (ps_ret (pe_and (D0.pe_cal C_is_tuple (hr.mono (by decide)) (by rfl) (pa_cons (pv 0) (pa_cons pe_int (pa_cons pe_int pa_nil)))) (pe_and (D0.pe_cal C_is_number (hr.mono (by decide)) (by rfl) (pa_cons (pe_ix ix_tup (pv 0) pe_int (fun _ _ => rfl)) (pa_cons pe_int (pa_cons (pe_op op_sub (pv 1) pe_int) pa_nil)))) (pe_and (pe_cmpR op_in_seq (pe_ix ix_tup (pv 0) pe_int (fun _ _ => rfl)) (pe_tup (pa_cons pe_str (pa_cons pe_str (pa_cons pe_str pa_nil)))) rfl) (pe_one (D0.pe_cal C_is_number (hr.mono (by decide)) (by rfl) (pa_cons (pe_ix ix_tup (pv 0) pe_int (fun _ _ => rfl)) (pa_cons pe_int (pa_cons pe_int pa_nil)))))))))), ?_⟩
    refine ⟨_, rfl, a, _, 3, 3, rfl, hS, (show 3 ≤ 1000 by decide), (by show (3 : Int) ≤ 3; decide), (by show (3 : Int) ≤ 3; decide), true, rfl, ?_⟩
    refine ⟨_, rfl, a, _, 0, .int t.1, rfl, rfl, hS, atI_nat (j := 0) rfl, _, rfl, n, 1, rfl, rfl, t.1, 0, n - 1, rfl, h1, h2, true, rfl, ?_⟩
    refine ⟨_, rfl, a, _, 1, .str t.2.1, rfl, rfl, hS, atI_nat (j := 1) rfl, Nat.le_of_lt (small1000 (show 3 ≤ 1000 by decide)), fun p np => ?_⟩
    have sm := new_same (o := .tup [.str (Str.ofString "is"), .str (Str.ofString "least"), .str (Str.ofString "most")]) np
    refine ⟨p, _, rfl, .inr (.inl (.inl upd_same)), rfl, rfl, _, rfl, ?_⟩
    show if (inV (.str t.2.1) [.str (Str.ofString "is"), .str (Str.ofString "least"), .str (Str.ofString "most")]) = true then _ else _
    rw [word_in _ _ _ h3]
    have hS' := (TK.of_same sm).sqt hS
    exact ⟨_, rfl, a, _, 2, .int t.2.2, rfl, rfl, hS', atI_nat (j := 2) rfl, t.2.2, 0, 9, rfl, h4, h5, q _ sm⟩
theorem ok_is_change {f : Addr} {fd : FuncData} (F : Fun K "_is_change" "_is_change" s_is_change f fd) (T : TM mg)
    (C_is_tuple : Cal P w K mg base "is_tuple" 1 ["thing", "low", "high"] (spTuple K)) (C_is_number : Cal P w K mg base "is_number" 1 ["thing", "low", "high"] spNumber) : FnOk P w K mg base CX0 2 f fd ["thing", "cells"] (spChange K) := by
  refine F.ok sc_is_change (fun vs H Q E h => ?_) (fun cdv A outer s H vs Q E hr h => ?_)
  · obtain ⟨v, n, t, rfl, _⟩ := h
    rfl
  · obtain ⟨v, n, t, rfl, hT, ⟨⟨h1, h2⟩, h3⟩, q⟩ := h
    obtain ⟨a, rfl, hS⟩ := trip_at hT
    refine ⟨_, (pss_cons (ps_if (PW.pt (pw_or (pt_not (pt_val (D0.pe_cal C_is_tuple (hr.mono (by decide)) (by rfl) (pa_cons (pv 0) (pa_cons pe_int (pa_cons pe_int pa_nil)))))) (pw_or1 (pt_not (pt_val (D0.pe_cal C_is_number (hr.mono (by decide)) (by rfl) (pa_cons (pe_ix ix_tup (pv 0) pe_int (fun _ _ => rfl)) (pa_cons pe_int (pa_cons (pe_op op_sub (pv 1) pe_int) pa_nil)))))))))
        (pss_one (ps_ret pe_bl))
        pss_nil)
      (pss_cons (ps_if (pt_cmpR op_eq (pe_ix ix_tup (pv 0) pe_int (fun _ _ => rfl)) pe_str (nomark _))
        (pss_one (ps_ret (D0.pe_cal C_is_number (hr.mono (by decide)) (by rfl) (pa_cons (pe_ix ix_tup (pv 0) pe_int (fun _ _ => rfl)) (pa_cons pe_int (pa_cons pe_int pa_nil))))))
        pss_nil)
      (pss_one (ps_ret (pe_and (pe_cmpR op_eq (pe_ix ix_tup (pv 0) pe_int (fun _ _ => rfl)) pe_str (nomark _)) (pe_one (D0.pe_cal C_is_number (hr.mono (by decide)) (by rfl) (pa_cons (pe_ix ix_tup (pv 0) pe_int (fun _ _ => rfl)) (pa_cons (pe_un un_neg pe_int) (pa_cons pe_int pa_nil)))))))))), ?_⟩
    refine ⟨_, rfl, a, _, 3, 3, rfl, hS, (show 3 ≤ 1000 by decide), (by show (3 : Int) ≤ 3; decide), (by show (3 : Int) ≤ 3; decide), true, rfl, ?_⟩
    refine ⟨_, rfl, a, _, 0, .int t.1, rfl, rfl, hS, atI_nat (j := 0) rfl, _, rfl, n, 1, rfl, rfl, t.1, 0, n - 1, rfl, h1, h2, true, rfl, ?_⟩
    refine ⟨_, rfl, a, _, 1, .str t.2.1, rfl, rfl, hS, atI_nat (j := 1) rfl, rfl, _, rfl, ?_⟩
    rcases h3 with ⟨e, h4, h5⟩ | ⟨e, h4, h5⟩
    · rw [e]
      exact ⟨_, rfl, a, _, 2, .int t.2.2, rfl, rfl, hS, atI_nat (j := 2) rfl, t.2.2, 0, 9, rfl, h4, h5, q _ (Same.refl _)⟩
    · rw [e]
      have ne : decide (V.str (Str.ofString "add") = V.str (Str.ofString "put")) = false := by decide +kernel
      rw [ne]
      refine ⟨_, rfl, a, _, 1, .str t.2.1, rfl, rfl, hS, atI_nat (j := 1) rfl, rfl, ?_⟩
      rw [e]
      have eq : decide (V.str (Str.ofString "add") = V.str (Str.ofString "add")) = true := by decide +kernel
      rw [eq]
      exact ⟨true, rfl, _, rfl, a, _, 2, .int t.2.2, rfl, rfl, hS, atI_nat (j := 2) rfl, 9, rfl, t.2.2, -9, 9, rfl, h4, h5, q _ (Same.refl _)⟩
theorem ok_are_tests {f : Addr} {fd : FuncData} (F : Fun K "_are_tests" "_are_tests" s_are_tests f fd) (T : TM mg)
    (C_is_tuple : Cal P w K mg base "is_tuple" 1 ["thing", "low", "high"] (spTuple K)) (C_is_test : Cal P w K mg base "_is_test" 2 ["thing", "cells"] (spTest K)) : FnOk P w K mg base CX0 3 f fd ["thing", "cells"] (spTests K) := by
  refine F.ok sc_are_tests (fun vs H Q E h => ?_) (fun cdv A outer s H vs Q E hr h => ?_)
  · obtain ⟨v, n, ts, rfl, _⟩ := h
    rfl
  · obtain ⟨v, n, ts, rfl, hT, h4, ho, q⟩ := h
    obtain ⟨a, xs, rfl, hS, hA⟩ := hT.tuple
    have hx : xs.length = ts.length := by rw [hA.len, List.length_map]
    refine ⟨_, (pss_one (ps_ret (pe_and (D0.pe_cal C_is_tuple (hr.mono (by decide)) (by rfl) (pa_cons (pv 0) (pa_cons pe_int (pa_cons pe_int pa_nil)))) (pe_one (pe_callB (cr_all rfl) (by rfl) T.m_all (by decide +kernel) (pa_cons (pe_lc (own := [("part", 2)]) (g := gName 2) rfl sc_are_tests.nd (pi_tup (pv 0)) (blkOk_by (own := [("part", 2)]) (N := ["thing", "cells", "part"]) (sc := defScope s_are_tests) (by decide +kernel)) (fun _ _ _ _ _ => pg_name (i := 2) sc_are_tests.nd rfl (Or.inl rfl)) (fun _ _ _ _ _ => pts_nil) (fun _ _ _ _ _ => (D0.pe_cal C_is_test (hr.mono (by decide)) (by rfl) (pa_cons (pv 2) (pa_cons (pv 1) pa_nil))))) pa_nil)))))), ?_⟩
    refine ⟨_, rfl, a, xs, 0, 4, rfl, hS, by omega, by omega, by omega, true, rfl, ?_⟩
    refine all_true (goes_tup rfl hS) (by omega) (fun j x H' R hx' sm r => ?_) q
    obtain ⟨t, ht, hd⟩ := all_get hA hx'
    exact ⟨x, rfl, _, rfl, x, n, t, rfl, hd.keep (TK.of_same sm), ho t (mem_of_at ht), r⟩
end
end PL
namespace PL
open PySem PySem.Spec PyProof.Rows L2 D0
theorem kind_name {K : PySem.W.Frag} {H : Hp} {z : Str} (h : nameB z = true) : KindV K H (.str z) := by
  obtain ⟨_, h8, h3⟩ := name_iff.mp h
  refine .inl ⟨z, rfl, ?_, List.all_eq_true.mpr fun c hc => decide_eq_true (az_lt (h3 c hc))⟩
  show z.cps.toList.length ≤ 1000
  omega
section
variable {P : Program} {w : World} {K : PySem.W.Frag} {mg : Str → Option Value} {base : Heap}
theorem ok_are_changes {f : Addr} {fd : FuncData} (F : Fun K "_are_changes" "_are_changes" s_are_changes f fd) (T : TM mg)
    (C_is_tuple : Cal P w K mg base "is_tuple" 1 ["thing", "low", "high"] (spTuple K)) (C_is_change : Cal P w K mg base "_is_change" 2 ["thing", "cells"] (spChange K)) : FnOk P w K mg base CX0 3 f fd ["thing", "cells"] (spChanges K) := by
  refine F.ok sc_are_changes (fun vs H Q E h => ?_) (fun cdv A outer s H vs Q E hr h => ?_)
  · obtain ⟨v, n, ts, rfl, _⟩ := h
    rfl
  · obtain ⟨v, n, ts, rfl, hT, h1, h4, ho, hn, q⟩ := h
    obtain ⟨a, xs, rfl, hS, hA⟩ := hT.tuple
    have hx : xs.length = ts.length := by rw [hA.len, List.length_map]
    refine ⟨_, (pss_one (ps_ret (pe_and (D0.pe_cal C_is_tuple (hr.mono (by decide)) (by rfl) (pa_cons (pv 0) (pa_cons pe_int (pa_cons pe_int pa_nil)))) (pe_and (pe_callB (cr_all rfl) (by rfl) T.m_all (by decide +kernel) (pa_cons (pe_lc (own := [("part", 2)]) (g := gName 2) rfl sc_are_changes.nd (pi_tup (pv 0)) (blkOk_by (own := [("part", 2)]) (N := ["thing", "cells", "part"]) (sc := defScope s_are_changes) (by decide +kernel)) (fun _ _ _ _ _ => pg_name (i := 2) sc_are_changes.nd rfl (Or.inl rfl)) (fun _ _ _ _ _ => pts_nil) (fun _ _ _ _ _ => (D0.pe_cal C_is_change (hr.mono (by decide)) (by rfl) (pa_cons (pv 2) (pa_cons (pv 1) pa_nil))))) pa_nil)) (pe_one (pe_cmpR op_eq (pe_callB S0.call_len_keys (by rfl) T.m_len (by decide +kernel) (pa_cons (S0.pe_keys (own := [("part", 2)]) (g := gName 2) rfl sc_are_changes.nd (pi_tup (pv 0)) (blkOk_by (own := [("part", 2)]) (N := ["thing", "cells", "part"]) (sc := defScope s_are_changes) (by decide +kernel)) (fun _ _ _ _ _ => pg_name (i := 2) sc_are_changes.nd rfl (Or.inl rfl)) (fun _ _ _ _ _ => pts_nil) (fun _ _ _ _ _ => (pe_ix (r := rIxT K) ix_tup (pv 2) pe_int (fun _ _ => rfl)))) pa_nil)) (pe_callB call_len_seq (by rfl) T.m_len (by decide +kernel) (pa_cons (pv 0) pa_nil)) (nomark _))))))), ?_⟩
    refine ⟨_, rfl, a, xs, 1, 4, rfl, hS, by omega, by omega, by omega, true, rfl, ?_⟩
    refine all_true (goes_tup rfl hS) (by omega) (fun j x H' R hx' sm r => ?_) (fun H1 s1 => ⟨true, rfl, ?_⟩)
    · obtain ⟨t, ht, hd⟩ := all_get hA hx'
      exact ⟨x, rfl, _, rfl, x, n, t, rfl, hd.keep (TK.of_same sm), ho t (mem_of_at ht), r⟩
    · have hS1 := (TK.of_same s1).sqt hS
      rw [if_pos rfl]
      refine len_unlike (ks := ts.map fun t => (Sum.inl t.1 : Key)) (goes_tup rfl hS1) (by omega) (by rw [List.length_map, hx]) ?_ (fun j x k H' R hx' hk sm r => ?_) (fun D S H2 s2 hD => ⟨D, S, xs.length, rfl, hD, ?_⟩)
      · have e : (ts.map fun t => (Sum.inl t.1 : Key)) = (ts.map (·.1)).map Sum.inl := by
          rw [List.map_map]
          rfl
        rw [e]
        exact hn.map _ fun _ _ h e => h (Sum.inl.inj e)
      · obtain ⟨t, ht, hd⟩ := all_get hA hx'
        obtain ⟨b, rfl, hB⟩ := trip_at (hd.keep ((TK.of_same s1).trans (TK.of_same sm)))
        rw [List.getElem?_map, ht] at hk
        cases hk
        exact ⟨_, rfl, b, _, 0, .int t.1, rfl, rfl, hB, atI_nat (j := 0) rfl, r _ (Same.refl _)⟩
      · have hS2 := (TK.of_same s2).sqt hS1
        refine ⟨_, rfl, a, xs, rfl, .inr hS2, rfl, ?_⟩
        rw [decide_eq_true rfl]
        exact q _ (s1.trans s2)
theorem ok_are_points {f : Addr} {fd : FuncData} (F : Fun K "_are_points" "_are_points" s_are_points f fd) (T : TM mg)
    (C_is_tuple : Cal P w K mg base "is_tuple" 1 ["thing", "low", "high"] (spTuple K)) (C_is_number : Cal P w K mg base "is_number" 1 ["thing", "low", "high"] spNumber) : FnOk P w K mg base CX0 3 f fd ["thing", "players"] (spPoints K) := by
  refine F.ok sc_are_points (fun vs H Q E h => ?_) (fun cdv A outer s H vs Q E hr h => ?_)
  · obtain ⟨v, n, ts, rfl, _⟩ := h
    rfl
  · obtain ⟨v, n, ps, rfl, hT, h1, h4, ho, q⟩ := h
    obtain ⟨a, xs, rfl, hS, hA⟩ := hT.tuple
    have ex := hA.ints
    subst ex
    refine ⟨_, (pss_one (ps_ret (pe_and (D0.pe_cal C_is_tuple (hr.mono (by decide)) (by rfl) (pa_cons (pv 0) (pa_cons (pv 1) (pa_cons (pv 1) pa_nil)))) (pe_one (pe_callB (cr_all rfl) (by rfl) T.m_all (by decide +kernel) (pa_cons (pe_lc (own := [("part", 2)]) (g := gName 2) rfl sc_are_points.nd (pi_tup (pv 0)) (blkOk_by (own := [("part", 2)]) (N := ["thing", "players", "part"]) (sc := defScope s_are_points) (by decide +kernel)) (fun _ _ _ _ _ => pg_name (i := 2) sc_are_points.nd rfl (Or.inl rfl)) (fun _ _ _ _ _ => pts_nil) (fun _ _ _ _ _ => (D0.pe_cal C_is_number (hr.mono (by decide)) (by rfl) (pa_cons (pv 2) (pa_cons pe_int (pa_cons pe_int pa_nil)))))) pa_nil)))))), ?_⟩
    have hl : (ps.map V.int).length = ps.length := List.length_map ..
    refine ⟨_, rfl, _, rfl, _, rfl, a, _, n, n, rfl, hS, by omega, by omega, by omega, true, rfl, ?_⟩
    refine all_true (goes_tup rfl hS) (by omega) (fun j x H' R hx' sm r => ?_) q
    rw [List.getElem?_map] at hx'
    cases e : ps[j]? with
    | none =>
      rw [e] at hx'
      cases hx'
    | some p =>
      rw [e] at hx'
      cases hx'
      obtain ⟨p0, p4⟩ := ho p (mem_of_at e)
      exact ⟨_, rfl, p, 0, 4, rfl, p0, p4, r _ (Same.refl _)⟩
theorem move_at {H : Hp} {v : V} {m : MoveD} (h : Td K H v (moveD m)) : ∃ a b t c, v = .ref a ∧ SqT K H a [.str m.name, b, t, c] ∧ Td K H b (byD m.by_) ∧ Td K H t (.tuple (m.tests.map tripD)) ∧ Td K H c (.tuple (m.changes.map tripD)) := by
  obtain ⟨a, xs, rfl, hS, hA⟩ := h.tuple
  cases hA with
  | cons h1 r =>
    cases r with
    | cons h2 r =>
      cases r with
      | cons h3 r =>
        cases r with
        | cons h4 r =>
          cases r
          rw [h1.isStr] at hS
          exact ⟨_, _, _, _, rfl, hS, h2, h3, h4⟩
theorem ok_is_move {f : Addr} {fd : FuncData} (F : Fun K "_is_move" "_is_move" s_is_move f fd) (T : TM mg)
    (C_is_tuple : Cal P w K mg base "is_tuple" 1 ["thing", "low", "high"] (spTuple K)) (C_is_number : Cal P w K mg base "is_number" 1 ["thing", "low", "high"] spNumber)
    (C_is_name : Cal P w K mg base "is_name" 1 ["thing"] (spIsName K)) (C_are_tests : Cal P w K mg base "_are_tests" 3 ["thing", "cells"] (spTests K)) (C_are_changes : Cal P w K mg base "_are_changes" 3 ["thing", "cells"] (spChanges K)) :
    FnOk P w K mg base CX0 4 f fd ["thing", "cells", "players"] (spMove K) := by
  refine F.ok sc_is_move (fun vs H Q E h => ?_) (fun cdv A outer s H vs Q E hr h => ?_)
  · obtain ⟨v, n, p, m, rfl, _⟩ := h
    rfl
  · obtain ⟨v, n, p, m, rfl, hT, ok, q⟩ := h
    obtain ⟨a, b, t, c, rfl, hS, hB, hTs, hCs⟩ := move_at hT
    refine ⟨_, (pss_one (ps_ret (pe_and (D0.pe_cal C_is_tuple (hr.mono (by decide)) (by rfl) (pa_cons (pv 0) (pa_cons pe_int (pa_cons pe_int pa_nil)))) (pe_and (D0.pe_cal C_is_name (hr.mono (by decide)) (by rfl) (pa_cons (pe_ix ix_tup (pv 0) pe_int (fun _ _ => rfl)) pa_nil)) (pe_and (pe_or (pe_cmpR op_isN (pe_ix ix_tup (pv 0) pe_int (fun _ _ => rfl)) pe_non (nomark _)) (pe_one (D0.pe_cal C_is_number (hr.mono (by decide)) (by rfl) (pa_cons (pe_ix ix_tup (pv 0) pe_int (fun _ _ => rfl)) (pa_cons pe_int (pa_cons (pe_op op_sub (pv 2) pe_int) pa_nil)))))) (pe_and (D0.pe_cal C_are_tests (hr.mono (by decide)) (by rfl) (pa_cons (pe_ix ix_tup (pv 0) pe_int (fun _ _ => rfl)) (pa_cons (pv 1) pa_nil))) (pe_one (D0.pe_cal C_are_changes (hr.mono (by decide)) (by rfl) (pa_cons (pe_ix ix_tup (pv 0) pe_int (fun _ _ => rfl)) (pa_cons (pv 1) pa_nil)))))))))), ?_⟩
    refine ⟨_, rfl, a, _, 4, 4, rfl, hS, (show 4 ≤ 1000 by decide), (by show (4 : Int) ≤ 4; decide), (by show (4 : Int) ≤ 4; decide), true, rfl, ?_⟩
    refine ⟨_, rfl, a, _, 0, .str m.name, rfl, rfl, hS, atI_nat (j := 0) rfl, .str m.name, rfl, kind_name ok.name, nameB m.name, rfl, ?_⟩
    rw [ok.name]
    refine ⟨_, rfl, a, _, 1, b, rfl, rfl, hS, atI_nat (j := 1) rfl, rfl, ?_⟩
    have rest : (∃ v, [some (.ref a), some (.int n), some (.int p)][0]? = some (some v) ∧ ∃ pp xs i v_1, v = V.ref pp ∧ V.int 2 = V.int i ∧ SqT K H pp xs ∧ atI xs i = some v_1 ∧ v_1 = t) :=
      ⟨_, rfl, a, _, 2, t, rfl, rfl, hS, atI_nat (j := 2) rfl, rfl⟩
    have fin : ∀ Q' : VK, (∀ H', Same H H' → Q' (.bl true) H') → True := fun _ _ => trivial
    have go : ∀ {G : Prop}, (G → G) → True := fun _ => trivial
    cases hb : m.by_ with
    | none =>
      rw [hb] at hB
      rw [hB.isNon]
      refine ⟨true, rfl, true, rfl, ?_⟩
      refine ⟨_, rfl, a, _, 2, t, rfl, rfl, hS, atI_nat (j := 2) rfl, _, rfl, t, n, m.tests, rfl, hTs, ok.tl, ok.ts, fun H1 s1 => ⟨true, rfl, ?_⟩⟩
      have k1 := TK.of_same s1
      exact ⟨_, rfl, a, _, 3, c, rfl, rfl, k1.sqt hS, atI_nat (j := 3) rfl, _, rfl, c, n, m.changes, rfl, hCs.keep k1, ok.cl0, ok.cl, ok.cs, ok.nd, fun H2 s2 => q _ (s1.trans s2)⟩
    | some i =>
      rw [hb] at hB
      obtain ⟨i0, i1⟩ := ok.by_ i hb
      have ei := hB.isInt
      subst ei
      refine ⟨false, rfl, ?_⟩
      refine ⟨_, rfl, a, _, 1, .int i, rfl, rfl, hS, atI_nat (j := 1) rfl, _, rfl, p, 1, rfl, rfl, i, 0, p - 1, rfl, i0, i1, true, rfl, ?_⟩
      refine ⟨_, rfl, a, _, 2, t, rfl, rfl, hS, atI_nat (j := 2) rfl, _, rfl, t, n, m.tests, rfl, hTs, ok.tl, ok.ts, fun H1 s1 => ⟨true, rfl, ?_⟩⟩
      have k1 := TK.of_same s1
      exact ⟨_, rfl, a, _, 3, c, rfl, rfl, k1.sqt hS, atI_nat (j := 3) rfl, _, rfl, c, n, m.changes, rfl, hCs.keep k1, ok.cl0, ok.cl, ok.cs, ok.nd, fun H2 s2 => q _ (s1.trans s2)⟩
end
end PL
namespace PL
open PySem PySem.Spec PyProof.Rows L2 D0
section
variable {P : Program} {w : World} {K : PySem.W.Frag} {mg : Str → Option Value} {base : Heap}
theorem ok_are_moves {f : Addr} {fd : FuncData} (F : Fun K "_are_moves" "_are_moves" s_are_moves f fd) (T : TM mg)
    (C_is_list : Cal P w K mg base "is_list" 1 ["thing", "low", "high"] (spList K)) (C_is_move : Cal P w K mg base "_is_move" 4 ["thing", "cells", "players"] (spMove K)) : FnOk P w K mg base CX0 5 f fd ["thing", "cells", "players"] (spMoves K) := by
  refine F.ok sc_are_moves (fun vs H Q E h => ?_) (fun cdv A outer s H vs Q E hr h => ?_)
  · obtain ⟨a, n, p, xs, ms, rfl, _⟩ := h
    rfl
  · obtain ⟨a, n, p, xs, ms, rfl, hS, hA, h1, h16, ho, hn, q⟩ := h
    have hx : xs.length = ms.length := by rw [hA.len, List.length_map]
    have keep : ∀ {H' : Hp}, Same H H' → (SqL K H' a xs ∨ SqT K H' a xs) := fun s => hS.elim (fun h => .inl (s.seq h)) fun h => .inr ((TK.of_same s).sqt h)
    refine ⟨_, (pss_one (ps_ret (pe_and (D0.pe_cal C_is_list (hr.mono (by decide)) (by rfl) (pa_cons (pv 0) (pa_cons pe_int (pa_cons pe_int pa_nil)))) (pe_and (pe_callB (cr_all rfl) (by rfl) T.m_all (by decide +kernel) (pa_cons (pe_lc (own := [("part", 3)]) (g := gName 3) rfl sc_are_moves.nd (D0.pi_or (pi_list (pv 0)) (pi_tup (pv 0))) (blkOk_by (own := [("part", 3)]) (N := ["thing", "cells", "players", "part"]) (sc := defScope s_are_moves) (by decide +kernel)) (fun _ _ _ _ _ => pg_name (i := 3) sc_are_moves.nd rfl (Or.inl rfl)) (fun _ _ _ _ _ => pts_nil) (fun _ _ _ _ _ => (D0.pe_cal C_is_move (hr.mono (by decide)) (by rfl) (pa_cons (pv 3) (pa_cons (pv 1) (pa_cons (pv 2) pa_nil)))))) pa_nil)) (pe_one (pe_cmpR op_eq (pe_callB S0.call_len_keys (by rfl) T.m_len (by decide +kernel) (pa_cons (S0.pe_keys (own := [("part", 3)]) (g := gName 3) rfl sc_are_moves.nd (D0.pi_or (pi_list (pv 0)) (pi_tup (pv 0))) (blkOk_by (own := [("part", 3)]) (N := ["thing", "cells", "players", "part"]) (sc := defScope s_are_moves) (by decide +kernel)) (fun _ _ _ _ _ => pg_name (i := 3) sc_are_moves.nd rfl (Or.inl rfl)) (fun _ _ _ _ _ => pts_nil) (fun _ _ _ _ _ => (pe_ix (r := rIxT K) ix_tup (pv 3) pe_int (fun _ _ => rfl)))) pa_nil)) (pe_callB call_len (by rfl) T.m_len (by decide +kernel) (pa_cons (pv 0) pa_nil)) (nomark _))))))), ?_⟩
    refine ⟨_, rfl, a, xs, 1, 16, rfl, hS, by omega, by omega, by omega, fun H0 s0 => ⟨true, rfl, ?_⟩⟩
    refine all_true (goes_seq rfl (keep s0)) (by omega) (fun j x H' R hx' sm r => ?_) (fun H1 s1 => ⟨true, rfl, ?_⟩)
    · obtain ⟨t, ht, hd⟩ := all_get hA hx'
      exact ⟨x, rfl, _, rfl, _, rfl, x, n, p, t, rfl, hd.keep (TK.of_same (s0.trans sm)), ho t (mem_of_at ht), r⟩
    · have hS1 := keep (s0.trans s1)
      rw [if_pos rfl]
      refine len_unlike (ks := ms.map fun m => (Sum.inr m.name : Key)) (goes_seq rfl hS1) (by omega) (by rw [List.length_map, hx]) ?_ (fun j x k H' R hx' hk sm r => ?_) (fun D S H2 s2 hD => ⟨D, S, xs.length, rfl, hD, ?_⟩)
      · have e : (ms.map fun m => (Sum.inr m.name : Key)) = (ms.map (·.name)).map Sum.inr := by
          rw [List.map_map]
          rfl
        rw [e]
        exact hn.map _ fun _ _ h e => h (Sum.inr.inj e)
      · obtain ⟨t, ht, hd⟩ := all_get hA hx'
        obtain ⟨b, _, _, _, rfl, hB, _⟩ := move_at (hd.keep (TK.of_same ((s0.trans s1).trans sm)))
        rw [List.getElem?_map, ht] at hk
        cases hk
        exact ⟨_, rfl, b, _, 0, .str t.name, rfl, rfl, hB, atI_nat (j := 0) rfl, r _ (Same.refl _)⟩
      · have hS2 := keep ((s0.trans s1).trans s2)
        refine ⟨_, rfl, .ref a, xs.length, rfl, hS2.elim (fun h => .inl ⟨xs, h, rfl⟩) (fun h => .inr ⟨xs, h, rfl⟩), rfl, ?_⟩
        rw [decide_eq_true rfl]
        exact q _ ((s0.trans s1).trans s2)
theorem end_at {H : Hp} {v : V} {e : EndD} (h : Td K H v (endD e)) : ∃ a t p, v = .ref a ∧ SqT K H a [t, p] ∧ Td K H t (.tuple (e.tests.map tripD)) ∧ Td K H p (.tuple (e.points.map PyData.int)) := by
  obtain ⟨a, xs, rfl, hS, hA⟩ := h.tuple
  cases hA with
  | cons h1 r =>
    cases r with
    | cons h2 r =>
      cases r
      exact ⟨_, _, _, rfl, hS, h1, h2⟩
theorem ok_is_end {f : Addr} {fd : FuncData} (F : Fun K "_is_end" "_is_end" s_is_end f fd) (T : TM mg)
    (C_is_tuple : Cal P w K mg base "is_tuple" 1 ["thing", "low", "high"] (spTuple K))
    (C_are_tests : Cal P w K mg base "_are_tests" 3 ["thing", "cells"] (spTests K)) (C_are_points : Cal P w K mg base "_are_points" 3 ["thing", "players"] (spPoints K)) :
    FnOk P w K mg base CX0 4 f fd ["thing", "cells", "players"] (spEnd K) := by
  refine F.ok sc_is_end (fun vs H Q E h => ?_) (fun cdv A outer s H vs Q E hr h => ?_)
  · obtain ⟨v, n, p, m, rfl, _⟩ := h
    rfl
  · obtain ⟨v, n, p, m, rfl, hT, ok, h4, q⟩ := h
    obtain ⟨a, t, c, rfl, hS, hTs, hCs⟩ := end_at hT
    refine ⟨_, (pss_one (ps_ret (pe_and (D0.pe_cal C_is_tuple (hr.mono (by decide)) (by rfl) (pa_cons (pv 0) (pa_cons pe_int (pa_cons pe_int pa_nil)))) (pe_and (D0.pe_cal C_are_tests (hr.mono (by decide)) (by rfl) (pa_cons (pe_ix ix_tup (pv 0) pe_int (fun _ _ => rfl)) (pa_cons (pv 1) pa_nil))) (pe_one (D0.pe_cal C_are_points (hr.mono (by decide)) (by rfl) (pa_cons (pe_ix ix_tup (pv 0) pe_int (fun _ _ => rfl)) (pa_cons (pv 2) pa_nil)))))))), ?_⟩
    refine ⟨_, rfl, a, _, 2, 2, rfl, hS, (show 2 ≤ 1000 by decide), (by show (2 : Int) ≤ 2; decide), (by show (2 : Int) ≤ 2; decide), true, rfl, ?_⟩
    refine ⟨_, rfl, a, _, 0, t, rfl, rfl, hS, atI_nat (j := 0) rfl, _, rfl, t, n, m.tests, rfl, hTs, ok.tl, ok.ts, fun H1 s1 => ⟨true, rfl, ?_⟩⟩
    have k1 := TK.of_same s1
    exact ⟨_, rfl, a, _, 1, c, rfl, rfl, k1.sqt hS, atI_nat (j := 1) rfl, _, rfl, c, p, m.points, rfl, hCs.keep k1, ok.pl, h4, ok.ps, fun H2 s2 => q _ (s1.trans s2)⟩
/-! ### the class -/
structure TR (K : PySem.W.Frag) (mg : Str → Option Value) (C : Addr) : Prop where
  g_LOSE : ∃ t, mg "LOSE" = some (.str (Str.ofString "lose") t)
  g_EVEN : ∃ t, mg "EVEN" = some (.str (Str.ofString "even") t)
  g_MOST : ∃ t, mg "MOST" = some (.int 40 t)
  g_Rule : mg "Rule" = some (.ref C)
  cl : Cls K C
  nT : NoAttr K C "_told"
/-- the instance's parts: its told -/
def partsOf (tv : V) : List (Str × V) := putF "_told" tv []
/-- a rule stands at p that tells d -/
def RuleAt (K : PySem.W.Frag) (C : Addr) (H : Hp) (p : Addr) (d : PyData) : Prop := ∃ dx tv, H p = some (.ins C dx (partsOf tv)) ∧ Td K H tv d
def spInit (K : PySem.W.Frag) (C : Addr) : Sp := fun vs H Q _ => ∃ (p dx s m e : Addr) (xs ys zs : List V) (r : RuleD), vs = [.ref p, .ref s, .ref m, .int r.seats, .ref e, .int r.longest, .str r.halted] ∧ RuleOk r ∧
  H p = some (.ins C dx []) ∧ (SqL K H s xs ∨ SqT K H s xs) ∧ TdAll K H xs (r.begun.map PyData.int) ∧ (SqL K H m ys ∨ SqT K H m ys) ∧ TdAll K H ys (r.plays.map moveD) ∧ (SqL K H e zs ∨ SqT K H e zs) ∧ TdAll K H zs (r.closes.map endD) ∧
  ∀ H', (∀ b o, b ≠ p → H b = some o → H' b = some o) → RuleAt K C H' p (ruleD r) → Q .non H'
end
end PL
namespace PL
open PySem PySem.Spec PyProof.Rows L2 D0
theorem tuple_of {K : PySem.W.Frag} {H : Hp} {s : Addr} {xs : List V} {ds : List PyData} {Q : VK} (h : SqL K H s xs ∨ SqT K H s xs) (hA : TdAll K H xs ds) (q : ∀ v H', Same H H' → Td K H' v (.tuple ds) → Q v H') :
    ∃ p ys, [V.ref s] = [V.ref p] ∧ ((SqL K H p ys ∧ ∀ l, H l = none → Q (.ref l) (upd H l (.tup ys))) ∨ (SqT K H p ys ∧ Q (.ref p) H)) := by
  rcases h with h | h
  · refine ⟨s, xs, rfl, .inl ⟨h, fun l hl => q _ _ (new_same hl) (.tup (.inl (.inl upd_same)) (hA.keep (TK.of_same (new_same hl))))⟩⟩
  · exact ⟨s, xs, rfl, .inr ⟨h, q _ _ (Same.refl _) (.tup h hA)⟩⟩
theorem tuple_arg {K : PySem.W.Frag} {H : Hp} {σ : L2.St} {i : Nat} {s : Addr} {xs : List V} {ds : List PyData} {t2 : TA} {Q : List V → Hp → Prop} (hs : σ[i]? = some (some (.ref s))) (h : SqL K H s xs ∨ SqT K H s xs) (hA : TdAll K H xs ds)
    (q : ∀ v H', Same H H' → Td K H' v (.tuple ds) → t2 σ H' fun vs H2 => Q (v :: vs) H2) :
    tCons (tCB (fun xs H Q => ∃ p ys, xs = [.ref p] ∧ ((SqL K H p ys ∧ ∀ l, H l = none → Q (.ref l) (upd H l (.tup ys))) ∨ (SqT K H p ys ∧ Q (.ref p) H))) (tCons (tVar i) tNil)) t2 σ H Q :=
  ⟨_, hs, tuple_of (Q := fun x H1 => t2 σ H1 fun vs H2 => Q (x :: vs) H2) h hA q⟩
theorem word_in2 {z : Str} (a b : Str) (h : z = a ∨ z = b) : inV (.str z) [.str a, .str b] = true := by
  have := inV_strs z [a, b]
  show inV (.str z) ([a, b].map V.str) = true
  rw [this, decide_eq_true_eq]
  simp only [List.mem_cons, List.not_mem_nil, or_false]
  exact h
section
variable {P : Program} {w : World} {K : PySem.W.Frag} {mg : Str → Option Value} {base : Heap}
theorem ok_init {f C : Addr} {fd : FuncData} (hF : ∀ {sp : Sp}, (∀ vs H Q E, sp vs H Q E → vs.length = 7) →
      (∀ (cdv : Value) (A : Around) (outer : List Env) (s : Shared) (H : Hp) (vs : List V) (Q : VK) (E : XK), Room 5 (A.deeper (envOfC "Rule.__init__" (defScope s_Rule_init) s.heap.objs.size f cdv)) → sp vs H Q E →
        ∃ t, PSs (cxOf CX0 P w K mg base ["self", "start", "moves", "players", "ends", "most", "stuck", "part"] "Rule.__init__" (defScope s_Rule_init) f cdv A outer s H E) (defBody s_Rule_init) t ∧
          t { nx := fun _ H' => Q .non H', rt := Q } (start ["self", "start", "moves", "players", "ends", "most", "stuck", "part"] vs) H) →
      FnOk P w K mg base CX0 6 f fd ["self", "start", "moves", "players", "ends", "most", "stuck"] sp) (T : TM mg) (R : TR K mg C)
    (C_is_list : Cal P w K mg base "is_list" 1 ["thing", "low", "high"] (spList K)) (C_is_number : Cal P w K mg base "is_number" 1 ["thing", "low", "high"] spNumber)
    (C_are_moves : Cal P w K mg base "_are_moves" 5 ["thing", "cells", "players"] (spMoves K)) (C_is_end : Cal P w K mg base "_is_end" 4 ["thing", "cells", "players"] (spEnd K)) :
    FnOk P w K mg base CX0 6 f fd ["self", "start", "moves", "players", "ends", "most", "stuck"] (spInit K C) := by
  refine hF (fun vs H Q E h => ?_) (fun cdv A outer sh H vs Q E hr h => ?_)
  · obtain ⟨p, dx, s, m, e, xs, ys, zs, r, rfl, _⟩ := h
    rfl
  · obtain ⟨p, dx, s, m, e, xs, ys, zs, r, rfl, ok, hp, hs, hxs, hm, hys, he, hzs, q⟩ := h
    have ex : xs = r.begun.map V.int := hxs.ints
    have lx : xs.length = r.begun.length := by rw [ex, List.length_map]
    have lz : zs.length = r.closes.length := by rw [hzs.len, List.length_map]
    have ks : ∀ {H' : Hp}, Same H H' → (SqL K H' s xs ∨ SqT K H' s xs) := fun x => hs.elim (fun h => .inl (x.seq h)) fun h => .inr ((TK.of_same x).sqt h)
    have km : ∀ {H' : Hp}, Same H H' → (SqL K H' m ys ∨ SqT K H' m ys) := fun x => hm.elim (fun h => .inl (x.seq h)) fun h => .inr ((TK.of_same x).sqt h)
    have ke : ∀ {H' : Hp}, Same H H' → (SqL K H' e zs ∨ SqT K H' e zs) := fun x => he.elim (fun h => .inl (x.seq h)) fun h => .inr ((TK.of_same x).sqt h)
    have len_s : ∀ {H' : Hp}, Same H H' → LenV K (.ref s) H' xs.length := fun x => (ks x).elim (fun h => .inl ⟨xs, h, rfl⟩) fun h => .inr ⟨xs, h, rfl⟩
    obtain ⟨b0, b1, bs, s0, s1, m0, m1, ms, mn, e1, es, l0, l1, hh⟩ := ok
    refine ⟨_, (pss_cons (ps_if (PW.pt (pw_or (pt_not (pt_val (D0.pe_cal C_is_list (hr.mono (by decide)) (by rfl) (pa_cons (pv 1) (pa_cons pe_int (pa_cons pe_int pa_nil)))))) (pw_or1 (pt_not (pt_val (pe_callB (cr_all rfl) (by rfl) T.m_all (by decide +kernel) (pa_cons (pe_lc (own := [("part", 7)]) (g := gName 7) rfl sc_Rule_init.nd (D0.pi_or (pi_list (pv 1)) (pi_tup (pv 1))) (blkOk_by (own := [("part", 7)]) (N := ["self", "start", "moves", "players", "ends", "most", "stuck", "part"]) (sc := defScope s_Rule_init) (by decide +kernel)) (fun _ _ _ _ _ => pg_name (i := 7) sc_Rule_init.nd rfl (Or.inl rfl)) (fun _ _ _ _ _ => pts_nil) (fun _ _ _ _ _ => (D0.pe_cal C_is_number (hr.mono (by decide)) (by rfl) (pa_cons (pv 7) (pa_cons pe_int (pa_cons pe_int pa_nil)))))) pa_nil)))))))
        (pss_one ps_never)
        pss_nil)
      (pss_cons (ps_if (pt_not (pt_val (D0.pe_cal C_is_number (hr.mono (by decide)) (by rfl) (pa_cons (pv 3) (pa_cons pe_int (pa_cons pe_int pa_nil))))))
        (pss_one ps_never)
        pss_nil)
      (pss_cons (ps_if (pt_not (pt_val (D0.pe_cal C_are_moves (hr.mono (by decide)) (by rfl) (pa_cons (pv 2) (pa_cons (pe_callB call_len (by rfl) T.m_len (by decide +kernel) (pa_cons (pv 1) pa_nil)) (pa_cons (pv 3) pa_nil))))))
        (pss_one ps_never)
        pss_nil)
      (pss_cons (ps_if (PW.pt (pw_or (pt_not (pt_val (D0.pe_cal C_is_list (hr.mono (by decide)) (by rfl) (pa_cons (pv 4) (pa_cons pe_int (pa_cons pe_int pa_nil)))))) (pw_or1 (pt_not (pt_val (pe_callB (cr_all rfl) (by rfl) T.m_all (by decide +kernel) (pa_cons (pe_lc (own := [("part", 7)]) (g := gName 7) rfl sc_Rule_init.nd (D0.pi_or (pi_list (pv 4)) (pi_tup (pv 4))) (blkOk_by (own := [("part", 7)]) (N := ["self", "start", "moves", "players", "ends", "most", "stuck", "part"]) (sc := defScope s_Rule_init) (by decide +kernel)) (fun _ _ _ _ _ => pg_name (i := 7) sc_Rule_init.nd rfl (Or.inl rfl)) (fun _ _ _ _ _ => pts_nil) (fun _ _ _ _ _ => (D0.pe_cal C_is_end (hr.mono (by decide)) (by rfl) (pa_cons (pv 7) (pa_cons (pe_callB (r := fun xs H Q => ∃ x n, xs = [x] ∧ LenV K x H n ∧ Q (.int n) H) call_len (by rfl) T.m_len (by decide +kernel) (pa_cons (pv 1) pa_nil)) (pa_cons (pv 3) pa_nil)))))) pa_nil)))))))
        (pss_one ps_never)
        pss_nil)
      (pss_cons (ps_if (pt_not (pt_val (D0.pe_cal C_is_number (hr.mono (by decide)) (by rfl) (pa_cons (pv 5) (pa_cons pe_int (pa_cons pe_int pa_nil))))))
        (pss_one ps_never)
        pss_nil)
      (pss_cons (ps_if (pt_cmpR op_notIn_seq (pv 6) (pe_tup (pa_cons (pe_glob (v := .str (Str.ofString "lose")) (by rfl) R.g_LOSE.choose_spec ⟨_, rfl⟩) (pa_cons (pe_glob (v := .str (Str.ofString "even")) (by rfl) R.g_EVEN.choose_spec ⟨_, rfl⟩) pa_nil))) rfl)
        (pss_one ps_never)
        pss_nil)
      (pss_one (ps_fld (pv 0) (pe_tup (pa_cons (pe_callTy call_tuple_of (by rfl) T.m_tuple (by decide +kernel) (pa_cons (pv 1) pa_nil)) (pa_cons (pe_callTy call_tuple_of (by rfl) T.m_tuple (by decide +kernel) (pa_cons (pv 2) pa_nil)) (pa_cons (pv 3) (pa_cons (pe_callTy call_tuple_of (by rfl) T.m_tuple (by decide +kernel) (pa_cons (pv 4) pa_nil)) (pa_cons (pv 5) (pa_cons (pv 6) pa_nil))))))) rfl)))))))), ?_⟩
    refine ⟨_, rfl, s, xs, 1, 12, rfl, hs, by omega, by omega, by omega, fun H1 x1 => ⟨true, rfl, ?_⟩⟩
    refine all_true (goes_seq rfl (ks x1)) (by omega) (fun j x H' R hx' sm rr => ?_) (fun H2 x2' => ⟨true, rfl, ?_⟩)
    · rw [ex, List.getElem?_map] at hx'
      cases q0 : r.begun[j]? with
      | none =>
        rw [q0] at hx'
        cases hx'
      | some n =>
        rw [q0] at hx'
        cases hx'
        obtain ⟨n0, n9⟩ := bs n (mem_of_at q0)
        exact ⟨_, rfl, n, 0, 9, rfl, n0, n9, rr _ (Same.refl _)⟩
    have x2 := x1.trans x2'
    refine ⟨_, rfl, r.seats, 2, 4, rfl, s0, s1, true, rfl, ?_⟩
    refine ⟨_, rfl, _, rfl, .ref s, xs.length, rfl, len_s x2, _, rfl, m, xs.length, r.seats, ys, r.plays, rfl, km x2, hys.keep (TK.of_same x2), m0, m1, (by rw [lx]; exact ms), mn, fun H3 x3' => ⟨true, rfl, ?_⟩⟩
    have x3 := x2.trans x3'
    refine ⟨_, rfl, e, zs, 0, 6, rfl, ke x3, by omega, by omega, by omega, fun H4 x4' => ⟨true, rfl, ?_⟩⟩
    have x4 := x3.trans x4'
    refine all_true (goes_seq rfl (ke x4)) (by omega) (fun j x H' R hx' sm rr => ?_) (fun H5 x5' => ⟨true, rfl, ?_⟩)
    · obtain ⟨t, ht, hd⟩ := all_get hzs hx'
      exact ⟨x, rfl, _, rfl, .ref s, xs.length, rfl, len_s (x4.trans sm), _, rfl, x, xs.length, r.seats, t, rfl, hd.keep (TK.of_same (x4.trans sm)), (by rw [lx]; exact es t (mem_of_at ht)), s1, rr⟩
    have x5 := x4.trans x5'
    refine ⟨_, rfl, r.longest, 1, 60, rfl, l0, l1, true, rfl, ?_⟩
    refine ⟨_, rfl, Nat.le_of_lt (small1000 (show 2 ≤ 1000 by decide)), fun b nb => ⟨b, _, rfl, .inr (.inl (.inl upd_same)), rfl, rfl, _, rfl, ?_⟩⟩
    have x6 := x5.trans (new_same (o := .tup [.str (Str.ofString "lose"), .str (Str.ofString "even")]) nb)
    show if (!inV (.str r.halted) [.str (Str.ofString "lose"), .str (Str.ofString "even")]) = true then _ else _
    rw [word_in2 _ _ hh, if_neg (by decide)]
    dsimp only [tNext, sFld, tTup]
    refine tuple_arg rfl (ks x6) (hxs.keep (TK.of_same x6)) fun v1 H7 x7' t1 => ?_
    have x7 := x6.trans x7'
    refine tuple_arg rfl (km x7) (hys.keep (TK.of_same x7)) fun v2 H8 x8' t2 => ?_
    have x8 := x7.trans x8'
    refine ⟨_, rfl, ?_⟩
    refine tuple_arg rfl (ke x8) (hzs.keep (TK.of_same x8)) fun v3 H9 x9' t3 => ?_
    have x9 := x8.trans x9'
    refine ⟨_, rfl, _, rfl, Nat.le_of_lt (small1000 (show 6 ≤ 1000 by decide)), fun t nt => ?_⟩
    have hp9 := x9 _ _ hp
    have ntp : p ≠ t := ne_of_none hp9 nt
    have x10 := x9.trans (new_same (o := .tup [v1, v2, .int r.seats, v3, .int r.longest, .str r.halted]) nt)
    refine ⟨_, rfl, p, C, dx, [], rfl, x10 _ _ hp, R.cl, R.nT, (by show 0 < 1000; decide), ?_⟩
    refine q _ (fun b o nb hb => ?_) ⟨dx, .ref t, upd_same, ?_⟩
    · rw [upd_ne nb]
      exact x10 _ _ hb
    · have k7 : TK H7 (upd (upd H9 t (.tup [v1, v2, .int r.seats, v3, .int r.longest, .str r.halted])) p (.ins C dx (putF "_told" (.ref t) []))) :=
        ((TK.of_same (x8'.trans x9')).trans (TK.of_same (new_same nt))).trans (TK.upd (x10 _ _ hp) (fun z => z))
      have k8 : TK H8 (upd (upd H9 t (.tup [v1, v2, .int r.seats, v3, .int r.longest, .str r.halted])) p (.ins C dx (putF "_told" (.ref t) []))) :=
        ((TK.of_same x9').trans (TK.of_same (new_same nt))).trans (TK.upd (x10 _ _ hp) (fun z => z))
      have k9 : TK H9 (upd (upd H9 t (.tup [v1, v2, .int r.seats, v3, .int r.longest, .str r.halted])) p (.ins C dx (putF "_told" (.ref t) []))) :=
        (TK.of_same (new_same nt)).trans (TK.upd (x10 _ _ hp) (fun z => z))
      refine .tup (.inl (.inl ?_)) (.cons (t1.keep k7) (.cons (t2.keep k8) (.cons (.int _) (.cons (t3.keep k9) (.cons (.int _) (.cons (.str _) .nil))))))
      rw [upd_ne ntp.symm, upd_same]
end
end PL
namespace PL
open PySem PySem.Spec PyProof.Rows L2 D0
/-! ### how Rule(..) binds -/
abbrev psR : List Str := ["self", "start", "moves", "players", "ends", "most", "stuck"]
abbrev dfR (e : Addr) : List (Str × V) := [("players", .int 2), ("ends", .ref e), ("most", .int 40), ("stuck", .str (Str.ofString "lose"))]
abbrev FunR (K : PySem.W.Frag) (e f : Addr) (fd : FuncData) : Prop := FunD K "__init__" "Rule.__init__" (defArgs s_Rule_init) (defBody s_Rule_init) (defScope s_Rule_init) [] (dfR e) f fd
section
variable {K : PySem.W.Frag} {e f : Addr} {fd : FuncData}
def in1 {α : Type} (vs _mz zs : List α) : List α := vs ++ zs
theorem kb_in1 (F : FunR K e f fd) : KBn K fd psR 3 ["players", "ends", "most", "stuck"] (fun us ws => in1 us ([] : List Value) ws) (fun vs zs => in1 vs ([] : List V) zs) := by
  obtain ⟨mv, h⟩ := FunD.kbinds0 (ps := psR) F 3 ["players", "ends", "most", "stuck"] [] in1 (by simp) (fun _ h => nomatch h) (fun r1 _ r3 => r1.append r3)
    (fun D doc pm an cdv ct us mv ws h1 h2 h3 => match us, ws, h1, h3 with | [a, b, c], [d, e, f, g], _, _ => by show _ = _; rfl)
  exact h
def in2 {α : Type} (vs _mz zs : List α) : List α := match vs, zs with
  | [s], [k, e, m, l, b, p] => [s, b, m, p, e, l, k]
  | _, _ => []
theorem in2_rel {vs mz zs : List V} {us mv ws : List Value} (h1 : Vals vs us) (h2 : Vals mz mv) (h3 : Vals zs ws) : Vals (in2 vs mz zs) (in2 us mv ws) := by
  have e1 := h1.length
  have e3 := h3.length
  match vs, us, h1, e1 with
  | [s], [s'], .cons r .nil, _ =>
    match zs, ws, h3, e3 with
    | [k, e, m, l, b, p], [k', e', m', l', b', p'], .cons r1 (.cons r2 (.cons r3 (.cons r4 (.cons r5 (.cons r6 .nil))))), _ => exact .cons r (.cons r5 (.cons r3 (.cons r6 (.cons r2 (.cons r4 (.cons r1 .nil))))))
    | [], [], _, _ => exact .nil
    | [_], [_], _, _ => exact .nil
    | [_, _], [_, _], _, _ => exact .nil
    | [_, _, _], [_, _, _], _, _ => exact .nil
    | [_, _, _, _], [_, _, _, _], _, _ => exact .nil
    | [_, _, _, _, _], [_, _, _, _, _], _, _ => exact .nil
    | _ :: _ :: _ :: _ :: _ :: _ :: _ :: _, _ :: _ :: _ :: _ :: _ :: _ :: _ :: _, _, _ => exact .nil
  | [], [], _, _ => exact .nil
  | _ :: _ :: _, _ :: _ :: _, _, _ => exact .nil
theorem kb_in2 (F : FunR K e f fd) : KBn K fd psR 1 ["stuck", "ends", "moves", "most", "start", "players"] (fun us ws => in2 us ([] : List Value) ws) (fun vs zs => in2 vs ([] : List V) zs) := by
  obtain ⟨mv, h⟩ := FunD.kbinds0 (ps := psR) F 1 ["stuck", "ends", "moves", "most", "start", "players"] [] in2 (by simp) (fun _ h => nomatch h) in2_rel
    (fun D doc pm an cdv ct us mv ws h1 h2 h3 => match us, ws, h1, h3 with | [a], [b, c, d, e, f, g], _, _ => by show _ = _; rfl)
  have em : mv = mv := rfl
  exact ⟨fun s us ws X l1 l2 => h.to s us ws X l1 l2, fun r1 r2 => in2_rel r1 .nil r2⟩
theorem b_def (F : FunR K e f fd) : ∃ ds, Vals [.int 2, .ref e, .int 40, .str (Str.ofString "lose")] ds ∧ Binds K fd psR ds := by
  obtain ⟨ds, h1, h2⟩ := FunD.binds0 (ps := psR) F 3 (by simp) rfl
    (fun D doc pm an cdv ct us ks h1 h2 => match us, ks, h1, h2 with
      | [a, b, c], [d, e, f, g], _, _ => ⟨_, _, _, _, _, _, rfl, rfl, _, _, _, _, _, _, rfl, rfl, _, _, _, _, _, _, rfl, rfl, _, _, _, _, _, _, rfl, rfl, by show _ = _; rfl⟩)
  exact ⟨ds, h1, h2⟩
end
/-! ### the other methods -/
structure TI (K : PySem.W.Frag) (C : Addr) : Prop where
  ha : PySem.W.findIn K (.ref C) "__class__" = some (some (.builtin "object.__class__"))
  hn : PySem.W.specialIn K (.builtin "object.__class__") "__get__" = some (some (.builtin "getset_descriptor.__get__"))
  ht : PySem.W.takesIn K (.builtin "object.__class__") = some true
  hm : PySem.W.mroIn K C (.type "object") = some true
  k1 : PySem.W.kitOne K (.ref C) (.ref C) = some true
def spTold (K : PySem.W.Frag) (C : Addr) : Sp := fun vs H Q _ => ∃ (p : Addr) (d : PyData), vs = [.ref p] ∧ RuleAt K C H p d ∧ ∀ tv, Td K H tv d → Q tv H
def spEqR (K : PySem.W.Frag) (C : Addr) : Sp := fun vs H Q _ => ∃ (p : Addr) (y : V) (d : PyData), vs = [.ref p, y] ∧ RuleAt K C H p d ∧
  ((∃ p2 d2, y = .ref p2 ∧ RuleAt K C H p2 d2 ∧ SeqAt.shaped d = true ∧ SeqAt.shaped d2 = true ∧ Q (.bl (PyData.eqv d d2)) H) ∨
   (∃ t, TyX K H y t ∧ PySem.W.kitOne K t (.ref C) = some false ∧ Q (.bl false) H))
theorem told_at (tv : V) : (partsOf tv).lookup ("_told" : Str) = some tv := by
  unfold partsOf
  rw [lookup_putF, if_pos rfl]
section
variable {P : Program} {w : World} {K : PySem.W.Frag} {mg : Str → Option Value} {base : Heap}
theorem ok_told {f C : Addr} {fd : FuncData} {k : Nat} (F : Fun K "told" "Rule.told" s_Rule_told f fd) (R : TR K mg C) : FnOk P w K mg base CX0 (k + 1) f fd ["self"] (spTold K C) := by
  refine F.ok sc_Rule_told (fun vs H Q E h => ?_) (fun cdv A outer s H vs Q E hr h => ?_)
  · obtain ⟨p, d, rfl, _⟩ := h
    rfl
  · obtain ⟨p, d, rfl, ⟨dx, tv, hp, ht⟩, q⟩ := h
    refine ⟨_, (pss_one (ps_ret (pe_fld (pv 0) rfl))), ?_⟩
    exact ⟨_, rfl, p, C, dx, _, tv, rfl, hp, R.cl, R.nT, told_at tv, q tv ht⟩
theorem ok_eq {f C : Addr} {fd : FuncData} {k : Nat} (F : Fun K "__eq__" "Rule.__eq__" s_Rule_eq f fd) (T : TM mg) (R : TR K mg C) (I : TI K C) : FnOk P w K mg base CX0 (k + 1) f fd ["self", "other"] (spEqR K C) := by
  refine F.ok sc_Rule_eq (fun vs H Q E h => ?_) (fun cdv A outer s H vs Q E hr h => ?_)
  · obtain ⟨p, y, d, rfl, _⟩ := h
    rfl
  · obtain ⟨p, y, d, rfl, ⟨dx, tv, hp, ht⟩, h⟩ := h
    refine ⟨_, (pss_one (ps_ret (pe_and (pe_callB call_isi (by rfl) T.m_isinstance (by decide +kernel) (pa_cons (pv 1) (pa_cons (pe_glob (v := .ref C) (by rfl) R.g_Rule rfl) pa_nil))) (pe_one (pe_cmpR (op_eqD hr.units) (pe_fld (pv 0) rfl) (pe_fld (pv 1) rfl) (nomark _)))))), ?_⟩
    rcases h with ⟨p2, d2, rfl, ⟨dx2, tv2, hp2, ht2⟩, s1, s2, q⟩ | ⟨t, ty, kn, q⟩
    · refine ⟨_, rfl, .ref p2, .ref C, _, _, true, rfl, .own C, .base (.ins hp2 R.cl I.ha I.hn I.ht I.hm), I.k1, true, rfl, ?_⟩
      exact ⟨_, rfl, p, C, dx, _, tv, rfl, hp, R.cl, R.nT, told_at tv, _, rfl, p2, C, dx2, _, tv2, rfl, hp2, R.cl, R.nT, told_at tv2, d, d2, ht.dp, ht2.dp, s1, s2, q⟩
    · exact ⟨_, rfl, y, .ref C, _, _, false, rfl, .own C, ty, kn, false, rfl, q⟩
end
end PL
namespace PL
open PySem PySem.Spec PyProof.Rows L2 D0
/-! ### lists of data that grow while numbers are drawn -/
theorem Kp.tk {d c : Addr} {H H' : Hp} (k : Kp d c H H') (D : DrC H d c) : TK H H' := by
  obtain ⟨_, a, b, ns, hd, hc, _⟩ := D
  intro x u t e
  refine k x u ?_ ?_ e
  · rintro rfl
    rw [hd] at e
    cases e
    exact t
  · rintro rfl
    rw [hc] at e
    cases e
    exact t
/-- at p a list of the values xs that are the data ds; the draw goes on -/
structure Grow (K : PySem.W.Frag) (H H' : Hp) (d c p : Addr) (xs : List V) (ds : List PyData) : Prop where
  dr : DrC H' d c
  kp : Kp d c H H'
  hp : H' p = some (.lst xs)
  td : TdAll K H' xs ds
section
variable {K : PySem.W.Frag} {H H' H2 : Hp} {d c p : Addr} {xs : List V} {ds : List PyData}
theorem Grow.go (G : Grow K H H' d c p xs ds) (pd : p ≠ d) (pc : p ≠ c) (D : DrC H2 d c) (k : Kp d c H' H2) : Grow K H H2 d c p xs ds :=
  ⟨D, G.kp.trans k, k _ _ pd pc G.hp, G.td.keep (k.tk G.dr)⟩
theorem Grow.new {q : Addr} {u : HO} (G : Grow K H H' d c p xs ds) (n : H' q = none) : Grow K H (upd H' q u) d c p xs ds :=
  ⟨G.dr.new n, G.kp.trans (Kp.new n), by rw [upd_ne (ne_of_none G.hp n)]; exact G.hp, G.td.keep (TK.of_same (new_same n))⟩
theorem Grow.push {v : V} {e : PyData} (G : Grow K H H' d c p xs ds) (pd : p ≠ d) (pc : p ≠ c) (hn : H p = none) (t : Td K H' v e) : Grow K H (upd H' p (.lst (xs ++ [v]))) d c p (xs ++ [v]) (ds ++ [e]) := by
  have k := TK.upd (u := .lst (xs ++ [v])) G.hp (fun z => z)
  refine ⟨G.dr.upd pd pc, fun b o h1 h2 h3 => ?_, upd_same, (G.td.keep k).app (.cons (t.keep k) .nil)⟩
  rw [upd_ne (ne_of_none h3 hn)]
  exact G.kp b o h1 h2 h3
theorem Grow.len (G : Grow K H H' d c p xs ds) : xs.length = ds.length := G.td.len
end
/-- what is drawn from a list of texts -/
theorem pick_strs {K : PySem.W.Frag} {H : Hp} {d c q : Addr} {zs : List Str} (n1 : q ≠ d) (n2 : q ≠ c) (h0 : 0 < zs.length) (h1 : zs.length ≤ 1000) (h : H q = some (.lst (zs.map V.str))) : Some1 K H d c (.ref q) (fun v => ∃ z ∈ zs, v = .str z) := by
  refine .inl ⟨q, _, rfl, SqL.of h, n1, n2, by rw [List.length_map]; exact h0, by rw [List.length_map]; exact h1, fun v hv => ?_⟩
  obtain ⟨z, hz, rfl⟩ := List.mem_map.mp hv
  exact ⟨z, hz, rfl⟩
theorem pick_ints {K : PySem.W.Frag} {H : Hp} {d c q : Addr} {zs : List Int} (n1 : q ≠ d) (n2 : q ≠ c) (h0 : 0 < zs.length) (h1 : zs.length ≤ 1000) (h : H q = some (.lst (zs.map V.int))) : Some1 K H d c (.ref q) (fun v => ∃ z ∈ zs, v = .int z) := by
  refine .inl ⟨q, _, rfl, SqL.of h, n1, n2, by rw [List.length_map]; exact h0, by rw [List.length_map]; exact h1, fun v hv => ?_⟩
  obtain ⟨z, hz, rfl⟩ := List.mem_map.mp hv
  exact ⟨z, hz, rfl⟩
def spTestsD (K : PySem.W.Frag) : Sp := fun vs H Q _ => ∃ (d c : Addr) (m L : Int), vs = [.ref d, .int m, .int L] ∧ DrC H d c ∧ 1 ≤ m ∧ m ≤ 12 ∧ 0 ≤ L ∧ L ≤ 4 ∧
  ∀ v (ts : List Trip) H', DrC H' d c → Kp d c H H' → Td K H' v (.tuple (ts.map tripD)) → (ts.length : Int) ≤ L → (∀ t ∈ ts, TestOk m t) → Q v H'
def spChangesD (K : PySem.W.Frag) : Sp := fun vs H Q _ => ∃ (d c : Addr) (m : Int), vs = [.ref d, .int m] ∧ DrC H d c ∧ 1 ≤ m ∧ m ≤ 12 ∧
  ∀ v (ts : List Trip) H', DrC H' d c → Kp d c H H' → Td K H' v (.tuple (ts.map tripD)) → 1 ≤ ts.length → ts.length ≤ 4 → (∀ t ∈ ts, ChangeOk m t) → (ts.map (·.1)).Nodup → Q v H'
section
variable {P : Program} {w : World} {K : PySem.W.Frag} {mg : Str → Option Value} {base : Heap}
theorem ok_tests {f : Addr} {fd : FuncData} (F : Fun K "_law_tests" "_law_tests" s_law_tests f fd) (T : TM mg)
    (C_law_take : Cal P w K mg base "_law_take" 1 ["draw", "size"] spTake) (C_law_pick : Cal P w K mg base "_law_pick" 2 ["draw", "some"] (spPick K)) : FnOk P w K mg base CX0 3 f fd ["draw", "many", "longest"] (spTestsD K) := by
  refine F.ok sc_law_tests (fun vs H Q E h => ?_) (fun cdv A outer s H vs Q E hr h => ?_)
  · obtain ⟨d, c, m, L, rfl, _⟩ := h
    rfl
  · obtain ⟨d, c, m, L, rfl, D, m1, m12, l0, l4, q⟩ := h
    refine ⟨_, (pss_cons (ps_set (i := 3) sc_law_tests.nd rfl (.inl rfl) (pe_lst pa_nil))
      (pss_cons (ps_for PassesOwn.never rfl (pi_range1 (by rfl) T.m_range (pa_cons (D0.pe_cal C_law_take (hr.mono (by decide)) (by rfl) (pa_cons (pv 0) (pa_cons (pe_op op_add (pv 2) pe_int) pa_nil))) pa_nil)) (pg_name (i := 4) sc_law_tests.nd rfl (.inl rfl))
        (pss_one (ps_expr (pe_bm PySem.F.plainAttrs_list PySem.F.slot_list_append PySem.F.type_list_append mt_append (pv 3) (pa_cons (pe_tup (pa_cons (D0.pe_cal C_law_take (hr.mono (by decide)) (by rfl) (pa_cons (pv 0) (pa_cons (pv 1) pa_nil))) (pa_cons (D0.pe_cal C_law_pick (hr.mono (by decide)) (by rfl) (pa_cons (pv 0) (pa_cons (pe_lst (pa_cons pe_str (pa_cons pe_str (pa_cons pe_str (pa_cons pe_str pa_nil))))) pa_nil))) (pa_cons (D0.pe_cal C_law_take (hr.mono (by decide)) (by rfl) (pa_cons (pv 0) (pa_cons pe_int pa_nil))) pa_nil)))) pa_nil)))))
      (pss_one (ps_ret (pe_callTy call_tuple_of (by rfl) T.m_tuple (by decide +kernel) (pa_cons (pv 3) pa_nil)))))), ?_⟩
    refine ⟨Nat.zero_le _, fun p np => ?_⟩
    have pd := D.nd np
    have pc := D.nc np
    have G0 : Grow K H (upd H p (.lst [])) d c p [] [] := ⟨D.new np, Kp.new np, upd_same, .nil⟩
    refine ⟨_, rfl, _, rfl, L, 1, rfl, rfl, d, c, L + 1, rfl, G0.dr, by omega, by omega, fun n H1 n0 n1 D1 k1 => ?_⟩
    have G1 := G0.go pd pc D1 k1
    refine ⟨n, rfl, by omega, by omega, ?_⟩
    refine for_range (lo := 0) (n := n.toNat) (fun i σ H' => ∃ y4 xs ts, σ = [some (.ref d), some (.int m), some (.int L), some (.ref p), y4] ∧ Grow K H H' d c p xs (List.map tripD ts) ∧ ts.length = i ∧ ∀ t ∈ ts, TestOk m t)
      ⟨none, [], [], rfl, G1, rfl, fun _ h => nomatch h⟩ ?_ ?_
    · rintro i σ H2 hi ⟨y4, xs, ts, rfl, G2, hl, ho⟩
      refine ⟨_, rfl, .inl ⟨rfl, _, SqL.of G2.hp⟩, ?_⟩
      refine ⟨_, rfl, _, rfl, d, c, m, rfl, G2.dr, by omega, by omega, fun a H3 a0 a1 D3 k3 => ?_⟩
      have G3 := G2.go pd pc D3 k3
      refine ⟨_, rfl, Nat.le_of_lt (small1000 (show 4 ≤ 1000 by decide)), fun q' nq => ?_⟩
      have G4 := G3.new (u := .lst ([Str.ofString "is", Str.ofString "least", Str.ofString "most", Str.ofString "least"].map V.str)) nq
      refine ⟨d, c, _, _, rfl, G4.dr, pick_strs (zs := [Str.ofString "is", Str.ofString "least", Str.ofString "most", Str.ofString "least"]) (D3.nd nq) (D3.nc nq) (by decide) (by decide) upd_same, fun v H5 hv D5 k5 => ?_⟩
      obtain ⟨z, hz, rfl⟩ := hv
      have G5 := G4.go pd pc D5 k5
      refine ⟨_, rfl, d, c, 10, rfl, G5.dr, by decide, by decide, fun b H6 b0 b1 D6 k6 => ?_⟩
      have G6 := G5.go pd pc D6 k6
      refine ⟨Nat.le_of_lt (small1000 (show 3 ≤ 1000 by decide)), fun t nt => ?_⟩
      have G7 := G6.new (u := .tup [.int a, .str z, .int b]) nt
      have Tt : Td K (upd H6 t (.tup [.int a, .str z, .int b])) (.ref t) (tripD (a, z, b)) := .tup (.inl (.inl upd_same)) (.cons (.int a) (.cons (.str z) (.cons (.int b) .nil)))
      have hx : xs.length = ts.length := by rw [G2.len, List.length_map]
      refine ⟨p, _, _, rfl, rfl, G7.hp, small1000 (by omega), _, xs ++ [.ref t], ts ++ [(a, z, b)], rfl, ?_, by rw [List.length_append, hl]; rfl, ?_⟩
      · rw [List.map_append]
        exact G7.push pd pc np Tt
      · intro x hx
        rcases List.mem_append.mp hx with h | h
        · exact ho x h
        · rw [List.mem_singleton.mp h]
          refine ⟨⟨a0, by show a ≤ m - 1; omega⟩, ?_, b0, by show b ≤ 9; omega⟩
          simp only [List.mem_cons, List.not_mem_nil, or_false] at hz
          show z = _ ∨ z = _ ∨ z = _
          rcases hz with h | h | h | h
          · exact .inl h
          · exact .inr (.inl h)
          · exact .inr (.inr h)
          · exact .inr (.inl h)
    · rintro σ H2 ⟨y4, xs, ts, rfl, G2, hl, ho⟩
      refine ⟨_, rfl, p, xs, rfl, .inl ⟨SqL.of G2.hp, fun t nt => ?_⟩⟩
      exact q _ ts _ (G2.dr.new nt) (G2.kp.trans (Kp.new nt)) (.tup (.inl (.inl upd_same)) (G2.td.keep (TK.of_same (new_same nt)))) (by omega) ho
theorem ok_changes {f : Addr} {fd : FuncData} (F : Fun K "_law_changes" "_law_changes" s_law_changes f fd) (T : TM mg)
    (C_law_take : Cal P w K mg base "_law_take" 1 ["draw", "size"] spTake) (C_law_pick : Cal P w K mg base "_law_pick" 2 ["draw", "some"] (spPick K)) : FnOk P w K mg base CX0 3 f fd ["draw", "many"] (spChangesD K) := by
  refine F.ok sc_law_changes (fun vs H Q E h => ?_) (fun cdv A outer s H vs Q E hr h => ?_)
  · obtain ⟨d, c, m, rfl, _⟩ := h
    rfl
  · obtain ⟨d, c, m, rfl, D, m1, m12, q⟩ := h
    refine ⟨_, (pss_cons (ps_par (i := 2) (j := 3) (by rfl) sc_law_changes.nd rfl rfl (by decide) rfl rfl (pa_cons (D0.pe_cal C_law_take (hr.mono (by decide)) (by rfl) (pa_cons (pv 0) (pa_cons (pv 1) pa_nil))) (pa_cons (pe_lst pa_nil) pa_nil)) (by rfl))
      (pss_cons (ps_for PassesOwn.never rfl (pi_range1 (by rfl) T.m_range (pa_cons (pe_callB (call_min2 rfl) (by rfl) T.m_min (by decide +kernel) (pa_cons (pv 1) (pa_cons (pe_op op_add pe_int (D0.pe_cal C_law_take (hr.mono (by decide)) (by rfl) (pa_cons (pv 0) (pa_cons pe_int pa_nil)))) pa_nil))) pa_nil)) (pg_name (i := 4) sc_law_changes.nd rfl (.inl rfl))
        (pss_cons (ps_set (i := 5) sc_law_changes.nd rfl (.inl rfl) (D0.pe_cal C_law_take (hr.mono (by decide)) (by rfl) (pa_cons (pv 0) (pa_cons pe_int pa_nil))))
      (C8.pss_cut (ps_set (i := 6) sc_law_changes.nd rfl (.inl rfl) (pe_ifExp (pt_cmpR op_eq (pv 5) pe_int (nomark _)) (D0.pe_cal C_law_take (hr.mono (by decide)) (by rfl) (pa_cons (pv 0) (pa_cons pe_int pa_nil))) (D0.pe_cal C_law_pick (hr.mono (by decide)) (by rfl) (pa_cons (pv 0) (pa_cons (pe_lst (pa_cons pe_int (pa_cons (pe_un un_neg pe_int) (pa_cons pe_int (pa_cons (pe_un un_neg pe_int) (pa_cons pe_int (pa_cons pe_int (pa_cons (pe_un un_neg pe_int) pa_nil)))))))) pa_nil)))))
      (pss_one (ps_expr (pe_bm PySem.F.plainAttrs_list PySem.F.slot_list_append PySem.F.type_list_append mt_append (pv 3) (pa_cons (pe_tup (pa_cons (pe_op op_modN (pe_op op_add (pv 2) (pv 4)) (pv 1)) (pa_cons (pe_ifExp (pt_cmpR op_eq (pv 5) pe_int (nomark _)) pe_str pe_str) (pa_cons (pv 6) pa_nil)))) pa_nil)))))))
      (pss_one (ps_ret (pe_callTy call_tuple_of (by rfl) T.m_tuple (by decide +kernel) (pa_cons (pv 3) pa_nil)))))), ?_⟩
    refine ⟨_, rfl, _, rfl, d, c, m, rfl, D, by omega, by omega, fun fst H0 f0 f1 D0' k0 => ?_⟩
    refine ⟨Nat.zero_le _, fun p np => ⟨_, _, rfl, ?_⟩⟩
    have pd := D0'.nd np
    have pc := D0'.nc np
    have nHp : H p = none := k0.none pd pc np
    have G0 : Grow K H (upd H0 p (.lst [])) d c p [] [] := ⟨D0'.new np, k0.trans (Kp.new np), upd_same, .nil⟩
    refine ⟨_, rfl, _, rfl, d, c, 4, rfl, G0.dr, by decide, by decide, fun n H1 n0 n1 D1 k1 => ?_⟩
    have G1 := G0.go pd pc D1 k1
    refine ⟨_, _, rfl, rfl, m, 1 + n, rfl, ?_⟩
    obtain ⟨N, eN, N1, N4, Nm⟩ : ∃ N : Nat, (if 1 + n < m then 1 + n else m) = (N : Int) ∧ 1 ≤ N ∧ N ≤ 4 ∧ (N : Int) ≤ m := by
      refine ⟨(if 1 + n < m then 1 + n else m).toNat, ?_, ?_, ?_, ?_⟩ <;> split <;> omega
    refine ⟨_, rfl, ?_, ?_, ?_⟩
    · rw [eN]; omega
    · rw [eN]; omega
    rw [eN]
    refine for_range (lo := 0) (n := (N : Int).toNat) (fun i σ H' => ∃ y4 y5 y6 xs ts, σ = [some (.ref d), some (.int m), some (.int fst), some (.ref p), y4, y5, y6] ∧ Grow K H H' d c p xs (List.map tripD ts) ∧ ts.length = i ∧ (∀ t ∈ ts, ChangeOk m t) ∧ ts.map (·.1) = (List.range i).map fun (k : Nat) => (fst + (k : Int)) % m)
      ⟨none, none, none, [], [], rfl, G1, rfl, (fun _ h => nomatch h), rfl⟩ ?_ ?_
    · rintro i σ H2 hi ⟨y4, y5, y6, xs, ts, rfl, G2, hl, ho, hc⟩
      refine ⟨_, rfl, d, c, 3, rfl, G2.dr, by decide, by decide, fun way H3 w0 w1 D3 k3 => ?_⟩
      have G3 := G2.go pd pc D3 k3
      refine ⟨fun σ H' => ∃ x : Int, σ = [some (.ref d), some (.int m), some (.int fst), some (.ref p), some (.int (0 + (i : Int))), some (.int way), some (.int x)] ∧ Grow K H H' d c p xs (List.map tripD ts) ∧
        ((way = 0 ∧ 0 ≤ x ∧ x ≤ 9) ∨ (way ≠ 0 ∧ -9 ≤ x ∧ x ≤ 9)), ?_, ?_⟩
      · refine ⟨_, rfl, rfl, _, rfl, ite2 (fun e => ?_) (fun e => ?_)⟩
        · have e' : way = 0 := V.int.inj (of_decide_eq_true e)
          refine ⟨_, rfl, d, c, 10, rfl, G3.dr, by decide, by decide, fun x H4 x0 x1 D4 k4 => ?_⟩
          exact ⟨x, rfl, G3.go pd pc D4 k4, .inl ⟨e', x0, by omega⟩⟩
        · have e' : way ≠ 0 := fun z => e (decide_eq_true (by rw [z]))
          refine ⟨_, rfl, 1, rfl, 2, rfl, 9, rfl, Nat.le_of_lt (small1000 (show 7 ≤ 1000 by decide)), fun q' nq => ?_⟩
          have G4 := G3.new (u := .lst ([1, -1, 2, -2, 0, 9, -9].map V.int)) nq
          refine ⟨d, c, _, _, rfl, G4.dr, pick_ints (zs := [1, -1, 2, -2, 0, 9, -9]) (D3.nd nq) (D3.nc nq) (by decide) (by decide) upd_same, fun v H5 hv D5 k5 => ?_⟩
          obtain ⟨x, hx, rfl⟩ := hv
          have hb : -9 ≤ x ∧ x ≤ 9 := (show ∀ x ∈ ([1, -1, 2, -2, 0, 9, -9] : List Int), -9 ≤ x ∧ x ≤ 9 by decide) x hx
          exact ⟨x, rfl, G4.go pd pc D5 k5, .inr ⟨e', hb⟩⟩
      · rintro σ' H4 ⟨x, rfl, G4, hx⟩
        have hmod : (fst + (0 + (i : Int))).fmod m = (fst + (i : Int)) % m := by
          rw [Int.fmod_eq_emod_of_nonneg _ (by omega), Int.zero_add]
        have b0 : 0 ≤ (fst + (0 + (i : Int))).fmod m := Int.fmod_nonneg (by omega) (by omega)
        have b1 : (fst + (0 + (i : Int))).fmod m < m := Int.fmod_lt_of_pos _ (by omega)
        have hx' : xs.length = ts.length := by rw [G4.len, List.length_map]
        have key : ∀ (z : Str), ChangeOk m ((fst + (0 + (i : Int))).fmod m, z, x) → ∀ t, H4 t = none →
            (upd H4 t (.tup [.int ((fst + (0 + (i : Int))).fmod m), .str z, .int x])) p = some (.lst xs) ∧ xs.length < sizeLine ∧
            ∃ y4 y5 y6 xs' ts', [some (V.ref d), some (V.int m), some (V.int fst), some (V.ref p), some (V.int (0 + (i : Int))), some (V.int way), some (V.int x)] = [some (V.ref d), some (V.int m), some (V.int fst), some (V.ref p), y4, y5, y6] ∧
              Grow K H (upd (upd H4 t (.tup [.int ((fst + (0 + (i : Int))).fmod m), .str z, .int x])) p (.lst (xs ++ [.ref t]))) d c p xs' (List.map tripD ts') ∧ ts'.length = i + 1 ∧ (∀ t ∈ ts', ChangeOk m t) ∧ ts'.map (·.1) = (List.range (i + 1)).map fun (k : Nat) => (fst + (k : Int)) % m := by
          intro z okc t nt
          have G7 := G4.new (u := .tup [.int ((fst + (0 + (i : Int))).fmod m), .str z, .int x]) nt
          have Tt : Td K (upd H4 t (.tup [.int ((fst + (0 + (i : Int))).fmod m), .str z, .int x])) (.ref t) (tripD ((fst + (0 + (i : Int))).fmod m, z, x)) := .tup (.inl (.inl upd_same)) (.cons (.int _) (.cons (.str z) (.cons (.int x) .nil)))
          refine ⟨G7.hp, small1000 (by omega), _, _, _, xs ++ [.ref t], ts ++ [((fst + (0 + (i : Int))).fmod m, z, x)], rfl, ?_, by rw [List.length_append, hl]; rfl, ?_, ?_⟩
          · rw [List.map_append]
            exact G7.push pd pc nHp Tt
          · intro y hy
            rcases List.mem_append.mp hy with h | h
            · exact ho y h
            · rw [List.mem_singleton.mp h]
              exact okc
          · rw [List.map_append, hc, List.range_succ, List.map_append]
            show _ ++ [(fst + (0 + (i : Int))).fmod m] = _ ++ [(fst + (i : Int)) % m]
            rw [hmod]
        refine ⟨_, rfl, .inl ⟨rfl, _, SqL.of G4.hp⟩, ?_⟩
        refine ⟨_, rfl, _, rfl, _, _, rfl, rfl, _, rfl, _, _, rfl, rfl, (by show m ≠ 0; omega), ?_⟩
        refine ⟨_, rfl, rfl, _, rfl, ite2 (fun e => ?_) (fun e => ?_)⟩
        · have e' : way = 0 := V.int.inj (of_decide_eq_true e)
          refine ⟨_, rfl, Nat.le_of_lt (small1000 (show 3 ≤ 1000 by decide)), fun t nt => ?_⟩
          obtain ⟨k1, k2, k3⟩ := key (Str.ofString "put") ⟨⟨b0, by show (fst + (0 + (i : Int))).fmod m ≤ m - 1; omega⟩, .inl ⟨rfl, by rcases hx with h | h; exact h.2; exact absurd e' h.1⟩⟩ t nt
          exact ⟨p, _, _, rfl, rfl, k1, k2, k3⟩
        · have e' : way ≠ 0 := fun z => e (decide_eq_true (by rw [z]))
          refine ⟨_, rfl, Nat.le_of_lt (small1000 (show 3 ≤ 1000 by decide)), fun t nt => ?_⟩
          obtain ⟨k1, k2, k3⟩ := key (Str.ofString "add") ⟨⟨b0, by show (fst + (0 + (i : Int))).fmod m ≤ m - 1; omega⟩, .inr ⟨rfl, by rcases hx with h | h; exact absurd h.1 e'; exact h.2⟩⟩ t nt
          exact ⟨p, _, _, rfl, rfl, k1, k2, k3⟩
    · rintro σ H2 ⟨y4, y5, y6, xs, ts, rfl, G2, hl, ho, hc⟩
      refine ⟨_, rfl, p, xs, rfl, .inl ⟨SqL.of G2.hp, fun t nt => ?_⟩⟩
      refine q _ ts _ (G2.dr.new nt) (G2.kp.trans (Kp.new nt)) (.tup (.inl (.inl upd_same)) (G2.td.keep (TK.of_same (new_same nt)))) (by omega) (by omega) ho ?_
      rw [hc]
      refine nodup_map_range _ fun i j hi hj e => ?_
      have e2 := Int.emod_eq_emod_iff_emod_sub_eq_zero.mp e
      rcases Int.le_total (j : Int) (i : Int) with h | h
      · rw [show fst + (i : Int) - (fst + (j : Int)) = (i : Int) - j by omega, Int.emod_eq_of_lt (by omega) (by omega)] at e2
        omega
      · have e3 := Int.emod_eq_emod_iff_emod_sub_eq_zero.mp e.symm
        rw [show fst + (j : Int) - (fst + (i : Int)) = (j : Int) - i by omega, Int.emod_eq_of_lt (by omega) (by omega)] at e3
        omega
end
end PL
namespace PL
open PySem PySem.Spec PyProof.Rows L2 D0
/-- [f(k) for k in range(n)], numbers, while numbers are drawn -/
theorem ints_lc {H : Hp} {σ : L2.St} {d c : Addr} {te : TE} {i j n : Nat} {Pk : Nat → Int → Prop} {Q : VK} (hD : DrC H d c) (hn : n ≤ 1000) (hj : σ[j]? = some (some (.int n)))
    (helt : ∀ (k : Nat) (H' : Hp) (R : VK), k < n → DrC H' d c → (∀ x H2, Pk k x → DrC H2 d c → Kp d c H' H2 → R (.int x) H2) → te ((wipe σ [i]).set i (some (.int (0 + (k : Int))))) H' R)
    (q : ∀ (D : Addr) (ns : List Int) (H' : Hp), ns.length = n → (∀ k x, ns[k]? = some x → Pk k x) → DrC H' d c → Kp d c H H' → D ≠ d → D ≠ c → H D = none → H' D = some (.lst (ns.map V.int)) → Q (.ref D) H') :
    tLc (iRng1 (tCons (tVar j) tNil)) (gName i) tYes te [i] σ H Q := by
  refine ⟨_, hj, (n : Int), rfl, by omega, by omega, fun D nD => ?_⟩
  have Dd := hD.nd nD
  have Dc := hD.nc nD
  refine lc_range (lo := 0) (n := (n : Int).toNat) (fun k H' => ∃ ns : List Int, ns.length = k ∧ (∀ k x, ns[k]? = some x → Pk k x) ∧ DrC H' d c ∧ Kp d c H H' ∧ H' D = some (.lst (ns.map V.int)))
    ⟨[], rfl, fun _ _ h => by simp at h, hD.new nD, Kp.new nD, upd_same⟩ ?_ ?_
  · rintro k H1 hk ⟨ns, hl, hP, D1, k1, h1⟩
    refine ⟨wipe1 σ i _, ?_⟩
    refine helt k H1 _ (by omega) D1 fun x H2 hx D2 k2 => ?_
    have h2 := k2 _ _ Dd Dc h1
    refine ⟨_, h2, small1000 (by rw [List.length_map]; omega), ns ++ [x], by rw [List.length_append, hl]; rfl, fun k' y hy => ?_, D2.upd Dd Dc, fun b o b1 b2 e => ?_, ?_⟩
    · by_cases lt : k' < ns.length
      · rw [List.getElem?_append_left lt] at hy
        exact hP k' y hy
      · rw [List.getElem?_append_right (by omega)] at hy
        cases e : k' - ns.length with
        | zero =>
          rw [e] at hy
          cases hy
          have : k' = k := by omega
          rw [this]
          exact hx
        | succ z =>
          rw [e] at hy
          simp at hy
    · rw [upd_ne (ne_of_none e nD)]
      exact (k1.trans k2) b o b1 b2 e
    · rw [upd_same, List.map_append]
      rfl
  · rintro H1 ⟨ns, hl, hP, D1, k1, h1⟩
    exact q D ns H1 (by omega) hP D1 k1 Dd Dc nD h1
/-- tuple([..]) of such -/
theorem ints_tup {K : PySem.W.Frag} {H : Hp} {σ : L2.St} {d c : Addr} {te : TE} {i j n : Nat} {Pk : Nat → Int → Prop} {Q : VK} (hD : DrC H d c) (hn : n ≤ 1000) (hj : σ[j]? = some (some (.int n)))
    (helt : ∀ (k : Nat) (H' : Hp) (R : VK), k < n → DrC H' d c → (∀ x H2, Pk k x → DrC H2 d c → Kp d c H' H2 → R (.int x) H2) → te ((wipe σ [i]).set i (some (.int (0 + (k : Int))))) H' R)
    (q : ∀ (v : V) (ns : List Int) (H' : Hp), ns.length = n → (∀ k x, ns[k]? = some x → Pk k x) → DrC H' d c → Kp d c H H' → Td K H' v (.tuple (ns.map PyData.int)) → Q v H') :
    tCB (fun xs H Q => ∃ p ys, xs = [.ref p] ∧ ((SqL K H p ys ∧ ∀ l, H l = none → Q (.ref l) (upd H l (.tup ys))) ∨ (SqT K H p ys ∧ Q (.ref p) H))) (tCons (tLc (iRng1 (tCons (tVar j) tNil)) (gName i) tYes te [i]) tNil) σ H Q :=
  ints_lc (Q := fun y H1 => ∃ p ys, [y] = [V.ref p] ∧ ((SqL K H1 p ys ∧ ∀ l, H1 l = none → Q (.ref l) (upd H1 l (.tup ys))) ∨ (SqT K H1 p ys ∧ Q (.ref p) H1))) hD hn hj helt fun D ns H' hl hP D1 k1 _ _ _ h1 => ⟨D, _, rfl, .inl ⟨SqL.of h1, fun l nl => q _ ns _ hl hP (D1.new nl) (k1.trans (Kp.new nl)) (.tup (.inl (.inl upd_same)) (TdAll.of_ints ns))⟩⟩
/-- a growing list, with lists and data beside that stay -/
structure HInv (K : PySem.W.Frag) (H H' : Hp) (d c p : Addr) (xs : List V) (ds : List PyData) (ls : List (Addr × List V)) (ts : List (V × PyData)) : Prop where
  g : Grow K H H' d c p xs ds
  l : ∀ x ∈ ls, H' x.1 = some (.lst x.2)
  t : ∀ x ∈ ts, Td K H' x.1 x.2
section
variable {K : PySem.W.Frag} {H H' H2 : Hp} {d c p : Addr} {xs : List V} {ds : List PyData} {ls : List (Addr × List V)} {ts : List (V × PyData)}
theorem HInv.go (I : HInv K H H' d c p xs ds ls ts) (pd : p ≠ d) (pc : p ≠ c) (hl : ∀ x ∈ ls, x.1 ≠ d ∧ x.1 ≠ c ∧ x.1 ≠ p) (D : DrC H2 d c) (k : Kp d c H' H2) : HInv K H H2 d c p xs ds ls ts :=
  ⟨I.g.go pd pc D k, fun x hx => k _ _ (hl x hx).1 (hl x hx).2.1 (I.l x hx), fun x hx => (I.t x hx).keep (k.tk I.g.dr)⟩
theorem HInv.new {q : Addr} {u : HO} (I : HInv K H H' d c p xs ds ls ts) (n : H' q = none) : HInv K H (upd H' q u) d c p xs ds ls ts :=
  ⟨I.g.new n, fun x hx => by rw [upd_ne (ne_of_none (I.l x hx) n)]; exact I.l x hx, fun x hx => (I.t x hx).keep (TK.of_same (new_same n))⟩
theorem HInv.push {v : V} {e : PyData} (I : HInv K H H' d c p xs ds ls ts) (pd : p ≠ d) (pc : p ≠ c) (hl : ∀ x ∈ ls, x.1 ≠ d ∧ x.1 ≠ c ∧ x.1 ≠ p) (hn : H p = none) (t : Td K H' v e) :
    HInv K H (upd H' p (.lst (xs ++ [v]))) d c p (xs ++ [v]) (ds ++ [e]) ls ts :=
  ⟨I.g.push pd pc hn t, fun x hx => by rw [upd_ne (hl x hx).2.2]; exact I.l x hx, fun x hx => (I.t x hx).keep (TK.upd I.g.hp fun z => z)⟩
theorem HInv.add {v : V} {e : PyData} (I : HInv K H H' d c p xs ds ls ts) (t : Td K H' v e) : HInv K H H' d c p xs ds ls ((v, e) :: ts) :=
  ⟨I.g, I.l, fun x hx => by
    rcases List.mem_cons.mp hx with h | h
    · rw [h]; exact t
    · exact I.t x h⟩
theorem HInv.tk (I : HInv K H H' d c p xs ds ls ts) (k : TK H' H2) (D : DrC H2 d c) (kp : Kp d c H' H2) (hp : H2 p = some (.lst xs)) (hl : ∀ x ∈ ls, H2 x.1 = some (.lst x.2)) : HInv K H H2 d c p xs ds ls ts :=
  ⟨⟨D, I.g.kp.trans kp, hp, I.g.td.keep k⟩, hl, fun x hx => (I.t x hx).keep k⟩
end
def spRuleD (K : PySem.W.Frag) : Sp := fun vs H Q _ => ∃ (d c : Addr) (s : Int), vs = [.ref d, .int s] ∧ DrC H d c ∧ 2 ≤ s ∧ s ≤ 4 ∧ ∀ v r H', DrC H' d c → Kp d c H H' → Td K H' v (ruleD r) → RuleOk r → Q v H'
theorem td_rule {K : PySem.W.Frag} {H : Hp} {a : Addr} {b p e : V} (r : RuleD) (h : H a = some (.tup [b, p, .int r.seats, e, .int r.longest, .str r.halted])) (hb : Td K H b (.tuple (r.begun.map PyData.int)))
    (hp : Td K H p (.tuple (r.plays.map moveD))) (he : Td K H e (.tuple (r.closes.map endD))) : Td K H (.ref a) (ruleD r) :=
  .tup (.inl (.inl h)) (.cons hb (.cons hp (.cons (.int _) (.cons he (.cons (.int _) (.cons (.str _) .nil))))))
theorem names_take {zs : List Str} {ms : List MoveD} (h : ms.map (·.name) = zs.take ms.length) (nd : zs.Nodup) : (ms.map (·.name)).Nodup := by
  rw [h]
  exact nd.sublist (List.take_sublist _ _)
theorem take_push {zs : List Str} {ms : List MoveD} {m : MoveD} (h : ms.map (·.name) = zs.take ms.length) (hz : zs[ms.length]? = some m.name) : (ms ++ [m]).map (·.name) = zs.take (ms ++ [m]).length := by
  rw [List.map_append, h, List.length_append]
  show _ = zs.take (ms.length + 1)
  rw [List.take_add_one, hz]
  rfl
theorem one_tup {K : PySem.W.Frag} {H : Hp} {t u : Addr} {a b : Int} {z : Str} (h : H t = some (.tup [.int a, .str z, .int b])) (h2 : H u = some (.tup [.ref t])) : Td K H (.ref u) (.tuple ([(a, z, b)].map tripD)) :=
  .tup (.inl (.inl h2)) (.cons (.tup (.inl (.inl h)) (.cons (.int a) (.cons (.str z) (.cons (.int b) .nil)))) .nil)
section
variable {P : Program} {w : World} {K : PySem.W.Frag} {mg : Str → Option Value} {base : Heap}
theorem ok_heaps {f : Addr} {fd : FuncData} (F : Fun K "_law_heaps" "_law_heaps" s_law_heaps f fd) (T : TM mg)
    (C_law_take : Cal P w K mg base "_law_take" 1 ["draw", "size"] spTake) (C_law_pick : Cal P w K mg base "_law_pick" 2 ["draw", "some"] (spPick K))
    (C_law_names : Cal P w K mg base "_law_names" 3 ["draw", "many"] spNames) : FnOk P w K mg base CX0 4 f fd ["draw", "seats"] (spRuleD K) := by
  refine F.ok sc_law_heaps (fun vs H Q E h => ?_) (fun cdv A outer s H vs Q E hr h => ?_)
  · obtain ⟨d, c, s, rfl, _⟩ := h
    rfl
  · obtain ⟨d, c, seats, rfl, D, s2, s4, q⟩ := h
    refine ⟨_, (pss_cons (ps_set (i := 2) sc_law_heaps.nd rfl (.inl rfl) (pe_op op_add pe_int (D0.pe_cal C_law_take (hr.mono (by decide)) (by rfl) (pa_cons (pv 0) (pa_cons pe_int pa_nil)))))
      (pss_cons (ps_set (i := 3) sc_law_heaps.nd rfl (.inl rfl) (pe_callTy call_tuple_of (by rfl) T.m_tuple (by decide +kernel) (pa_cons (pe_lc (own := [("k", 8)]) (g := gName 8) rfl sc_law_heaps.nd (pi_range1 (by rfl) T.m_range (pa_cons (pv 2) pa_nil)) (blkOk_by (own := [("k", 8)]) (N := ["draw", "seats", "many", "begun", "names", "plays", "cell", "n", "k"]) (sc := defScope s_law_heaps) (by decide +kernel)) (fun _ _ _ _ _ => pg_name (i := 8) sc_law_heaps.nd rfl (Or.inl rfl)) (fun _ _ _ _ _ => pts_nil) (fun _ _ _ _ _ => (pe_op op_add pe_int (D0.pe_cal C_law_take (hr.mono (by decide)) (by rfl) (pa_cons (pv 0) (pa_cons pe_int pa_nil)))))) pa_nil)))
      (pss_cons (ps_par (i := 4) (j := 5) (by rfl) sc_law_heaps.nd rfl rfl (by decide) rfl rfl (pa_cons (D0.pe_cal C_law_names (hr.mono (by decide)) (by rfl) (pa_cons (pv 0) (pa_cons (pe_op op_mul pe_int (pv 2)) pa_nil))) (pa_cons (pe_lst pa_nil) pa_nil)) (by rfl))
      (pss_cons (ps_for PassesOwn.never rfl (pi_range1 (by rfl) T.m_range (pa_cons (pv 2) pa_nil)) (pg_name (i := 6) sc_law_heaps.nd rfl (.inl rfl))
        (pss_one (ps_for PassesOwn.never rfl (pi_range2 (by rfl) T.m_range (pa_cons pe_int (pa_cons (pe_op op_add pe_int (D0.pe_cal C_law_take (hr.mono (by decide)) (by rfl) (pa_cons (pv 0) (pa_cons pe_int pa_nil)))) pa_nil))) (pg_name (i := 7) sc_law_heaps.nd rfl (.inl rfl))
        (pss_one (ps_expr (pe_bm PySem.F.plainAttrs_list PySem.F.slot_list_append PySem.F.type_list_append mt_append (pv 5) (pa_cons (pe_tup (pa_cons (pe_ix ix_list (pv 4) (pe_callB call_len_seq (by rfl) T.m_len (by decide +kernel) (pa_cons (pv 5) pa_nil)) (fun _ _ => rfl)) (pa_cons pe_non (pa_cons (pe_tup (pa_cons (pe_tup (pa_cons (pv 6) (pa_cons pe_str (pa_cons (pv 7) pa_nil)))) pa_nil)) (pa_cons (pe_tup (pa_cons (pe_tup (pa_cons (pv 6) (pa_cons pe_str (pa_cons (pe_un un_neg (pv 7)) pa_nil)))) pa_nil)) pa_nil))))) pa_nil)))))))
      (pss_one (ps_ret (pe_tup (pa_cons (pv 3) (pa_cons (pe_callTy call_tuple_of (by rfl) T.m_tuple (by decide +kernel) (pa_cons (pv 5) pa_nil)) (pa_cons (pv 1) (pa_cons (pe_tup pa_nil) (pa_cons (pe_op op_add pe_int (D0.pe_cal C_law_take (hr.mono (by decide)) (by rfl) (pa_cons (pv 0) (pa_cons pe_int pa_nil)))) (pa_cons (D0.pe_cal C_law_pick (hr.mono (by decide)) (by rfl) (pa_cons (pv 0) (pa_cons (pe_lst (pa_cons pe_str (pa_cons pe_str pa_nil))) pa_nil))) pa_nil))))))))))))), ?_⟩
    refine ⟨_, rfl, d, c, 4, rfl, D, by decide, by decide, fun n0 H1 h0 h1 D1 k1 => ⟨1, n0, rfl, rfl, ?_⟩⟩
    obtain ⟨M, eM⟩ : ∃ M : Nat, 1 + n0 = (M : Int) := ⟨(1 + n0).toNat, by omega⟩
    have M1 : 1 ≤ M := by omega
    have M4 : M ≤ 4 := by omega
    show tSeq _ _ _ ((L2.start ["draw", "seats", "many", "begun", "names", "plays", "cell", "n", "k"] [V.ref d, V.int seats]).set 2 (some (V.int (1 + n0)))) H1
    rw [eM]
    dsimp only [tSeq, tAsg]
    refine ints_tup (K := K) (n := M) (Pk := fun _ x => 1 ≤ x ∧ x ≤ 9) D1 (by omega) rfl (fun k H' R hk D' r => ?_) (fun bv ns H2 hl hP D2 k2 tb => ?_)
    · exact ⟨_, rfl, d, c, 9, rfl, D', by decide, by decide, fun x H3 x0 x1 D3 k3 => ⟨1, x, rfl, rfl, r _ _ ⟨by omega, by omega⟩ D3 k3⟩⟩
    refine ⟨_, rfl, _, rfl, 3, M, rfl, rfl, .inl ⟨by decide, by decide⟩, d, c, 3 * M, (by rw [Int.natCast_mul]; rfl), D2, by omega, fun pN zs H3 D3 k3 nN Nd Nc hN hlz ndz nmz => ?_⟩
    refine ⟨Nat.zero_le _, fun pP nP => ⟨_, _, rfl, ?_⟩⟩
    have Pd := D3.nd nP
    have Pc := D3.nc nP
    have NP : pN ≠ pP := ne_of_none hN nP
    have k03 := (k1.trans k2).trans k3
    have nHP : H pP = none := k03.none Pd Pc nP
    have hls : ∀ x ∈ [(pN, zs.map V.str)], x.1 ≠ d ∧ x.1 ≠ c ∧ x.1 ≠ pP := fun x hx => by
      rw [List.mem_singleton.mp hx]
      exact ⟨Nd, Nc, NP⟩
    have I0 : HInv K H (upd H3 pP (.lst [])) d c pP [] [] [(pN, zs.map V.str)] [(bv, .tuple (ns.map PyData.int))] :=
      ⟨⟨D3.new nP, k03.trans (Kp.new nP), upd_same, .nil⟩, fun x hx => by
        rw [List.mem_singleton.mp hx, upd_ne NP]
        exact hN, fun x hx => by
        rw [List.mem_singleton.mp hx]
        exact (tb.keep (k3.tk D2)).keep (TK.of_same (new_same nP))⟩
    refine ⟨_, rfl, (M : Int), rfl, by omega, by omega, ?_⟩
    refine for_range (lo := 0) (n := (M : Int).toNat) (fun i σ H' => ∃ y6 y7 y8 xs ms, σ = [some (.ref d), some (.int seats), some (.int (M : Int)), some bv, some (.ref pN), some (.ref pP), y6, y7, y8] ∧
        HInv K H H' d c pP xs (List.map moveD ms) [(pN, zs.map V.str)] [(bv, .tuple (ns.map PyData.int))] ∧ i ≤ ms.length ∧ ms.length ≤ 3 * i ∧ (∀ m ∈ ms, MoveOk M seats m) ∧ ms.map (·.name) = zs.take ms.length)
      ⟨none, none, none, [], [], rfl, I0, Nat.le_refl _, Nat.le_refl _, (fun _ h => nomatch h), rfl⟩ ?_ ?_
    · rintro i σ H4 hi ⟨y6, y7, y8, xs, ms, rfl, I4, l0, l1, hm, hn⟩
      refine ⟨_, rfl, d, c, 3, rfl, I4.g.dr, by decide, by decide, fun t H5 t0 t1 D5 k5 => ⟨2, t, rfl, rfl, ?_⟩⟩
      have I5 := I4.go Pd Pc hls D5 k5
      refine ⟨1, 2 + t, rfl, ⟨by decide, by decide, by omega, by omega⟩, ?_⟩
      refine for_range (lo := 1) (n := (2 + t - 1).toNat) (fun j σ H' => ∃ y7 y8 xs ms, σ = [some (.ref d), some (.int seats), some (.int (M : Int)), some bv, some (.ref pN), some (.ref pP), some (.int (0 + (i : Int))), y7, y8] ∧
          HInv K H H' d c pP xs (List.map moveD ms) [(pN, zs.map V.str)] [(bv, .tuple (ns.map PyData.int))] ∧ i + j ≤ ms.length ∧ ms.length ≤ 3 * i + j ∧ (∀ m ∈ ms, MoveOk M seats m) ∧ ms.map (·.name) = zs.take ms.length)
        ⟨_, _, xs, ms, rfl, I5, by omega, by omega, hm, hn⟩ ?_ ?_
      · rintro j σ H6 hj ⟨y7, y8, xs, ms, rfl, I6, l2, l3, hm, hn⟩
        have hxl : xs.length = ms.length := by rw [I6.g.len, List.length_map]
        have hzl : ms.length < zs.length := by omega
        have hzm : zs[ms.length]? = some zs[ms.length] := List.getElem?_eq_getElem hzl
        refine ⟨_, rfl, .inl ⟨rfl, _, SqL.of I6.g.hp⟩, ?_⟩
        refine ⟨_, rfl, _, rfl, pP, xs, rfl, .inl (SqL.of I6.g.hp), pN, _, _, .str zs[ms.length], rfl, rfl, SqL.of (I6.l _ List.mem_cons_self), ?_, ?_⟩
        · rw [hxl]
          refine atI_nat ?_
          rw [List.getElem?_map, hzm]
          rfl
        refine ⟨_, rfl, _, rfl, Nat.le_of_lt (small1000 (show 3 ≤ 1000 by decide)), fun a1 n1 => ?_⟩
        refine ⟨Nat.le_of_lt (small1000 (show 1 ≤ 1000 by decide)), fun a2 n2 => ?_⟩
        refine ⟨_, rfl, _, rfl, _, rfl, Nat.le_of_lt (small1000 (show 3 ≤ 1000 by decide)), fun a3 n3 => ?_⟩
        refine ⟨Nat.le_of_lt (small1000 (show 1 ≤ 1000 by decide)), fun a4 n4 => ?_⟩
        refine ⟨Nat.le_of_lt (small1000 (show 4 ≤ 1000 by decide)), fun a5 n5 => ?_⟩
        have J := ((((I6.new (u := .tup [.int (0 + (i : Int)), .str (Str.ofString "least"), .int (1 + (j : Int))]) n1).new (u := .tup [.ref a1]) n2).new (u := .tup [.int (0 + (i : Int)), .str (Str.ofString "add"), .int (-(1 + (j : Int)))]) n3).new (u := .tup [.ref a3]) n4).new (u := .tup [.str zs[ms.length], .non, .ref a2, .ref a4]) n5
        have s2 := new_same (o := .tup [.ref a1]) n2
        have s3 := new_same (o := .tup [.int (0 + (i : Int)), .str (Str.ofString "add"), .int (-(1 + (j : Int)))]) n3
        have s4 := new_same (o := .tup [.ref a3]) n4
        have s5 := new_same (o := .tup [.str zs[ms.length], .non, .ref a2, .ref a4]) n5
        have T1 := (one_tup (K := K) (s2 _ _ upd_same) upd_same).keep (TK.of_same ((s3.trans s4).trans s5))
        have T2 := (one_tup (K := K) (s4 _ _ upd_same) upd_same).keep (TK.of_same s5)
        refine ⟨pP, _, _, rfl, rfl, J.g.hp, small1000 (by omega), _, _, xs ++ [.ref a5], ms ++ [⟨zs[ms.length], none, [(0 + (i : Int), Str.ofString "least", 1 + (j : Int))], [(0 + (i : Int), Str.ofString "add", -(1 + (j : Int)))]⟩], rfl, ?_, ?_, ?_, ?_, ?_⟩
        · rw [List.map_append]
          exact J.push Pd Pc hls nHP (.tup (.inl (.inl upd_same)) (.cons (.str _) (.cons .non (.cons T1 (.cons T2 .nil)))))
        · rw [List.length_append]
          show i + (j + 1) ≤ ms.length + 1
          omega
        · rw [List.length_append]
          show ms.length + 1 ≤ 3 * i + (j + 1)
          omega
        · intro m hmem
          rcases List.mem_append.mp hmem with h | h
          · exact hm m h
          · rw [List.mem_singleton.mp h]
            refine ⟨nmz _ (List.getElem_mem hzl), (fun _ h => by cases h), (by decide : 1 ≤ 4), fun t' ht => ?_, (by decide : 1 ≤ 1), (by decide : 1 ≤ 4), fun t' ht => ?_, List.nodup_cons.mpr ⟨by simp, List.nodup_nil⟩⟩
            · rw [List.mem_singleton.mp ht]
              refine ⟨⟨?_, ?_⟩, .inr (.inl rfl), ?_, ?_⟩
              · show 0 ≤ 0 + (i : Int); omega
              · show 0 + (i : Int) ≤ (M : Int) - 1; omega
              · show 0 ≤ 1 + (j : Int); omega
              · show 1 + (j : Int) ≤ 9; omega
            · rw [List.mem_singleton.mp ht]
              refine ⟨⟨?_, ?_⟩, .inr ⟨rfl, ?_, ?_⟩⟩
              · show 0 ≤ 0 + (i : Int); omega
              · show 0 + (i : Int) ≤ (M : Int) - 1; omega
              · show -9 ≤ -(1 + (j : Int)); omega
              · show -(1 + (j : Int)) ≤ 9; omega
        · exact take_push hn hzm
      · rintro σ H6 ⟨y7, y8, xs, ms, rfl, I6, l2, l3, hm, hn⟩
        exact ⟨_, _, _, xs, ms, rfl, I6, by omega, by omega, hm, hn⟩
    · rintro σ H4 ⟨y6, y7, y8, xs, ms, rfl, I4, l0, l1, hm, hn⟩
      refine ⟨_, rfl, _, rfl, pP, xs, rfl, .inl ⟨SqL.of I4.g.hp, fun a1 n1 => ?_⟩⟩
      have I5 := (I4.new (u := .tup xs) n1).add (v := .ref a1) (e := .tuple (ms.map moveD)) (.tup (.inl (.inl upd_same)) (I4.new (u := .tup xs) n1).g.td)
      refine ⟨_, rfl, Nat.zero_le _, fun a2 n2 => ?_⟩
      have I6 := (I5.new (u := .tup []) n2).add (v := .ref a2) (e := .tuple (([] : List EndD).map endD)) (.tup (.inl (.inl upd_same)) .nil)
      refine ⟨_, rfl, d, c, 60, rfl, I6.g.dr, by decide, by decide, fun t H7 t0 t1 D7 k7 => ⟨1, t, rfl, rfl, ?_⟩⟩
      have I7 := I6.go Pd Pc hls D7 k7
      refine ⟨_, rfl, Nat.le_of_lt (small1000 (show 2 ≤ 1000 by decide)), fun a3 n3 => ?_⟩
      have I8 := I7.new (u := .lst ([Str.ofString "lose", Str.ofString "even"].map V.str)) n3
      refine ⟨d, c, _, _, rfl, I8.g.dr, pick_strs (zs := [Str.ofString "lose", Str.ofString "even"]) (D7.nd n3) (D7.nc n3) (by decide) (by decide) upd_same, fun v H9 hv D9 k9 => ?_⟩
      obtain ⟨z, hz, rfl⟩ := hv
      have I9 := I8.go Pd Pc hls D9 k9
      refine ⟨Nat.le_of_lt (small1000 (show 6 ≤ 1000 by decide)), fun a4 n4 => ?_⟩
      have I10 := I9.new (u := .tup [bv, .ref a1, .int seats, .ref a2, .int (1 + t), .str z]) n4
      refine q _ ⟨ns, ms, seats, [], 1 + t, z⟩ _ I10.g.dr I10.g.kp (td_rule ⟨ns, ms, seats, [], 1 + t, z⟩ upd_same (I10.t (bv, .tuple (ns.map PyData.int)) (by simp)) (I10.t (.ref a1, .tuple (ms.map moveD)) (by simp)) (I10.t (.ref a2, .tuple (([] : List EndD).map endD)) (by simp))) ?_
      have lM : 3 * (M : Int).toNat ≤ 12 := by omega
      refine ⟨?_, ?_, fun x hx => ?_, s2, s4, ?_, ?_, ?_, names_take hn ndz, Nat.zero_le _, (fun _ h => nomatch h), ?_, ?_, ?_⟩
      · show 1 ≤ ns.length; omega
      · show ns.length ≤ 12; omega
      · obtain ⟨k, hk, e⟩ := List.mem_iff_getElem.mp hx
        have := hP k x (by rw [← e]; exact List.getElem?_eq_getElem hk)
        omega
      · show 1 ≤ ms.length; omega
      · show ms.length ≤ 16; omega
      · intro m hmem
        show MoveOk (ns.length : Int) seats m
        rw [hl]
        exact hm m hmem
      · show 1 ≤ 1 + t; omega
      · show 1 + t ≤ 60; omega
      · show z = _ ∨ z = _
        simp only [List.mem_cons, List.not_mem_nil, or_false] at hz
        exact hz
end
end PL
namespace PL
open PySem PySem.Spec PyProof.Rows L2 D0
theorem ints_arg {K : PySem.W.Frag} {H : Hp} {σ : L2.St} {d c : Addr} {te : TE} {t2 : TA} {i j n : Nat} {Pk : Nat → Int → Prop} {Q : List V → Hp → Prop} (hD : DrC H d c) (hn : n ≤ 1000) (hj : σ[j]? = some (some (.int n)))
    (helt : ∀ (k : Nat) (H' : Hp) (R : VK), k < n → DrC H' d c → (∀ x H2, Pk k x → DrC H2 d c → Kp d c H' H2 → R (.int x) H2) → te ((wipe σ [i]).set i (some (.int (0 + (k : Int))))) H' R)
    (q : ∀ (v : V) (ns : List Int) (H' : Hp), ns.length = n → (∀ k x, ns[k]? = some x → Pk k x) → DrC H' d c → Kp d c H H' → Td K H' v (.tuple (ns.map PyData.int)) → t2 σ H' fun vs H2 => Q (v :: vs) H2) :
    tCons (tCB (fun xs H Q => ∃ p ys, xs = [.ref p] ∧ ((SqL K H p ys ∧ ∀ l, H l = none → Q (.ref l) (upd H l (.tup ys))) ∨ (SqT K H p ys ∧ Q (.ref p) H))) (tCons (tLc (iRng1 (tCons (tVar j) tNil)) (gName i) tYes te [i]) tNil)) t2 σ H Q :=
  ints_tup (Q := fun x H1 => t2 σ H1 fun vs H2 => Q (x :: vs) H2) hD hn hj helt q
theorem tda_zip {K : PySem.W.Frag} {H : Hp} : ∀ {vs : List V} {ds : List PyData}, TdAll K H vs ds → ∀ x ∈ vs.zip ds, Td K H x.1 x.2
  | _, _, .nil, x, h => nomatch h
  | _, _, .cons a t, x, h => by
    rcases List.mem_cons.mp h with h | h
    · rw [h]; exact a
    · exact tda_zip t x h
theorem tda_of {K : PySem.W.Frag} {H : Hp} : ∀ (vs : List V) (ds : List PyData), vs.length = ds.length → (∀ x ∈ vs.zip ds, Td K H x.1 x.2) → TdAll K H vs ds
  | [], [], _, _ => .nil
  | [], _ :: _, e, _ => by cases e
  | _ :: _, [], e, _ => by cases e
  | v :: vs, d :: ds, e, h => .cons (h (v, d) List.mem_cons_self) (tda_of vs ds (Nat.succ.inj e) fun x hx => h x (List.mem_cons_of_mem _ hx))
theorem HInv.turn {K : PySem.W.Frag} {H H' : Hp} {d c p : Addr} {xs : List V} {ds : List PyData} {ls : List (Addr × List V)} {ts : List (V × PyData)} {q : Addr} {ys : List V} {es : List PyData} (I : HInv K H H' d c p xs ds ls ts)
    (hq : H' q = some (.lst ys)) (hy : TdAll K H' ys es) (ls' : List (Addr × List V)) (hl : ∀ x ∈ ls', x = (p, xs) ∨ x ∈ ls) : HInv K H H' d c q ys es ls' (xs.zip ds ++ ts) :=
  ⟨⟨I.g.dr, I.g.kp, hq, hy⟩, fun x hx => by
    rcases hl x hx with h | h
    · rw [h]; exact I.g.hp
    · exact I.l x h, fun x hx => by
    rcases List.mem_append.mp hx with h | h
    · exact tda_zip I.g.td x h
    · exact I.t x h⟩
theorem td3 {K : PySem.W.Frag} {H : Hp} {t : Addr} {a b : Int} {z : Str} (h : H t = some (.tup [.int a, .str z, .int b])) : Td K H (.ref t) (tripD (a, z, b)) :=
  .tup (.inl (.inl h)) (.cons (.int a) (.cons (.str z) (.cons (.int b) .nil)))
theorem rep_int (n : Int) : ∀ M : Nat, (List.replicate M [V.int n]).flatten = (List.replicate M n).map V.int
  | 0 => rfl
  | M + 1 => by
    rw [List.replicate_succ, List.flatten_cons, rep_int n M]
    rfl
theorem mm16 {s : Int} (h : s = 2 ∨ s = 3 ∨ s = 4) {m : Int} (h0 : 3 ≤ m) (h6 : m ≤ 6) : ∃ M : Nat, (if 16 / s < m then 16 / s else m) = (M : Int) ∧ 3 ≤ M ∧ M ≤ 6 ∧ s.toNat * M ≤ 16 := by
  rcases h with rfl | rfl | rfl
  · refine ⟨m.toNat, ?_, by omega, by omega, ?_⟩
    · rw [if_neg (by omega)]; omega
    · show 2 * m.toNat ≤ 16; omega
  · refine ⟨(if (16 : Int) / 3 < m then (16 : Int) / 3 else m).toNat, ?_, ?_, ?_, ?_⟩
    · split <;> omega
    · split <;> omega
    · split <;> omega
    · show 3 * _ ≤ 16
      split <;> omega
  · refine ⟨(if (16 : Int) / 4 < m then (16 : Int) / 4 else m).toNat, ?_, ?_, ?_, ?_⟩
    · split <;> omega
    · split <;> omega
    · split <;> omega
    · show 4 * _ ≤ 16
      split <;> omega
section
variable {P : Program} {w : World} {K : PySem.W.Frag} {mg : Str → Option Value} {base : Heap}
theorem ok_marks {f : Addr} {fd : FuncData} (F : Fun K "_law_marks" "_law_marks" s_law_marks f fd) (T : TM mg)
    (C_law_take : Cal P w K mg base "_law_take" 1 ["draw", "size"] spTake) (C_law_pick : Cal P w K mg base "_law_pick" 2 ["draw", "some"] (spPick K))
    (C_law_names : Cal P w K mg base "_law_names" 3 ["draw", "many"] spNames) : FnOk P w K mg base CX0 4 f fd ["draw", "seats"] (spRuleD K) := by
  refine F.ok sc_law_marks (fun vs H Q E h => ?_) (fun cdv A outer s H vs Q E hr h => ?_)
  · obtain ⟨d, c, s, rfl, _⟩ := h
    rfl
  · obtain ⟨d, c, seats, rfl, D, s2, s4, q⟩ := h
    have s234 : seats = 2 ∨ seats = 3 ∨ seats = 4 := by omega
    refine ⟨_, (C8.pss_cut (ps_set (i := 2) sc_law_marks.nd rfl (.inl rfl) (pe_op op_add pe_int (D0.pe_cal C_law_take (hr.mono (by decide)) (by rfl) (pa_cons (pv 0) (pa_cons (pe_ifExp (pt_cmpR op_gt (pv 1) pe_int (nomark _)) pe_int pe_int) pa_nil)))))
      (pss_cons (ps_set (i := 2) sc_law_marks.nd rfl (.inl rfl) (pe_callB (call_min2 rfl) (by rfl) T.m_min (by decide +kernel) (pa_cons (pv 2) (pa_cons (pe_op op_fdivW pe_int (pv 1)) pa_nil))))
      (pss_cons (ps_par3 (i := 3) (j := 4) (l := 5) (by rfl) sc_law_marks.nd rfl rfl rfl (by decide) (by decide) (by decide) rfl rfl rfl (pa_cons (D0.pe_cal C_law_names (hr.mono (by decide)) (by rfl) (pa_cons (pv 0) (pa_cons pe_int pa_nil))) (pa_cons (pe_lst pa_nil) (pa_cons (pe_lst pa_nil) pa_nil))) (by rfl))
      (pss_cons (ps_for PassesOwn.never rfl (pi_range1 (by rfl) T.m_range (pa_cons (pv 1) pa_nil)) (pg_name (i := 6) sc_law_marks.nd rfl (.inr rfl))
        (pss_one (ps_for PassesOwn.never rfl (pi_range1 (by rfl) T.m_range (pa_cons (pv 2) pa_nil)) (pg_name (i := 7) sc_law_marks.nd rfl (.inl rfl))
        (pss_one (ps_expr (pe_bm PySem.F.plainAttrs_list PySem.F.slot_list_append PySem.F.type_list_append mt_append (pv 4) (pa_cons (pe_tup (pa_cons (pe_ix ix_list (pv 3) (pe_callB call_len_seq (by rfl) T.m_len (by decide +kernel) (pa_cons (pv 4) pa_nil)) (fun _ _ => rfl)) (pa_cons (pv 6) (pa_cons (pe_tup (pa_cons (pe_tup (pa_cons (pv 7) (pa_cons pe_str (pa_cons pe_int pa_nil)))) pa_nil)) (pa_cons (pe_tup (pa_cons (pe_tup (pa_cons (pv 7) (pa_cons pe_str (pa_cons (pe_op op_add (pv 6) pe_int) pa_nil)))) pa_nil)) pa_nil))))) pa_nil)))))))
      (pss_cons (ps_for PassesOwn.never rfl (pi_range1 (by rfl) T.m_range (pa_cons (D0.pe_cal C_law_take (hr.mono (by decide)) (by rfl) (pa_cons (pv 0) (pa_cons pe_int pa_nil))) pa_nil)) (pg_name (i := 8) sc_law_marks.nd rfl (.inl rfl))
        (pss_cons (ps_asg (pe_tup (pa_cons (D0.pe_cal C_law_take (hr.mono (by decide)) (by rfl) (pa_cons (pv 0) (pa_cons (pv 1) pa_nil))) (pa_cons (D0.pe_cal C_law_take (hr.mono (by decide)) (by rfl) (pa_cons (pv 0) (pa_cons (pe_op op_sub (pv 2) pe_int) pa_nil))) pa_nil))) (pg_tup rfl (pgs_cons (pg_name (i := 6) sc_law_marks.nd rfl (.inr rfl)) (pgs_cons (pg_name (i := 7) sc_law_marks.nd rfl (.inl rfl)) pgs_nil))))
      (pss_cons (ps_set (i := 9) sc_law_marks.nd rfl (.inl rfl) (pe_tup (pa_cons (pe_tup (pa_cons (pv 7) (pa_cons pe_str (pa_cons (pe_op op_add (pv 6) pe_int) pa_nil)))) (pa_cons (pe_tup (pa_cons (pe_op op_add (pv 7) pe_int) (pa_cons pe_str (pa_cons (pe_op op_add (pv 6) pe_int) pa_nil)))) pa_nil))))
      (pss_one (ps_expr (pe_bm PySem.F.plainAttrs_list PySem.F.slot_list_append PySem.F.type_list_append mt_append (pv 5) (pa_cons (pe_tup (pa_cons (pv 9) (pa_cons (pe_callTy call_tuple_of (by rfl) T.m_tuple (by decide +kernel) (pa_cons (pe_lc (own := [("one", 12)]) (g := gName 12) rfl sc_law_marks.nd (pi_range1 (by rfl) T.m_range (pa_cons (pv 1) pa_nil)) (blkOk_by (own := [("one", 12)]) (N := ["draw", "seats", "many", "names", "plays", "closes", "player", "cell", "k", "tests", "longest", "halted", "one"]) (sc := defScope s_law_marks) (by decide +kernel)) (fun _ _ _ _ _ => pg_name (i := 12) sc_law_marks.nd rfl (Or.inl rfl)) (fun _ _ _ _ _ => pts_nil) (fun _ _ _ _ _ => (pe_op op_mul pe_int (pe_callTy call_int1 (by rfl) T.m_int (by decide +kernel) (pa_cons (pe_cmpR op_eq (pv 12) (pv 6) (nomark _)) pa_nil))))) pa_nil)) pa_nil))) pa_nil)))))))
      (pss_cons (ps_par (i := 10) (j := 11) (by rfl) sc_law_marks.nd rfl rfl (by decide) rfl rfl (pa_cons (pe_op op_add pe_int (D0.pe_cal C_law_take (hr.mono (by decide)) (by rfl) (pa_cons (pv 0) (pa_cons pe_int pa_nil)))) (pa_cons (D0.pe_cal C_law_pick (hr.mono (by decide)) (by rfl) (pa_cons (pv 0) (pa_cons (pe_lst (pa_cons pe_str (pa_cons pe_str pa_nil))) pa_nil))) pa_nil)) (by rfl))
      (pss_one (ps_ret (pe_tup (pa_cons (pe_op op_repT (pe_tup (pa_cons pe_int pa_nil)) (pv 2)) (pa_cons (pe_callTy call_tuple_of (by rfl) T.m_tuple (by decide +kernel) (pa_cons (pv 4) pa_nil)) (pa_cons (pv 1) (pa_cons (pe_callTy call_tuple_of (by rfl) T.m_tuple (by decide +kernel) (pa_cons (pv 5) pa_nil)) (pa_cons (pv 10) (pa_cons (pv 11) pa_nil))))))))))))))), ?_⟩
    refine ⟨fun σ H' => ∃ m : Int, σ = (L2.start ["draw", "seats", "many", "names", "plays", "closes", "player", "cell", "k", "tests", "longest", "halted", "one"] [V.ref d, V.int seats]).set 2 (some (.int m)) ∧ 3 ≤ m ∧ m ≤ 6 ∧ DrC H' d c ∧ Kp d c H H', ?_, ?_⟩
    · refine ⟨_, rfl, _, rfl, seats, 2, rfl, rfl, _, rfl, ?_⟩
      refine ite2 (fun e => ?_) (fun e => ?_)
      · exact ⟨d, c, 2, rfl, D, by decide, by decide, fun n0 H1 h0 h1 D1 k1 => ⟨3, n0, rfl, rfl, 3 + n0, rfl, by omega, by omega, D1, k1⟩⟩
      · exact ⟨d, c, 4, rfl, D, by decide, by decide, fun n0 H1 h0 h1 D1 k1 => ⟨3, n0, rfl, rfl, 3 + n0, rfl, by omega, by omega, D1, k1⟩⟩
    rintro σ H1 ⟨m, rfl, m3, m6, D1, k1⟩
    obtain ⟨M, eM, M3, M6, M16⟩ := mm16 s234 m3 m6
    obtain ⟨S, eS⟩ : ∃ S : Nat, seats = (S : Int) := ⟨seats.toNat, by omega⟩
    subst eS
    have M16' : S * M ≤ 16 := M16
    refine ⟨_, rfl, _, rfl, 16, (S : Int), rfl, rfl, ⟨by omega, ?_⟩, m, 16 / (S : Int), rfl, ?_⟩
    · have : ∀ j : Nat, j < 5 → j.log2 < 9000 := by decide
      exact this _ (by omega)
    rw [eM]
    refine ⟨_, rfl, d, c, 16, rfl, D1, by decide, fun pN zs H2 D2 k2 nN Nd Nc hN hlz ndz nmz => ?_⟩
    refine ⟨Nat.zero_le _, fun pP nP => ⟨Nat.zero_le _, fun pC nC => ⟨_, _, _, rfl, ?_⟩⟩⟩
    have Pd := D2.nd nP
    have Pc := D2.nc nP
    have D3 := D2.new (o := .lst []) nP
    have Cd := D3.nd nC
    have Cc := D3.nc nC
    have NP : pN ≠ pP := ne_of_none hN nP
    have hN3 : (upd H2 pP (.lst [])) pN = some (.lst (zs.map V.str)) := by rw [upd_ne NP]; exact hN
    have NC : pN ≠ pC := ne_of_none hN3 nC
    have PC : pP ≠ pC := ne_of_none (show (upd H2 pP (.lst [])) pP = some (.lst []) from upd_same) nC
    have k03 := (k1.trans k2)
    have nHP : H pP = none := k03.none Pd Pc nP
    have nHC : H pC = none := (k03.trans (Kp.new nP)).none Cd Cc nC
    have I0 : HInv K H (upd (upd H2 pP (.lst [])) pC (.lst [])) d c pP [] [] [(pN, zs.map V.str), (pC, [])] [] :=
      ⟨⟨D3.new nC, (k03.trans (Kp.new nP)).trans (Kp.new nC), by rw [upd_ne PC]; exact upd_same, .nil⟩, fun x hx => by
        simp only [List.mem_cons, List.not_mem_nil, or_false] at hx
        rcases hx with rfl | rfl
        · rw [upd_ne NC]; exact hN3
        · exact upd_same, fun _ h => nomatch h⟩
    have hls : ∀ x ∈ [(pN, zs.map V.str), (pC, [])], x.1 ≠ d ∧ x.1 ≠ c ∧ x.1 ≠ pP := fun x hx => by
      simp only [List.mem_cons, List.not_mem_nil, or_false] at hx
      rcases hx with rfl | rfl
      · exact ⟨Nd, Nc, NP⟩
      · exact ⟨Cd, Cc, PC.symm⟩
    refine ⟨_, rfl, (S : Int), rfl, by omega, by omega, ?_⟩
    refine for_range (lo := 0) (n := (S : Int).toNat) (fun i σ H' => ∃ y6 y7 xs ms, σ = [some (.ref d), some (.int (S : Int)), some (.int (M : Int)), some (.ref pN), some (.ref pP), some (.ref pC), y6, y7, none, none, none, none, none] ∧
        HInv K H H' d c pP xs (List.map moveD ms) [(pN, zs.map V.str), (pC, [])] [] ∧ ms.length = i * M ∧ (∀ m ∈ ms, MoveOk M S m) ∧ ms.map (·.name) = zs.take ms.length)
      ⟨none, none, [], [], rfl, I0, by simp, (fun _ h => nomatch h), rfl⟩ ?_ ?_
    · rintro i σ H4 hi ⟨y6, y7, xs, ms, rfl, I4, l0, hm, hn⟩
      have hi' : i < S := hi
      have hiM : (i + 1) * M ≤ S * M := Nat.mul_le_mul_right M hi'
      rw [Nat.add_mul, Nat.one_mul] at hiM
      refine ⟨_, rfl, (M : Int), rfl, by omega, by omega, ?_⟩
      refine for_range (lo := 0) (n := (M : Int).toNat) (fun j σ H' => ∃ y7 xs ms, σ = [some (.ref d), some (.int (S : Int)), some (.int (M : Int)), some (.ref pN), some (.ref pP), some (.ref pC), some (.int (0 + (i : Int))), y7, none, none, none, none, none] ∧
          HInv K H H' d c pP xs (List.map moveD ms) [(pN, zs.map V.str), (pC, [])] [] ∧ ms.length = i * M + j ∧ (∀ m ∈ ms, MoveOk M S m) ∧ ms.map (·.name) = zs.take ms.length)
        ⟨_, xs, ms, rfl, I4, by omega, hm, hn⟩ ?_ ?_
      · rintro j σ H6 hj ⟨y7, xs, ms, rfl, I6, l2, hm, hn⟩
        have hj' : j < M := hj
        have hxl : xs.length = ms.length := by rw [I6.g.len, List.length_map]
        have hzl : ms.length < zs.length := by omega
        have hzm : zs[ms.length]? = some zs[ms.length] := List.getElem?_eq_getElem hzl
        refine ⟨_, rfl, .inl ⟨rfl, _, SqL.of I6.g.hp⟩, ?_⟩
        refine ⟨_, rfl, _, rfl, pP, xs, rfl, .inl (SqL.of I6.g.hp), pN, _, _, .str zs[ms.length], rfl, rfl, SqL.of (I6.l (pN, zs.map V.str) (by simp)), ?_, ?_⟩
        · rw [hxl]
          refine atI_nat ?_
          rw [List.getElem?_map, hzm]
          rfl
        refine ⟨_, rfl, _, rfl, Nat.le_of_lt (small1000 (show 3 ≤ 1000 by decide)), fun a1 n1 => ?_⟩
        refine ⟨Nat.le_of_lt (small1000 (show 1 ≤ 1000 by decide)), fun a2 n2 => ?_⟩
        refine ⟨_, rfl, _, rfl, 0 + (i : Int), 1, rfl, rfl, Nat.le_of_lt (small1000 (show 3 ≤ 1000 by decide)), fun a3 n3 => ?_⟩
        refine ⟨Nat.le_of_lt (small1000 (show 1 ≤ 1000 by decide)), fun a4 n4 => ?_⟩
        refine ⟨Nat.le_of_lt (small1000 (show 4 ≤ 1000 by decide)), fun a5 n5 => ?_⟩
        have J := ((((I6.new (u := .tup [.int (0 + (j : Int)), .str (Str.ofString "is"), .int 0]) n1).new (u := .tup [.ref a1]) n2).new (u := .tup [.int (0 + (j : Int)), .str (Str.ofString "put"), .int (0 + (i : Int) + 1)]) n3).new (u := .tup [.ref a3]) n4).new (u := .tup [.str zs[ms.length], .int (0 + (i : Int)), .ref a2, .ref a4]) n5
        have s2 := new_same (o := .tup [.ref a1]) n2
        have s3 := new_same (o := .tup [.int (0 + (j : Int)), .str (Str.ofString "put"), .int (0 + (i : Int) + 1)]) n3
        have s4 := new_same (o := .tup [.ref a3]) n4
        have s5 := new_same (o := .tup [.str zs[ms.length], .int (0 + (i : Int)), .ref a2, .ref a4]) n5
        have T1 := (one_tup (K := K) (s2 _ _ upd_same) upd_same).keep (TK.of_same ((s3.trans s4).trans s5))
        have T2 := (one_tup (K := K) (s4 _ _ upd_same) upd_same).keep (TK.of_same s5)
        refine ⟨pP, _, _, rfl, rfl, J.g.hp, small1000 (by omega), _, xs ++ [.ref a5], ms ++ [⟨zs[ms.length], some (0 + (i : Int)), [(0 + (j : Int), Str.ofString "is", 0)], [(0 + (j : Int), Str.ofString "put", 0 + (i : Int) + 1)]⟩], rfl, ?_, ?_, ?_, ?_⟩
        · rw [List.map_append]
          exact J.push Pd Pc hls nHP (.tup (.inl (.inl upd_same)) (.cons (.str _) (.cons (.int _) (.cons T1 (.cons T2 .nil)))))
        · rw [List.length_append]
          show ms.length + 1 = i * M + (j + 1)
          omega
        · intro m hmem
          rcases List.mem_append.mp hmem with h | h
          · exact hm m h
          · rw [List.mem_singleton.mp h]
            refine ⟨nmz _ (List.getElem_mem hzl), (fun x h => by cases h; exact ⟨by omega, by omega⟩), (by decide : 1 ≤ 4), fun t' ht => ?_, (by decide : 1 ≤ 1), (by decide : 1 ≤ 4), fun t' ht => ?_, List.nodup_cons.mpr ⟨by simp, List.nodup_nil⟩⟩
            · rw [List.mem_singleton.mp ht]
              refine ⟨⟨?_, ?_⟩, .inl rfl, (by show (0 : Int) ≤ 0; decide), (by show (0 : Int) ≤ 9; decide)⟩
              · show 0 ≤ 0 + (j : Int); omega
              · show 0 + (j : Int) ≤ (M : Int) - 1; omega
            · rw [List.mem_singleton.mp ht]
              refine ⟨⟨?_, ?_⟩, .inl ⟨rfl, ?_, ?_⟩⟩
              · show 0 ≤ 0 + (j : Int); omega
              · show 0 + (j : Int) ≤ (M : Int) - 1; omega
              · show 0 ≤ 0 + (i : Int) + 1; omega
              · show 0 + (i : Int) + 1 ≤ 9; omega
        · exact take_push hn hzm
      · rintro σ H6 ⟨y7, xs, ms, rfl, I6, l2, hm, hn⟩
        refine ⟨_, _, xs, ms, rfl, I6, ?_, hm, hn⟩
        rw [Nat.add_mul, Nat.one_mul]
        exact l2
    · rintro σ H4 ⟨y6, y7, xs, ms, rfl, I4, l0, hm, hn⟩
      have lms : ms.length = S * M := l0
      have hSM : 2 * 3 ≤ S * M := Nat.mul_le_mul (by omega) M3
      have hxl : xs.length = ms.length := by rw [I4.g.len, List.length_map]
      have J0 := I4.turn (I4.l (pC, []) (by simp)) (.nil (K := K)) [(pP, xs)] (fun x hx => .inl (List.mem_singleton.mp hx))
      have hls2 : ∀ x ∈ [(pP, xs)], x.1 ≠ d ∧ x.1 ≠ c ∧ x.1 ≠ pC := fun x hx => by
        rw [List.mem_singleton.mp hx]
        exact ⟨Pd, Pc, PC⟩
      refine ⟨_, rfl, d, c, 7, rfl, J0.g.dr, by decide, by decide, fun n H5 n0 n1 D5 k5 => ⟨n, rfl, by omega, by omega, ?_⟩⟩
      have J1 := J0.go Cd Cc hls2 D5 k5
      refine for_range (lo := 0) (n := n.toNat) (fun i σ H' => ∃ y6 y7 y8 y9 ys es, σ = [some (.ref d), some (.int (S : Int)), some (.int (M : Int)), some (.ref pN), some (.ref pP), some (.ref pC), y6, y7, y8, y9, none, none, none] ∧
          HInv K H H' d c pC ys (List.map endD es) [(pP, xs)] (xs.zip (ms.map moveD) ++ []) ∧ es.length = i ∧ (∀ e ∈ es, EndOk M S e))
        ⟨_, _, _, _, [], [], rfl, J1, rfl, (fun _ h => nomatch h)⟩ ?_ ?_
      · rintro i σ H6 hi ⟨y6, y7, y8, y9, ys, es, rfl, J6, l2, he⟩
        have hyl : ys.length = es.length := by rw [J6.g.len, List.length_map]
        refine ⟨_, rfl, _, rfl, d, c, (S : Int), rfl, J6.g.dr, by omega, by omega, fun a H7 a0 a1 D7 k7 => ?_⟩
        have J7 := J6.go Cd Cc hls2 D7 k7
        refine ⟨_, rfl, _, rfl, (M : Int), 1, rfl, rfl, d, c, (M : Int) - 1, rfl, J7.g.dr, by omega, by omega, fun b H8 b0 b1 D8 k8 => ?_⟩
        have J8 := J7.go Cd Cc hls2 D8 k8
        refine ⟨Nat.le_of_lt (small1000 (show 2 ≤ 1000 by decide)), fun t1 n1 => ?_⟩
        have J9 := J8.new (u := .tup [.int a, .int b]) n1
        refine ⟨t1, _, rfl, .inl (.inl upd_same), rfl, _, _, rfl, _, _, rfl, rfl, ?_⟩
        refine ⟨_, rfl, _, rfl, a, 1, rfl, rfl, Nat.le_of_lt (small1000 (show 3 ≤ 1000 by decide)), fun t2 n2 => ?_⟩
        have J10 := J9.new (u := .tup [.int b, .str (Str.ofString "is"), .int (a + 1)]) n2
        refine ⟨_, rfl, b, 1, rfl, rfl, _, rfl, a, 1, rfl, rfl, Nat.le_of_lt (small1000 (show 3 ≤ 1000 by decide)), fun t3 n3 => ?_⟩
        have J11 := J10.new (u := .tup [.int (b + 1), .str (Str.ofString "is"), .int (a + 1)]) n3
        refine ⟨Nat.le_of_lt (small1000 (show 2 ≤ 1000 by decide)), fun t4 n4 => ?_⟩
        have J12 := J11.new (u := .tup [.ref t2, .ref t3]) n4
        have s3 := new_same (o := .tup [.int (b + 1), .str (Str.ofString "is"), .int (a + 1)]) n3
        have s4 := new_same (o := .tup [.ref t2, .ref t3]) n4
        have T2 := (td3 (K := K) (upd_same (H := upd H8 t1 (.tup [.int a, .int b])) (a := t2) (o := .tup [.int b, .str (Str.ofString "is"), .int (a + 1)]))).keep (TK.of_same (s3.trans s4))
        have T3 := (td3 (K := K) (s4 _ _ upd_same) : Td K _ (.ref t3) (tripD (b + 1, Str.ofString "is", a + 1)))
        have T4 : Td K (upd (upd (upd (upd H8 t1 (.tup [.int a, .int b])) t2 (.tup [.int b, .str (Str.ofString "is"), .int (a + 1)])) t3 (.tup [.int (b + 1), .str (Str.ofString "is"), .int (a + 1)])) t4 (.tup [.ref t2, .ref t3])) (.ref t4) (.tuple (([(b, Str.ofString "is", a + 1), (b + 1, Str.ofString "is", a + 1)] : List Trip).map tripD)) :=
          .tup (.inl (.inl upd_same)) (.cons T2 (.cons T3 .nil))
        refine ⟨_, rfl, .inl ⟨rfl, _, SqL.of J12.g.hp⟩, ?_⟩
        refine ⟨_, rfl, ?_⟩
        refine ints_arg (K := K) (n := S) (Pk := fun _ x => 0 ≤ x ∧ x ≤ 2) J12.g.dr (by omega) rfl (fun k H' R hk D' r => ?_) (fun pv ns H13 hl hP D13 k13 tb => ?_)
        · refine ⟨_, rfl, _, rfl, rfl, .inr ⟨_, rfl, 2, _, rfl, rfl, ?_⟩⟩
          refine ⟨?_, r _ _ ?_ D' Kp.refl⟩
          · exact .inl ⟨by decide, by decide⟩
          · split <;> exact ⟨by decide, by decide⟩
        have J13 := J12.go Cd Cc hls2 D13 k13
        have T5 := T4.keep (k13.tk J12.g.dr)
        refine ⟨Nat.le_of_lt (small1000 (show 2 ≤ 1000 by decide)), fun t5 n5 => ?_⟩
        have J14 := J13.new (u := .tup [.ref t4, pv]) n5
        have s5 := new_same (o := .tup [.ref t4, pv]) n5
        refine ⟨pC, _, _, rfl, rfl, J14.g.hp, small1000 (by omega), _, _, _, _, ys ++ [.ref t5], es ++ [⟨[(b, Str.ofString "is", a + 1), (b + 1, Str.ofString "is", a + 1)], ns⟩], rfl, ?_, ?_, ?_⟩
        · rw [List.map_append]
          exact J14.push Cd Cc hls2 nHC (.tup (.inl (.inl upd_same)) (.cons (T5.keep (TK.of_same s5)) (.cons (tb.keep (TK.of_same s5)) .nil)))
        · rw [List.length_append, l2]; rfl
        · intro e hmem
          rcases List.mem_append.mp hmem with h | h
          · exact he e h
          · rw [List.mem_singleton.mp h]
            refine ⟨(by decide : 2 ≤ 4), fun t' ht => ?_, by show ((ns.length : Nat) : Int) = _; rw [hl], fun x hx => ?_⟩
            · simp only [List.mem_cons, List.not_mem_nil, or_false] at ht
              rcases ht with rfl | rfl
              · exact ⟨⟨b0, by show b ≤ (M : Int) - 1; omega⟩, .inl rfl, by show 0 ≤ a + 1; omega, by show a + 1 ≤ 9; omega⟩
              · exact ⟨⟨by show 0 ≤ b + 1; omega, by show b + 1 ≤ (M : Int) - 1; omega⟩, .inl rfl, by show 0 ≤ a + 1; omega, by show a + 1 ≤ 9; omega⟩
            · obtain ⟨k, hk, e⟩ := List.mem_iff_getElem.mp hx
              have := hP k x (by rw [← e]; exact List.getElem?_eq_getElem hk)
              omega
      · rintro σ H6 ⟨y6, y7, y8, y9, ys, es, rfl, J6, l2, he⟩
        refine ⟨_, rfl, d, c, 60, rfl, J6.g.dr, by decide, by decide, fun t H7 t0 t1 D7 k7 => ⟨1, t, rfl, rfl, ?_⟩⟩
        have J7 := J6.go Cd Cc hls2 D7 k7
        refine ⟨_, rfl, Nat.le_of_lt (small1000 (show 2 ≤ 1000 by decide)), fun a3 n3 => ?_⟩
        have J8 := J7.new (u := .lst ([Str.ofString "lose", Str.ofString "even"].map V.str)) n3
        refine ⟨d, c, _, _, rfl, J8.g.dr, pick_strs (zs := [Str.ofString "lose", Str.ofString "even"]) (D7.nd n3) (D7.nc n3) (by decide) (by decide) upd_same, fun v H9 hv D9 k9 => ?_⟩
        obtain ⟨z, hz, rfl⟩ := hv
        have J9 := J8.go Cd Cc hls2 D9 k9
        refine ⟨_, _, rfl, ?_⟩
        refine ⟨Nat.le_of_lt (small1000 (show 1 ≤ 1000 by decide)), fun b1 m1 => ⟨_, rfl, b1, (M : Int), _, rfl, rfl, .inl (.inl upd_same), by simp, by omega, by omega, (by decide), fun b2 m2 => ?_⟩⟩
        have J10 := ((J9.new (u := .tup [.int 0]) m1).new (u := .tup (List.replicate (M : Int).toNat [V.int 0]).flatten) m2).add (v := .ref b2) (e := .tuple ((List.replicate M 0).map PyData.int)) (.tup (.inl (.inl upd_same)) (by
          rw [rep_int 0]
          exact TdAll.of_ints _))
        refine ⟨_, rfl, pP, xs, rfl, .inl ⟨SqL.of (J10.l (pP, xs) (by simp)), fun a1 n1 => ?_⟩⟩
        have A1 : TdAll K (upd (upd (upd H9 b1 (.tup [.int 0])) b2 (.tup (List.replicate (M : Int).toNat [V.int 0]).flatten)) a1 (.tup xs)) xs (ms.map moveD) :=
          tda_of _ _ (by rw [hxl, List.length_map]) fun x hx => (J10.new n1).t x (List.mem_cons_of_mem _ (List.mem_append_left _ hx))
        have J11 := (J10.new (u := .tup xs) n1).add (v := .ref a1) (e := .tuple (ms.map moveD)) (.tup (.inl (.inl upd_same)) A1)
        refine ⟨_, rfl, _, rfl, pC, ys, rfl, .inl ⟨SqL.of J11.g.hp, fun a2 n2 => ?_⟩⟩
        have J12 := (J11.new (u := .tup ys) n2).add (v := .ref a2) (e := .tuple (es.map endD)) (.tup (.inl (.inl upd_same)) (J11.new (u := .tup ys) n2).g.td)
        refine ⟨_, rfl, _, rfl, Nat.le_of_lt (small1000 (show 6 ≤ 1000 by decide)), fun a4 n4 => ?_⟩
        have J13 := J12.new (u := .tup [.ref b2, .ref a1, .int (S : Int), .ref a2, .int (1 + t), .str z]) n4
        refine q _ ⟨List.replicate M 0, ms, S, es, 1 + t, z⟩ _ J13.g.dr J13.g.kp (td_rule ⟨List.replicate M 0, ms, S, es, 1 + t, z⟩ upd_same (J13.t (.ref b2, .tuple ((List.replicate M 0).map PyData.int)) (by simp)) (J13.t (.ref a1, .tuple (ms.map moveD)) (by simp)) (J13.t (.ref a2, .tuple (es.map endD)) (by simp))) ?_
        have l2' : es.length ≤ 6 := by omega
        refine ⟨?_, ?_, fun x hx => ?_, s2, s4, ?_, ?_, ?_, names_take hn ndz, l2', ?_, ?_, ?_, ?_⟩
        · show 1 ≤ (List.replicate M (0 : Int)).length; rw [List.length_replicate]; omega
        · show (List.replicate M (0 : Int)).length ≤ 12; rw [List.length_replicate]; omega
        · rw [(List.mem_replicate.mp hx).2]; decide
        · show 1 ≤ ms.length; omega
        · show ms.length ≤ 16; omega
        · intro m hmem
          show MoveOk ((List.replicate M (0 : Int)).length : Int) S m
          rw [List.length_replicate]
          exact hm m hmem
        · intro e hmem
          show EndOk ((List.replicate M (0 : Int)).length : Int) S e
          rw [List.length_replicate]
          exact he e hmem
        · show 1 ≤ 1 + t; omega
        · show 1 + t ≤ 60; omega
        · show z = _ ∨ z = _
          simp only [List.mem_cons, List.not_mem_nil, or_false] at hz
          exact hz
end
end PL
namespace PL
open PySem PySem.Spec PyProof.Rows L2 D0
def byV : Option Int → V
  | none => .non
  | some i => .int i
theorem byV_td {K : PySem.W.Frag} {H : Hp} : ∀ o : Option Int, Td K H (byV o) (byD o)
  | none => .non
  | some i => .int i
section
variable {P : Program} {w : World} {K : PySem.W.Frag} {mg : Str → Option Value} {base : Heap}
theorem ok_mixed {f : Addr} {fd : FuncData} (F : Fun K "_law_mixed" "_law_mixed" s_law_mixed f fd) (T : TM mg)
    (C_law_take : Cal P w K mg base "_law_take" 1 ["draw", "size"] spTake) (C_law_pick : Cal P w K mg base "_law_pick" 2 ["draw", "some"] (spPick K))
    (C_law_names : Cal P w K mg base "_law_names" 3 ["draw", "many"] spNames)
    (C_law_tests : Cal P w K mg base "_law_tests" 3 ["draw", "many", "longest"] (spTestsD K)) (C_law_changes : Cal P w K mg base "_law_changes" 3 ["draw", "many"] (spChangesD K)) :
    FnOk P w K mg base CX0 4 f fd ["draw", "seats"] (spRuleD K) := by
  refine F.ok sc_law_mixed (fun vs H Q E h => ?_) (fun cdv A outer s H vs Q E hr h => ?_)
  · obtain ⟨d, c, s, rfl, _⟩ := h
    rfl
  · obtain ⟨d, c, seats, rfl, D, s2, s4, q⟩ := h
    refine ⟨_, (pss_cons (ps_set (i := 2) sc_law_mixed.nd rfl (.inl rfl) (pe_op op_add pe_int (D0.pe_cal C_law_take (hr.mono (by decide)) (by rfl) (pa_cons (pv 0) (pa_cons pe_int pa_nil)))))
      (pss_cons (ps_set (i := 3) sc_law_mixed.nd rfl (.inl rfl) (pe_callTy call_tuple_of (by rfl) T.m_tuple (by decide +kernel) (pa_cons (pe_lc (own := [("k", 7)]) (g := gName 7) rfl sc_law_mixed.nd (pi_range1 (by rfl) T.m_range (pa_cons (pv 2) pa_nil)) (blkOk_by (own := [("k", 7)]) (N := ["draw", "seats", "many", "begun", "names", "plays", "closes", "k", "by", "one"]) (sc := defScope s_law_mixed) (by decide +kernel)) (fun _ _ _ _ _ => pg_name (i := 7) sc_law_mixed.nd rfl (Or.inl rfl)) (fun _ _ _ _ _ => pts_nil) (fun _ _ _ _ _ => (D0.pe_cal C_law_take (hr.mono (by decide)) (by rfl) (pa_cons (pv 0) (pa_cons pe_int pa_nil))))) pa_nil)))
      (pss_cons (ps_par3 (i := 4) (j := 5) (l := 6) (by rfl) sc_law_mixed.nd rfl rfl rfl (by decide) (by decide) (by decide) rfl rfl rfl (pa_cons (D0.pe_cal C_law_names (hr.mono (by decide)) (by rfl) (pa_cons (pv 0) (pa_cons pe_int pa_nil))) (pa_cons (pe_lst pa_nil) (pa_cons (pe_lst pa_nil) pa_nil))) (by rfl))
      (pss_cons (ps_for PassesOwn.never rfl (pi_range1 (by rfl) T.m_range (pa_cons (pe_op op_add pe_int (D0.pe_cal C_law_take (hr.mono (by decide)) (by rfl) (pa_cons (pv 0) (pa_cons pe_int pa_nil)))) pa_nil)) (pg_name (i := 7) sc_law_mixed.nd rfl (.inl rfl))
        (pss_cons (ps_set (i := 8) sc_law_mixed.nd rfl (.inl rfl) (D0.pe_cal C_law_pick (hr.mono (by decide)) (by rfl) (pa_cons (pv 0) (pa_cons (pe_lst (pa_cons pe_non (pa_cons pe_non (pa_cons (D0.pe_cal C_law_take (hr.mono (by decide)) (by rfl) (pa_cons (pv 0) (pa_cons (pv 1) pa_nil))) pa_nil)))) pa_nil))))
      (pss_one (ps_expr (pe_bm PySem.F.plainAttrs_list PySem.F.slot_list_append PySem.F.type_list_append mt_append (pv 5) (pa_cons (pe_tup (pa_cons (pe_ix ix_list (pv 4) (pv 7) (fun _ _ => rfl)) (pa_cons (pv 8) (pa_cons (D0.pe_cal C_law_tests (hr.mono (by decide)) (by rfl) (pa_cons (pv 0) (pa_cons (pv 2) (pa_cons pe_int pa_nil)))) (pa_cons (D0.pe_cal C_law_changes (hr.mono (by decide)) (by rfl) (pa_cons (pv 0) (pa_cons (pv 2) pa_nil))) pa_nil))))) pa_nil))))))
      (pss_cons (ps_for PassesOwn.never rfl (pi_range1 (by rfl) T.m_range (pa_cons (D0.pe_cal C_law_take (hr.mono (by decide)) (by rfl) (pa_cons (pv 0) (pa_cons pe_int pa_nil))) pa_nil)) (pg_name (i := 7) sc_law_mixed.nd rfl (.inl rfl))
        (pss_one (ps_expr (pe_bm PySem.F.plainAttrs_list PySem.F.slot_list_append PySem.F.type_list_append mt_append (pv 6) (pa_cons (pe_tup (pa_cons (D0.pe_cal C_law_tests (hr.mono (by decide)) (by rfl) (pa_cons (pv 0) (pa_cons (pv 2) (pa_cons pe_int pa_nil)))) (pa_cons (pe_callTy call_tuple_of (by rfl) T.m_tuple (by decide +kernel) (pa_cons (pe_lc (own := [("one", 9)]) (g := gName 9) rfl sc_law_mixed.nd (pi_range1 (by rfl) T.m_range (pa_cons (pv 1) pa_nil)) (blkOk_by (own := [("one", 9)]) (N := ["draw", "seats", "many", "begun", "names", "plays", "closes", "k", "by", "one"]) (sc := defScope s_law_mixed) (by decide +kernel)) (fun _ _ _ _ _ => pg_name (i := 9) sc_law_mixed.nd rfl (Or.inl rfl)) (fun _ _ _ _ _ => pts_nil) (fun _ _ _ _ _ => (D0.pe_cal C_law_take (hr.mono (by decide)) (by rfl) (pa_cons (pv 0) (pa_cons pe_int pa_nil))))) pa_nil)) pa_nil))) pa_nil)))))
      (pss_one (ps_ret (pe_tup (pa_cons (pv 3) (pa_cons (pe_callTy call_tuple_of (by rfl) T.m_tuple (by decide +kernel) (pa_cons (pv 5) pa_nil)) (pa_cons (pv 1) (pa_cons (pe_callTy call_tuple_of (by rfl) T.m_tuple (by decide +kernel) (pa_cons (pv 6) pa_nil)) (pa_cons (pe_op op_add pe_int (D0.pe_cal C_law_take (hr.mono (by decide)) (by rfl) (pa_cons (pv 0) (pa_cons pe_int pa_nil)))) (pa_cons (D0.pe_cal C_law_pick (hr.mono (by decide)) (by rfl) (pa_cons (pv 0) (pa_cons (pe_lst (pa_cons pe_str (pa_cons pe_str pa_nil))) pa_nil))) pa_nil)))))))))))))), ?_⟩
    obtain ⟨S, eS⟩ : ∃ S : Nat, seats = (S : Int) := ⟨seats.toNat, by omega⟩
    subst eS
    refine ⟨_, rfl, d, c, 12, rfl, D, by decide, by decide, fun n0 H0 h0 h1 D0' k0 => ⟨1, n0, rfl, rfl, ?_⟩⟩
    obtain ⟨M, eM⟩ : ∃ M : Nat, 1 + n0 = (M : Int) := ⟨(1 + n0).toNat, by omega⟩
    have M1 : 1 ≤ M := by omega
    have M12 : M ≤ 12 := by omega
    show tSeq _ _ _ ((L2.start ["draw", "seats", "many", "begun", "names", "plays", "closes", "k", "by", "one"] [V.ref d, V.int (S : Int)]).set 2 (some (V.int (1 + n0)))) H0
    rw [eM]
    dsimp only [tSeq, tAsg]
    refine ints_tup (K := K) (n := M) (Pk := fun _ x => 0 ≤ x ∧ x ≤ 9) D0' (by omega) rfl (fun k H' R hk D' r => ?_) (fun bv ns H1 hl hP D1 k1 tb => ?_)
    · exact ⟨_, rfl, d, c, 10, rfl, D', by decide, by decide, fun x H3 x0 x1 D3 k3 => r _ _ ⟨x0, by omega⟩ D3 k3⟩
    refine ⟨_, rfl, d, c, 16, rfl, D1, by decide, fun pN zs H2 D2 k2 nN Nd Nc hN hlz ndz nmz => ?_⟩
    refine ⟨Nat.zero_le _, fun pP nP => ⟨Nat.zero_le _, fun pC nC => ⟨_, _, _, rfl, ?_⟩⟩⟩
    have Pd := D2.nd nP
    have Pc := D2.nc nP
    have D3 := D2.new (o := .lst []) nP
    have Cd := D3.nd nC
    have Cc := D3.nc nC
    have NP : pN ≠ pP := ne_of_none hN nP
    have hN3 : (upd H2 pP (.lst [])) pN = some (.lst (zs.map V.str)) := by rw [upd_ne NP]; exact hN
    have NC : pN ≠ pC := ne_of_none hN3 nC
    have PC : pP ≠ pC := ne_of_none (show (upd H2 pP (.lst [])) pP = some (.lst []) from upd_same) nC
    have k03 := ((k0.trans k1).trans k2)
    have nHP : H pP = none := k03.none Pd Pc nP
    have nHC : H pC = none := (k03.trans (Kp.new nP)).none Cd Cc nC
    have I0 : HInv K H (upd (upd H2 pP (.lst [])) pC (.lst [])) d c pP [] [] [(pN, zs.map V.str), (pC, [])] [(bv, .tuple (ns.map PyData.int))] :=
      ⟨⟨D3.new nC, (k03.trans (Kp.new nP)).trans (Kp.new nC), by rw [upd_ne PC]; exact upd_same, .nil⟩, fun x hx => by
        simp only [List.mem_cons, List.not_mem_nil, or_false] at hx
        rcases hx with rfl | rfl
        · rw [upd_ne NC]; exact hN3
        · exact upd_same, fun x hx => by
        rw [List.mem_singleton.mp hx]
        exact ((tb.keep (k2.tk D1)).keep (TK.of_same (new_same nP))).keep (TK.of_same (new_same nC))⟩
    have hls : ∀ x ∈ [(pN, zs.map V.str), (pC, [])], x.1 ≠ d ∧ x.1 ≠ c ∧ x.1 ≠ pP := fun x hx => by
      simp only [List.mem_cons, List.not_mem_nil, or_false] at hx
      rcases hx with rfl | rfl
      · exact ⟨Nd, Nc, NP⟩
      · exact ⟨Cd, Cc, PC.symm⟩
    refine ⟨_, rfl, d, c, 16, rfl, I0.g.dr, by decide, by decide, fun n H3 m0 m1 D3 k3 => ⟨1, n, rfl, rfl, 1 + n, rfl, by omega, by omega, ?_⟩⟩
    have I1 := I0.go Pd Pc hls D3 k3
    refine for_range (lo := 0) (n := (1 + n).toNat) (fun i σ H' => ∃ y7 y8 xs ms, σ = [some (.ref d), some (.int (S : Int)), some (.int (M : Int)), some bv, some (.ref pN), some (.ref pP), some (.ref pC), y7, y8, none] ∧
        HInv K H H' d c pP xs (List.map moveD ms) [(pN, zs.map V.str), (pC, [])] [(bv, .tuple (ns.map PyData.int))] ∧ ms.length = i ∧ (∀ m ∈ ms, MoveOk M S m) ∧ ms.map (·.name) = zs.take ms.length)
      ⟨none, none, [], [], rfl, I1, rfl, (fun _ h => nomatch h), rfl⟩ ?_ ?_
    · rintro i σ H4 hi ⟨y7, y8, xs, ms, rfl, I4, l0, hm, hn⟩
      have hi' : i < 16 := by omega
      have hxl : xs.length = ms.length := by rw [I4.g.len, List.length_map]
      have hzl : ms.length < zs.length := by omega
      have hzm : zs[ms.length]? = some zs[ms.length] := List.getElem?_eq_getElem hzl
      refine ⟨_, rfl, _, rfl, _, rfl, d, c, (S : Int), rfl, I4.g.dr, by omega, by omega, fun b H5 b0 b1 D5 k5 => ?_⟩
      have I5 := I4.go Pd Pc hls D5 k5
      refine ⟨Nat.le_of_lt (small1000 (show 3 ≤ 1000 by decide)), fun a1 n1 => ?_⟩
      have I6 := I5.new (u := .lst [.non, .non, .int b]) n1
      refine ⟨d, c, _, (fun v => ∃ o : Option Int, v = byV o ∧ ∀ i, o = some i → 0 ≤ i ∧ i ≤ (S : Int) - 1), rfl, I6.g.dr, .inl ⟨a1, _, rfl, SqL.of upd_same, D5.nd n1, D5.nc n1, (show 0 < 3 by decide), (show 3 ≤ 1000 by decide), fun v hv => ?_⟩, fun v H7 hv D7 k7 => ?_⟩
      · simp only [List.mem_cons, List.not_mem_nil, or_false] at hv
        rcases hv with rfl | rfl | rfl
        · exact ⟨none, rfl, fun _ h => by cases h⟩
        · exact ⟨none, rfl, fun _ h => by cases h⟩
        · exact ⟨some b, rfl, fun _ h => by cases h; exact ⟨b0, by omega⟩⟩
      obtain ⟨o, rfl, ho⟩ := hv
      have I7 := I6.go Pd Pc hls D7 k7
      refine ⟨_, rfl, .inl ⟨rfl, _, SqL.of I7.g.hp⟩, ?_⟩
      refine ⟨_, rfl, _, rfl, pN, _, _, .str zs[ms.length], rfl, rfl, SqL.of (I7.l (pN, zs.map V.str) (by simp)), ?_, ?_⟩
      · rw [Int.zero_add]
        refine atI_nat ?_
        rw [← l0, List.getElem?_map, hzm]
        rfl
      refine ⟨_, rfl, _, rfl, _, rfl, d, c, (M : Int), 2, rfl, I7.g.dr, by omega, by omega, by decide, by decide, fun tv ts H8 D8 k8 tt lt ot => ?_⟩
      have I8 := (I7.go Pd Pc hls D8 k8).add tt
      refine ⟨_, rfl, _, rfl, d, c, (M : Int), rfl, I8.g.dr, by omega, by omega, fun cv cs H9 D9 k9 tc lc1 lc4 oc ndc => ?_⟩
      have I9 := (I8.go Pd Pc hls D9 k9).add tc
      refine ⟨Nat.le_of_lt (small1000 (show 4 ≤ 1000 by decide)), fun a5 n5 => ?_⟩
      have J := I9.new (u := .tup [.str zs[ms.length], byV o, tv, cv]) n5
      refine ⟨pP, _, _, rfl, rfl, J.g.hp, small1000 (by omega), _, _, xs ++ [.ref a5], ms ++ [⟨zs[ms.length], o, ts, cs⟩], rfl, ?_, ?_, ?_, ?_⟩
      · rw [List.map_append]
        have J' := J.push Pd Pc hls nHP (e := moveD ⟨zs[ms.length], o, ts, cs⟩) (.tup (.inl (.inl upd_same)) (.cons (.str _) (.cons (byV_td o) (.cons (J.t (tv, .tuple (ts.map tripD)) (by simp)) (.cons (J.t (cv, .tuple (cs.map tripD)) (by simp)) .nil)))))
        exact ⟨J'.g, J'.l, fun x hx => J'.t x (List.mem_cons_of_mem _ (List.mem_cons_of_mem _ hx))⟩
      · rw [List.length_append]
        show ms.length + 1 = i + 1
        omega
      · intro m hmem
        rcases List.mem_append.mp hmem with h | h
        · exact hm m h
        · rw [List.mem_singleton.mp h]
          exact ⟨nmz _ (List.getElem_mem hzl), ho, by show ts.length ≤ 4; omega, ot, lc1, lc4, oc, ndc⟩
      · exact take_push hn hzm
    · rintro σ H4 ⟨y7, y8, xs, ms, rfl, I4, l0, hm, hn⟩
      have lms : ms.length = (1 + n).toNat := l0
      have hxl : xs.length = ms.length := by rw [I4.g.len, List.length_map]
      have J0 := I4.turn (I4.l (pC, []) (by simp)) (.nil (K := K)) [(pP, xs)] (fun x hx => .inl (List.mem_singleton.mp hx))
      have hls2 : ∀ x ∈ [(pP, xs)], x.1 ≠ d ∧ x.1 ≠ c ∧ x.1 ≠ pC := fun x hx => by
        rw [List.mem_singleton.mp hx]
        exact ⟨Pd, Pc, PC⟩
      refine ⟨_, rfl, d, c, 4, rfl, J0.g.dr, by decide, by decide, fun n' H5 n0' n1' D5 k5 => ⟨n', rfl, by omega, by omega, ?_⟩⟩
      have J1 := J0.go Cd Cc hls2 D5 k5
      refine for_range (lo := 0) (n := n'.toNat) (fun i σ H' => ∃ y7 y8 ys es, σ = [some (.ref d), some (.int (S : Int)), some (.int (M : Int)), some bv, some (.ref pN), some (.ref pP), some (.ref pC), y7, y8, none] ∧
          HInv K H H' d c pC ys (List.map endD es) [(pP, xs)] (xs.zip (ms.map moveD) ++ [(bv, PyData.tuple (ns.map PyData.int))]) ∧ es.length = i ∧ (∀ e ∈ es, EndOk M S e))
        ⟨_, _, [], [], rfl, J1, rfl, (fun _ h => nomatch h)⟩ ?_ ?_
      · rintro i σ H6 hi ⟨y7, y8, ys, es, rfl, J6, l2, he⟩
        have hyl : ys.length = es.length := by rw [J6.g.len, List.length_map]
        refine ⟨_, rfl, .inl ⟨rfl, _, SqL.of J6.g.hp⟩, ?_⟩
        refine ⟨_, rfl, _, rfl, d, c, (M : Int), 4, rfl, J6.g.dr, by omega, by omega, by decide, by decide, fun tv ts H8 D8 k8 tt lt ot => ?_⟩
        have J8 := (J6.go Cd Cc hls2 D8 k8).add tt
        refine ints_arg (K := K) (n := S) (Pk := fun _ x => 0 ≤ x ∧ x ≤ 4) J8.g.dr (by omega) rfl (fun k H' R hk D' r => ?_) (fun pv ns' H13 hl' hP' D13 k13 tb' => ?_)
        · exact ⟨_, rfl, d, c, 5, rfl, D', by decide, by decide, fun x H3 x0 x1 D3 k3 => r _ _ ⟨x0, by omega⟩ D3 k3⟩
        have J13 := (J8.go Cd Cc hls2 D13 k13).add tb'
        refine ⟨Nat.le_of_lt (small1000 (show 2 ≤ 1000 by decide)), fun t5 n5 => ?_⟩
        have J14 := J13.new (u := .tup [tv, pv]) n5
        refine ⟨pC, _, _, rfl, rfl, J14.g.hp, small1000 (by omega), _, _, ys ++ [.ref t5], es ++ [⟨ts, ns'⟩], rfl, ?_, ?_, ?_⟩
        · rw [List.map_append]
          have J' := J14.push Cd Cc hls2 nHC (e := endD ⟨ts, ns'⟩) (.tup (.inl (.inl upd_same)) (.cons (J14.t (tv, .tuple (ts.map tripD)) (by simp)) (.cons (J14.t (pv, .tuple (ns'.map PyData.int)) (by simp)) .nil)))
          exact ⟨J'.g, J'.l, fun x hx => J'.t x (List.mem_cons_of_mem _ (List.mem_cons_of_mem _ hx))⟩
        · rw [List.length_append, l2]; rfl
        · intro e hmem
          rcases List.mem_append.mp hmem with h | h
          · exact he e h
          · rw [List.mem_singleton.mp h]
            refine ⟨by show ts.length ≤ 4; omega, ot, by show ((ns'.length : Nat) : Int) = _; rw [hl'], fun x hx => ?_⟩
            obtain ⟨k, hk, e⟩ := List.mem_iff_getElem.mp hx
            have := hP' k x (by rw [← e]; exact List.getElem?_eq_getElem hk)
            omega
      · rintro σ H6 ⟨y7, y8, ys, es, rfl, J6, l2, he⟩
        refine ⟨_, rfl, _, rfl, pP, xs, rfl, .inl ⟨SqL.of (J6.l (pP, xs) (by simp)), fun a1 n1 => ?_⟩⟩
        have A1 : TdAll K (upd H6 a1 (.tup xs)) xs (ms.map moveD) :=
          tda_of _ _ (by rw [hxl, List.length_map]) fun x hx => (J6.new n1).t x (List.mem_append_left _ hx)
        have J11 := (J6.new (u := .tup xs) n1).add (v := .ref a1) (e := .tuple (ms.map moveD)) (.tup (.inl (.inl upd_same)) A1)
        refine ⟨_, rfl, _, rfl, pC, ys, rfl, .inl ⟨SqL.of J11.g.hp, fun a2 n2 => ?_⟩⟩
        have J12 := (J11.new (u := .tup ys) n2).add (v := .ref a2) (e := .tuple (es.map endD)) (.tup (.inl (.inl upd_same)) (J11.new (u := .tup ys) n2).g.td)
        refine ⟨_, rfl, d, c, 60, rfl, J12.g.dr, by decide, by decide, fun t H7 t0 t1 D7 k7 => ⟨1, t, rfl, rfl, ?_⟩⟩
        have J7 := J12.go Cd Cc hls2 D7 k7
        refine ⟨_, rfl, Nat.le_of_lt (small1000 (show 2 ≤ 1000 by decide)), fun a3 n3 => ?_⟩
        have J8 := J7.new (u := .lst ([Str.ofString "lose", Str.ofString "even"].map V.str)) n3
        refine ⟨d, c, _, _, rfl, J8.g.dr, pick_strs (zs := [Str.ofString "lose", Str.ofString "even"]) (D7.nd n3) (D7.nc n3) (by decide) (by decide) upd_same, fun v H9 hv D9 k9 => ?_⟩
        obtain ⟨z, hz, rfl⟩ := hv
        have J9 := J8.go Cd Cc hls2 D9 k9
        refine ⟨Nat.le_of_lt (small1000 (show 6 ≤ 1000 by decide)), fun a4 n4 => ?_⟩
        have J13 := J9.new (u := .tup [bv, .ref a1, .int (S : Int), .ref a2, .int (1 + t), .str z]) n4
        refine q _ ⟨ns, ms, S, es, 1 + t, z⟩ _ J13.g.dr J13.g.kp (td_rule ⟨ns, ms, S, es, 1 + t, z⟩ upd_same (J13.t (bv, .tuple (ns.map PyData.int)) (by simp)) (J13.t (.ref a1, .tuple (ms.map moveD)) (by simp)) (J13.t (.ref a2, .tuple (es.map endD)) (by simp))) ?_
        have l2' : es.length ≤ 6 := by omega
        refine ⟨?_, ?_, fun x hx => ?_, s2, s4, ?_, ?_, ?_, names_take hn ndz, l2', ?_, ?_, ?_, ?_⟩
        · show 1 ≤ ns.length; omega
        · show ns.length ≤ 12; omega
        · obtain ⟨k, hk, e⟩ := List.mem_iff_getElem.mp hx
          exact hP k x (by rw [← e]; exact List.getElem?_eq_getElem hk)
        · show 1 ≤ ms.length; omega
        · show ms.length ≤ 16; omega
        · intro m hmem
          show MoveOk (ns.length : Int) S m
          rw [hl]
          exact hm m hmem
        · intro e hmem
          show EndOk (ns.length : Int) S e
          rw [hl]
          exact he e hmem
        · show 1 ≤ 1 + t; omega
        · show 1 + t ≤ 60; omega
        · show z = _ ∨ z = _
          simp only [List.mem_cons, List.not_mem_nil, or_false] at hz
          exact hz
def spRuleR (K : PySem.W.Frag) : Sp := fun vs H Q _ => ∃ (d c : Addr), vs = [.ref d] ∧ DrC H d c ∧ ∀ v r H', DrC H' d c → Kp d c H H' → Td K H' v (ruleD r) → RuleOk r → Q v H'
theorem ok_rule {f : Addr} {fd : FuncData} (F : Fun K "_law_rule" "_law_rule" s_law_rule f fd)
    (C_law_take : Cal P w K mg base "_law_take" 1 ["draw", "size"] spTake) (C_law_pick : Cal P w K mg base "_law_pick" 2 ["draw", "some"] (spPick K))
    (C_law_heaps : Cal P w K mg base "_law_heaps" 4 ["draw", "seats"] (spRuleD K)) (C_law_marks : Cal P w K mg base "_law_marks" 4 ["draw", "seats"] (spRuleD K)) (C_law_mixed : Cal P w K mg base "_law_mixed" 4 ["draw", "seats"] (spRuleD K)) :
    FnOk P w K mg base CX0 5 f fd ["draw"] (spRuleR K) := by
  refine F.ok sc_law_rule (fun vs H Q E h => ?_) (fun cdv A outer s H vs Q E hr h => ?_)
  · obtain ⟨d, c, rfl, _⟩ := h
    rfl
  · obtain ⟨d, c, rfl, D, q⟩ := h
    refine ⟨_, (pss_cons (ps_set (i := 1) sc_law_rule.nd rfl (.inl rfl) (D0.pe_cal C_law_pick (hr.mono (by decide)) (by rfl) (pa_cons (pv 0) (pa_cons (pe_lst (pa_cons pe_int (pa_cons pe_int (pa_cons pe_int (pa_cons pe_int pa_nil))))) pa_nil))))
      (pss_cons (ps_set (i := 2) sc_law_rule.nd rfl (.inl rfl) (D0.pe_cal C_law_take (hr.mono (by decide)) (by rfl) (pa_cons (pv 0) (pa_cons pe_int pa_nil))))
      (pss_cons (ps_if (pt_cmpR op_eq (pv 2) pe_int (nomark _))
        (pss_one (ps_ret (D0.pe_cal C_law_heaps (hr.mono (by decide)) (by rfl) (pa_cons (pv 0) (pa_cons (pv 1) pa_nil)))))
        pss_nil)
      (pss_one (ps_ret (pe_ifExp (pt_cmpR op_eq (pv 2) pe_int (nomark _)) (D0.pe_cal C_law_marks (hr.mono (by decide)) (by rfl) (pa_cons (pv 0) (pa_cons (pv 1) pa_nil))) (D0.pe_cal C_law_mixed (hr.mono (by decide)) (by rfl) (pa_cons (pv 0) (pa_cons (pv 1) pa_nil))))))))), ?_⟩
    refine ⟨_, rfl, Nat.le_of_lt (small1000 (show 4 ≤ 1000 by decide)), fun a1 n1 => ?_⟩
    have D1 := D.new (o := .lst ([2, 2, 3, 4].map V.int)) n1
    refine ⟨d, c, _, _, rfl, D1, pick_ints (zs := [2, 2, 3, 4]) (D.nd n1) (D.nc n1) (by decide) (by decide) upd_same, fun v H2 hv D2 k2 => ?_⟩
    obtain ⟨x, hx, rfl⟩ := hv
    obtain ⟨x2, x4⟩ := (show ∀ x ∈ ([2, 2, 3, 4] : List Int), 2 ≤ x ∧ x ≤ 4 by decide) x hx
    refine ⟨_, rfl, d, c, 3, rfl, D2, by decide, by decide, fun y H3 y0 y1 D3 k3 => ?_⟩
    have k03 := ((Kp.new (d := d) (c := c) (o := .lst ([2, 2, 3, 4].map V.int)) n1).trans k2).trans k3
    refine ⟨_, rfl, rfl, _, rfl, ite2 (fun e => ?_) (fun e => ?_)⟩
    · exact ⟨_, rfl, _, rfl, d, c, x, rfl, D3, x2, x4, fun v r H' D' k' t o => q v r H' D' (k03.trans k') t o⟩
    · refine ⟨_, rfl, rfl, _, rfl, ite2 (fun e => ?_) (fun e => ?_)⟩
      · exact ⟨_, rfl, _, rfl, d, c, x, rfl, D3, x2, x4, fun v r H' D' k' t o => q v r H' D' (k03.trans k') t o⟩
      · exact ⟨_, rfl, _, rfl, d, c, x, rfl, D3, x2, x4, fun v r H' D' k' t o => q v r H' D' (k03.trans k') t o⟩
end
end PL
namespace PL
open PySem PySem.Spec PyProof.Rows L2 D0
/-! ### data that can be shown and compared -/
structure Okd (d : PyData) (n b : Nat) : Prop where
  show_ : d.showable = true
  nod : d.hasDict = false
  lay : d.canLay0 = true
  dep : d.depth ≤ n
  len : d.shown.length ≤ b
theorem Okd.mono {d : PyData} {n b n' b' : Nat} (o : Okd d n b) (hn : n ≤ n') (hb : b ≤ b') : Okd d n' b' := ⟨o.show_, o.nod, o.lay, Nat.le_trans o.dep hn, Nat.le_trans o.len hb⟩
theorem okd_all {n b : Nat} : ∀ (ds : List PyData), (∀ d ∈ ds, Okd d n b) → PyData.showableAll ds = true ∧ PyData.hasDictAll ds = false ∧ PyData.canLayAll0 ds = true ∧ PyData.depthAll ds ≤ n ∧ piled (PyData.shownAll ds) ≤ ds.length * (b + 2) ∧ (PyData.shownAll ds).length = ds.length
  | [], _ => by refine ⟨by simp only [PyData.showableAll], by simp only [PyData.hasDictAll], by simp only [PyData.canLayAll0], by simp only [PyData.depthAll]; omega, by simp only [PyData.shownAll]; exact Nat.zero_le _, by simp only [PyData.shownAll]; rfl⟩
  | d :: ds, h => by
    obtain ⟨h1, h2, h3, h4, h5, h6⟩ := okd_all ds fun x hx => h x (List.mem_cons_of_mem _ hx)
    have o := h d List.mem_cons_self
    refine ⟨?_, ?_, ?_, ?_, ?_, ?_⟩
    · simp only [PyData.showableAll, o.show_, h1, Bool.and_self]
    · simp only [PyData.hasDictAll, o.nod, h2, Bool.or_self]
    · simp only [PyData.canLayAll0, o.lay, h3, Bool.and_self]
    · simp only [PyData.depthAll]
      have := o.dep
      omega
    · simp only [PyData.shownAll, piled_cons, List.length_cons, Nat.add_mul, Nat.one_mul]
      have := o.len
      omega
    · simp only [PyData.shownAll, List.length_cons, h6]
theorem okd_tup {ds : List PyData} {n b m : Nat} (h : ∀ d ∈ ds, Okd d n b) (hm : ds.length ≤ m) : Okd (.tuple ds) (n + 1) (m * (b + 2) + 3) := by
  obtain ⟨h1, h2, h3, h4, h5, h6⟩ := okd_all ds h
  refine ⟨by simpa only [PyData.showable] using h1, by simpa only [PyData.hasDict] using h2, by simpa only [PyData.canLay0] using h3, by simp only [PyData.depth]; omega, ?_⟩
  simp only [PyData.shown]
  have hmul : ds.length * (b + 2) ≤ m * (b + 2) := Nat.mul_le_mul_right _ hm
  unfold tupleText
  rw [strLen_append, strLen_append]
  have e1 : (("(" : String) : Str).length = 1 := rfl
  have e2 : ((if (PyData.shownAll ds).length == 1 then ",)" else ")" : String) : Str).length ≤ 2 := by split <;> decide
  have e3 : (Str.join ", " (PyData.shownAll ds)).length ≤ piled (PyData.shownAll ds) := by
    by_cases e : PyData.shownAll ds = []
    · rw [e]; exact Nat.le_refl _
    · have := join_length_add _ e
      omega
  omega
theorem int_len : ∀ n : Nat, n < 100 → (PyData.int ((n : Int) - 20)).shown.length ≤ 3 := by decide +kernel
theorem okd_int {i : Int} (h0 : -20 ≤ i) (h1 : i < 80) : Okd (.int i) 0 3 := by
  refine ⟨?_, rfl, rfl, Nat.le_refl _, ?_⟩
  · have : ∀ n : Nat, n < 81 → n.log2 < 1920 := by decide
    simp only [PyData.showable, decide_eq_true_eq]
    exact this _ (by omega)
  · have := int_len (i + 20).toNat (by omega)
    rw [show (((i + 20).toNat : Nat) : Int) - 20 = i by omega] at this
    exact this
theorem okd_none : Okd .none 0 4 := ⟨rfl, rfl, rfl, Nat.le_refl _, by simp only [PyData.shown]; decide⟩
theorem okd_str {z : Str} (h : nameB z = true) : Okd (.str z) 0 82 := by
  obtain ⟨h1, h8, ha⟩ := name_iff.mp h
  refine ⟨rfl, rfl, ?_, Nat.le_refl _, ?_⟩
  · simp only [PyData.canLay0]
    unfold PyData.strOk
    rw [← Array.all_toList, List.all_eq_true]
    intro c hc
    have := az_lt (ha c hc)
    exact decide_eq_true (by omega)
  · simp only [PyData.shown]
    have := StrLaws.reprText_len z fun c hc => by
      have := az_lt (ha c hc)
      omega
    have e : z.length = z.cps.toList.length := by rw [Array.length_toList]; rfl
    omega
theorem okd_trip {t : Trip} (h0 : -20 ≤ t.1 ∧ t.1 < 80) (hs : nameB t.2.1 = true) (h1 : -20 ≤ t.2.2 ∧ t.2.2 < 80) : Okd (tripD t) 1 255 :=
  okd_tup (b := 82) (m := 3) (fun d hd => by
    simp only [List.mem_cons, List.not_mem_nil, or_false] at hd
    rcases hd with rfl | rfl | rfl
    · exact (okd_int h0.1 h0.2).mono (by decide) (by decide)
    · exact okd_str hs
    · exact (okd_int h1.1 h1.2).mono (by decide) (by decide)) (Nat.le_refl 3)
theorem okd_test {n : Int} {t : Trip} (hn : n ≤ 12) (h : TestOk n t) : Okd (tripD t) 1 255 := by
  obtain ⟨⟨a, b⟩, c, d, e⟩ := h
  refine okd_trip ⟨by omega, by omega⟩ ?_ ⟨by omega, by omega⟩
  rcases c with c | c | c <;> rw [c] <;> decide +kernel
theorem okd_change {n : Int} {t : Trip} (hn : n ≤ 12) (h : ChangeOk n t) : Okd (tripD t) 1 255 := by
  obtain ⟨⟨a, b⟩, c⟩ := h
  refine okd_trip ⟨by omega, by omega⟩ ?_ ?_
  · rcases c with c | c <;> rw [c.1] <;> decide +kernel
  · rcases c with c | c
    · exact ⟨by omega, by omega⟩
    · exact ⟨by omega, by omega⟩
theorem okd_trips {ts : List Trip} (h : ∀ t ∈ ts, Okd (tripD t) 1 255) (hl : ts.length ≤ 4) : Okd (.tuple (ts.map tripD)) 2 1031 :=
  okd_tup (b := 255) (m := 4) (fun d hd => by
    obtain ⟨t, ht, rfl⟩ := List.mem_map.mp hd
    exact h t ht) (by rw [List.length_map]; exact hl)
theorem okd_ints {ns : List Int} {m : Nat} (h : ∀ n ∈ ns, 0 ≤ n ∧ n ≤ 9) (hl : ns.length ≤ m) : Okd (.tuple (ns.map PyData.int)) 1 (m * 5 + 3) :=
  okd_tup (b := 3) (m := m) (fun d hd => by
    obtain ⟨t, ht, rfl⟩ := List.mem_map.mp hd
    have := h t ht
    exact okd_int (by omega) (by omega)) (by rw [List.length_map]; exact hl)
theorem okd_move {n s : Int} {m : MoveD} (hn : n ≤ 12) (hs : s ≤ 4) (h : MoveOk n s m) : Okd (moveD m) 3 4135 :=
  okd_tup (b := 1031) (m := 4) (fun d hd => by
    simp only [List.mem_cons, List.not_mem_nil, or_false] at hd
    rcases hd with rfl | rfl | rfl | rfl
    · exact (okd_str h.name).mono (by decide) (by decide)
    · cases e : m.by_ with
      | none => exact okd_none.mono (by decide) (by decide)
      | some i =>
        have := h.by_ i e
        exact (okd_int (by omega) (by omega)).mono (by decide) (by decide)
    · exact okd_trips (fun t ht => okd_test hn (h.ts t ht)) h.tl
    · exact okd_trips (fun t ht => okd_change hn (h.cs t ht)) h.cl) (Nat.le_refl 4)
theorem okd_end {n s : Int} {e : EndD} (hn : n ≤ 12) (hs : s ≤ 4) (h : EndOk n s e) : Okd (endD e) 3 2069 :=
  okd_tup (b := 1031) (m := 2) (fun d hd => by
    simp only [List.mem_cons, List.not_mem_nil, or_false] at hd
    have := h.pl
    rcases hd with rfl | rfl
    · exact okd_trips (fun t ht => okd_test hn (h.ts t ht)) h.tl
    · exact (okd_ints (m := 4) (fun n hn => by have := h.ps n hn; omega) (by omega)).mono (by decide) (by decide)) (Nat.le_refl 2)
theorem okd_rule {r : RuleD} (h : RuleOk r) : Okd (ruleD r) 5 400000 := by
  have b1 := h.b1
  have s1 := h.s1
  refine (okd_tup (ds := [.tuple (r.begun.map PyData.int), .tuple (r.plays.map moveD), .int r.seats, .tuple (r.closes.map endD), .int r.longest, .str r.halted]) (n := 4) (b := 66195) (m := 6) (fun d hd => ?_) (Nat.le_refl 6)).mono (by decide) (by decide)
  simp only [List.mem_cons, List.not_mem_nil, or_false] at hd
  rcases hd with rfl | rfl | rfl | rfl | rfl | rfl
  · exact (okd_ints (m := 12) h.bs h.b1).mono (by decide) (by decide)
  · refine (okd_tup (n := 3) (b := 4135) (m := 16) (fun d hd => ?_) (by rw [List.length_map]; exact h.m1)).mono (by decide) (by decide)
    obtain ⟨m, hm, rfl⟩ := List.mem_map.mp hd
    exact okd_move (by omega) s1 (h.ms m hm)
  · have := h.s0
    exact (okd_int (by omega) (by omega)).mono (by decide) (by decide)
  · refine (okd_tup (n := 3) (b := 2069) (m := 6) (fun d hd => ?_) (by rw [List.length_map]; exact h.e1)).mono (by decide) (by decide)
    obtain ⟨m, hm, rfl⟩ := List.mem_map.mp hd
    exact okd_end (by omega) s1 (h.es m hm)
  · have := h.l0
    have := h.l1
    exact (okd_int (by omega) (by omega)).mono (by decide) (by decide)
  · have : nameB r.halted = true := by
      rcases h.h with e | e <;> rw [e] <;> decide +kernel
    exact (okd_str this).mono (by decide) (by decide)
theorem Okd.shaped {d : PyData} {n b : Nat} (o : Okd d n b) (hn : n ≤ 64) : SeqAt.shaped d = true := by
  unfold SeqAt.shaped
  rw [o.lay, Bool.true_and, decide_eq_true_eq]
  exact Nat.le_trans o.dep hn
end PL
namespace PL
open PySem PySem.Spec PyProof.Rows L2 D0
/-! ### rules that are told alike are the same -/
theorem eqvAll_inj {α : Type} {f : α → PyData} (h : ∀ x y, PyData.eqv (f x) (f y) = true → x = y) : ∀ (xs ys : List α), PyData.eqvAll (xs.map f) (ys.map f) = true → xs = ys
  | [], [], _ => rfl
  | [], _ :: _, e => by simp [PyData.eqvAll] at e
  | _ :: _, [], e => by simp [PyData.eqvAll] at e
  | x :: xs, y :: ys, e => by
    simp only [List.map_cons, PyData.eqvAll, Bool.and_eq_true] at e
    rw [h x y e.1, eqvAll_inj h xs ys e.2]
theorem eqv_int (x y : Int) (h : PyData.eqv (.int x) (.int y) = true) : x = y := by
  simpa [PyData.eqv] using h
theorem eqv_trip (x y : Trip) (h : PyData.eqv (tripD x) (tripD y) = true) : x = y := by
  obtain ⟨a, b, c⟩ := x
  obtain ⟨a', b', c'⟩ := y
  simp only [tripD, PyData.eqv, PyData.eqvAll, Bool.and_true, Bool.and_eq_true, beq_iff_eq] at h
  rw [h.1, h.2.1, h.2.2]
theorem eqv_by (x y : Option Int) (h : PyData.eqv (byD x) (byD y) = true) : x = y := by
  cases x <;> cases y <;> simp [byD, PyData.eqv] at h ⊢
  exact h
theorem eqv_move (x y : MoveD) (h : PyData.eqv (moveD x) (moveD y) = true) : x = y := by
  obtain ⟨a, b, c, d⟩ := x
  obtain ⟨a', b', c', d'⟩ := y
  simp only [moveD, PyData.eqv, PyData.eqvAll, Bool.and_true, Bool.and_eq_true, beq_iff_eq] at h
  rw [h.1, eqv_by _ _ h.2.1, eqvAll_inj eqv_trip _ _ h.2.2.1, eqvAll_inj eqv_trip _ _ h.2.2.2]
theorem eqv_end (x y : EndD) (h : PyData.eqv (endD x) (endD y) = true) : x = y := by
  obtain ⟨a, b⟩ := x
  obtain ⟨a', b'⟩ := y
  simp only [endD, PyData.eqv, PyData.eqvAll, Bool.and_true, Bool.and_eq_true] at h
  rw [eqvAll_inj eqv_trip _ _ h.1, eqvAll_inj eqv_int _ _ h.2]
theorem eqv_rule (x y : RuleD) (h : PyData.eqv (ruleD x) (ruleD y) = true) : x = y := by
  obtain ⟨a, b, c, d, e, f⟩ := x
  obtain ⟨a', b', c', d', e', f'⟩ := y
  simp only [ruleD, PyData.eqv, PyData.eqvAll, Bool.and_true, Bool.and_eq_true, beq_iff_eq] at h
  rw [eqvAll_inj eqv_int _ _ h.1, eqvAll_inj eqv_move _ _ h.2.1, h.2.2.1, eqvAll_inj eqv_end _ _ h.2.2.2.1, h.2.2.2.2.1, h.2.2.2.2.2]
theorem unlike {x y : RuleD} (h : x ≠ y) : PyData.eqv (ruleD x) (ruleD y) = false ∧ PyData.eqv (ruleD y) (ruleD x) = false :=
  ⟨Bool.not_eq_true _ ▸ fun e => h (eqv_rule _ _ e), Bool.not_eq_true _ ▸ fun e => h (eqv_rule _ _ e).symm⟩
/-! ### the rule's parts -/
theorem rule_at {K : PySem.W.Frag} {H : Hp} {v : V} {r : RuleD} (h : Td K H v (ruleD r)) : ∃ a b p e, v = .ref a ∧ SqT K H a [b, p, .int r.seats, e, .int r.longest, .str r.halted] ∧ Td K H b (.tuple (r.begun.map PyData.int)) ∧
    Td K H p (.tuple (r.plays.map moveD)) ∧ Td K H e (.tuple (r.closes.map endD)) := by
  obtain ⟨a, xs, rfl, hS, hA⟩ := h.tuple
  cases hA with
  | cons h1 r1 =>
    cases r1 with
    | cons h2 r2 =>
      cases r2 with
      | cons h3 r3 =>
        cases r3 with
        | cons h4 r4 =>
          cases r4 with
          | cons h5 r5 =>
            cases r5 with
            | cons h6 r6 =>
              cases r6
              cases h3.isInt
              cases h5.isInt
              cases h6.isStr
              exact ⟨_, _, _, _, rfl, hS, h1, h2, h4⟩
section
variable {P : Program} {w : World} {K : PySem.W.Frag} {mg : Str → Option Value} {base : Heap}
/-! ### repr(one) == repr(other) -/
def spSame (K : PySem.W.Frag) : Sp := fun vs H Q _ => ∃ (x y : V) (d : PyData), vs = [x, y] ∧ Dp K H x d ∧ Dp K H y d ∧ PyProof.Rows.isDisplay d = true ∧ Okd d 64 sizeLine ∧ Q (.bl true) H
theorem ok_same {f : Addr} {fd : FuncData} {k : Nat} (F : Fun K "_law_same" "_law_same" s_law_same f fd) (T : TM mg) : G0.FnG P w K mg base CX0 (k + 1) f fd ["one", "other"] (spSame K) := by
  refine G0.okG F sc_law_same (fun vs H Q E h => ?_) (fun cdv A outer s H vs Q E gu hr h => ?_)
  · obtain ⟨x, y, d, rfl, _⟩ := h
    rfl
  · obtain ⟨x, y, d, rfl, hx, hy, hd, o, q⟩ := h
    have un := hr.un
    have un80 : (A.deeper (envOfC (Str.ofString "_law_same") (defScope s_law_same) s.heap.objs.size f cdv)).units + 80 < cLine := by omega
    refine ⟨_, (pss_one (ps_ret (pe_cmpR op_eq (pe_callB (G0.call_shown gu un80) (by rfl) T.m_repr (by decide +kernel) (pa_cons (pv 0) pa_nil)) (pe_callB (G0.call_shown gu un80) (by rfl) T.m_repr (by decide +kernel) (pa_cons (pv 1) pa_nil)) (nomark _)))), ?_⟩
    refine ⟨_, rfl, x, d, rfl, hx, hd, o.show_, o.nod, o.dep, o.len, _, rfl, y, d, rfl, hy, hd, o.show_, o.nod, o.dep, o.len, rfl, ?_⟩
    rw [decide_eq_true rfl]
    exact q
end
end PL
namespace PL
open PySem PySem.Spec PyProof.Rows L2 D0
theorem init_of {K : PySem.W.Frag} {C : Addr} {H2 : Hp} {x dx s m e : Addr} {xs ys zs : List V} {r : RuleD} {Q : Hp → Prop} {E : XK} (nx : H2 x = none) (nd : H2 dx = none) (ne : dx ≠ x) (ok : RuleOk r)
    (hs : SqL K H2 s xs ∨ SqT K H2 s xs) (hxs : TdAll K H2 xs (r.begun.map PyData.int)) (hm : SqL K H2 m ys ∨ SqT K H2 m ys) (hys : TdAll K H2 ys (r.plays.map moveD)) (he : SqL K H2 e zs ∨ SqT K H2 e zs) (hzs : TdAll K H2 zs (r.closes.map endD))
    (q : ∀ H3, Same H2 H3 → RuleAt K C H3 x (ruleD r) → Q H3) :
    spInit K C [.ref x, .ref s, .ref m, .int r.seats, .ref e, .int r.longest, .str r.halted] (upd (upd H2 dx (.own x)) x (.ins C dx [])) (fun v H3 => v = .non ∧ Q H3) E := by
  have n2 : (upd H2 dx (.own x)) x = none := by rw [upd_ne (Ne.symm ne)]; exact nx
  have S : Same H2 (upd (upd H2 dx (.own x)) x (.ins C dx [])) := (new_same nd).trans (new_same n2)
  have k := TK.of_same S
  have ks : ∀ {a : Addr} {us : List V}, SqL K H2 a us ∨ SqT K H2 a us → SqL K (upd (upd H2 dx (.own x)) x (.ins C dx [])) a us ∨ SqT K (upd (upd H2 dx (.own x)) x (.ins C dx [])) a us := fun h => h.elim (fun h => .inl (S.seq h)) fun h => .inr (k.sqt h)
  refine ⟨x, dx, s, m, e, xs, ys, zs, r, rfl, ok, upd_same, ks hs, hxs.keep k, ks hm, hys.keep k, ks he, hzs.keep k, fun H' hk ht => ⟨rfl, q H' (fun b o hb => ?_) ht⟩⟩
  have nbx : b ≠ x := ne_of_none hb nx
  refine hk b o nbx ?_
  exact S b o hb
def spMade (K : PySem.W.Frag) (C : Addr) : Sp := fun vs H Q _ => ∃ (v : V) (r : RuleD), vs = [v] ∧ Td K H v (ruleD r) ∧ RuleOk r ∧ ∀ p H', Same H H' → RuleAt K C H' p (ruleD r) → Q (.ref p) H'
section
variable {P : Program} {w : World} {K : PySem.W.Frag} {mg : Str → Option Value} {base : Heap}
theorem ok_made {f C fi e : Addr} {fd fdi : FuncData} (F : Fun K "_law_made" "_law_made" s_law_made f fd) (T : TM mg) (R : TR K mg C) (M : Mk K C fi) (B : FunR K e fi fdi) (FI : FnOk P w K mg base CX0 6 fi fdi psR (spInit K C)) :
    FnOk P w K mg base CX0 8 f fd ["told"] (spMade K C) := by
  refine F.ok sc_law_made (fun vs H Q E h => ?_) (fun cdv A outer s H vs Q E hr h => ?_)
  · obtain ⟨v, r, rfl, _⟩ := h
    rfl
  · obtain ⟨v, r, rfl, hT, ok, q⟩ := h
    obtain ⟨a, b, p, en, rfl, hS, tb, tp, te⟩ := rule_at hT
    refine ⟨_, (pss_one (ps_ret (pe_makeK M FI hr (by rfl) R.g_Rule (kb_in1 B) pass0
      (pa_cons (pe_callTy call_list_of (by rfl) T.m_list (by decide +kernel) (pa_cons (pe_ix (r := rIxT K) ix_tup (pv 0) pe_int (fun _ _ => rfl)) pa_nil)) (pa_cons (pe_callTy call_list_of (by rfl) T.m_list (by decide +kernel) (pa_cons (pe_ix (r := rIxT K) ix_tup (pv 0) pe_int (fun _ _ => rfl)) pa_nil)) pa_nil))
      (pk_cons (pe_ix (r := rIxT K) ix_tup (pv 0) pe_int (fun _ _ => rfl)) (pk_cons (pe_callTy call_list_of (by rfl) T.m_list (by decide +kernel) (pa_cons (pe_ix (r := rIxT K) ix_tup (pv 0) pe_int (fun _ _ => rfl)) pa_nil)) (pk_cons (pe_ix (r := rIxT K) ix_tup (pv 0) pe_int (fun _ _ => rfl)) (pk_cons (pe_ix (r := rIxT K) ix_tup (pv 0) pe_int (fun _ _ => rfl)) pk_nil))))))), ?_⟩
    obtain ⟨ab, xs, rfl, sb, Ab⟩ := tb.tuple
    obtain ⟨ap, ys, rfl, sp, Ap⟩ := tp.tuple
    obtain ⟨ae, zs, rfl, se, Ae⟩ := te.tuple
    refine ⟨_, rfl, a, _, 0, _, rfl, rfl, hS, atI_nat (j := 0) rfl, ab, xs, rfl, .inr sb, fun l1 n1 => ?_⟩
    have k1 := new_same (o := .lst xs) n1
    have S1 := (TK.of_same k1).sqt hS
    refine ⟨_, rfl, a, _, 1, _, rfl, rfl, S1, atI_nat (j := 1) rfl, ap, ys, rfl, .inr ((TK.of_same k1).sqt sp), fun l2 n2 => ?_⟩
    have k2 := k1.trans (new_same (o := .lst ys) n2)
    have S2 := (TK.of_same k2).sqt hS
    refine ⟨_, rfl, a, _, 2, _, rfl, rfl, S2, atI_nat (j := 2) rfl, ?_⟩
    refine ⟨_, rfl, a, _, 3, _, rfl, rfl, S2, atI_nat (j := 3) rfl, ae, zs, rfl, .inr ((TK.of_same k2).sqt se), fun l3 n3 => ?_⟩
    have k3 := k2.trans (new_same (o := .lst zs) n3)
    have S3 := (TK.of_same k3).sqt hS
    refine ⟨_, rfl, a, _, 4, _, rfl, rfl, S3, atI_nat (j := 4) rfl, ?_⟩
    refine ⟨_, rfl, a, _, 5, _, rfl, rfl, S3, atI_nat (j := 5) rfl, rfl, rfl, fun x dx nx nd ne => ?_⟩
    have l13 : (upd (upd (upd H l1 (.lst xs)) l2 (.lst ys)) l3 (.lst zs)) l1 = some (.lst xs) := (new_same n3) _ _ ((new_same n2) _ _ upd_same)
    have l23 : (upd (upd (upd H l1 (.lst xs)) l2 (.lst ys)) l3 (.lst zs)) l2 = some (.lst ys) := (new_same n3) _ _ upd_same
    have k := TK.of_same k3
    exact init_of nx nd ne ok (.inl (SqL.of l13)) (Ab.keep k) (.inl (SqL.of l23)) (Ap.keep k) (.inl (SqL.of upd_same)) (Ae.keep k) fun H' s' t => q _ _ (k3.trans s') t
end
end PL
namespace PL
open PySem PySem.Spec PyProof.Rows L2 D0
def spOther (K : PySem.W.Frag) : Sp := fun vs H Q _ => ∃ (d c : Addr) (v : V) (r : RuleD), vs = [.ref d, v] ∧ DrC H d c ∧ Td K H v (ruleD r) ∧ RuleOk r ∧ ∀ v' r' H', DrC H' d c → Kp d c H H' → Td K H' v' (ruleD r') → RuleOk r' → r' ≠ r → Q v' H'
def spRight : Sp := fun vs H Q _ => ∃ (d c : Addr), vs = [.ref d] ∧ DrC H d c ∧ ∀ H', DrC H' d c → Q (.bl true) H'
structure RQ (K : PySem.W.Frag) (C : Addr) : Prop where
  n0 : PySem.W.notFirst K C (.ref C) = true
  n1 : PySem.W.notFirst K C (.type "tuple") = true
  n2 : PySem.W.notFirst K C (.type "str") = true
  n3 : PySem.W.notFirst K C (.type "list") = true
  k1 : PySem.W.kitOne K (.type "tuple") (.ref C) = some false
  k2 : PySem.W.kitOne K (.type "str") (.ref C) = some false
  k3 : PySem.W.kitOne K (.type "list") (.ref C) = some false
section
variable {K : PySem.W.Frag} {mg : Str → Option Value} {C : Addr} {H H' : Hp} {x y : Addr} {d d2 : PyData}
theorem told_no (tv : V) : (partsOf tv).lookup ("told" : Str) = none := by
  unfold partsOf
  rw [lookup_putF, if_neg (by decide)]
  rfl
theorem RuleAt.keep (h : RuleAt K C H x d) (k : TK H H') (hx : ∀ dx fs, H x = some (.ins C dx fs) → H' x = some (.ins C dx fs)) : RuleAt K C H' x d := by
  obtain ⟨dx, tv, e, t⟩ := h
  exact ⟨dx, tv, hx _ _ e, t.keep k⟩
theorem RuleAt.same (h : RuleAt K C H x d) (s : Same H H') : RuleAt K C H' x d := h.keep (TK.of_same s) fun _ _ e => s _ _ e
theorem RuleAt.kp {a c : Addr} (h : RuleAt K C H x d) (D : DrC H a c) (k : Kp a c H H') : RuleAt K C H' x d := by
  refine h.keep (k.tk D) fun dx fs e => ?_
  obtain ⟨_, m, n, ns, ha, hc, _⟩ := D
  refine k _ _ ?_ ?_ e
  · rintro rfl; rw [ha] at e; cases e
  · rintro rfl; rw [hc] at e; cases e
theorem own_yes {Q : VK} (R : TR K mg C) (I : TI K C) (N : RQ K C) (h1 : RuleAt K C H x d) (h2 : RuleAt K C H y d2) (s1 : SeqAt.shaped d = true) (s2 : SeqAt.shaped d2 = true) (q : Q (.bl (PyData.eqv d d2)) H) :
    O0.rOwn K C (spEqR K C) E0 (.ref x) (.ref y) H Q := by
  obtain ⟨dx, tv, e, t⟩ := id h1
  obtain ⟨dy, tw, ey, _⟩ := id h2
  exact ⟨x, dx, _, _, rfl, e, .base (.ins ey R.cl I.ha I.hn I.ht I.hm), N.n0, x, .ref y, d, rfl, h1, .inl ⟨y, d2, rfl, h2, s1, s2, _, rfl, q⟩⟩
theorem own_no {Q : VK} {v : V} {t : Value} (h1 : RuleAt K C H x d) (ty : TyX K H v t) (n : PySem.W.notFirst K C t = true) (k : PySem.W.kitOne K t (.ref C) = some false) (q : Q (.bl false) H) :
    O0.rOwn K C (spEqR K C) E0 (.ref x) v H Q := by
  obtain ⟨dx, tv, e, _⟩ := id h1
  exact ⟨x, dx, _, t, rfl, e, ty, n, x, v, d, rfl, h1, .inr ⟨t, ty, k, _, rfl, q⟩⟩
end
structure LI (K : PySem.W.Frag) (C : Addr) (H3 H' : Hp) (d c h x : Addr) (ls : List Addr) (dd : PyData) (n : Nat) : Prop where
  tk : TK H3 H'
  dr : DrC H' d c
  hh : H' h = some (.lst (ls.map V.ref))
  hl : ∀ l ∈ ls, ∃ ws, H' l = some (.lst ws) ∧ ws.length ≤ n
  rx : RuleAt K C H' x dd
theorem LI.upd {K : PySem.W.Frag} {C : Addr} {H3 H' : Hp} {d c h x l : Addr} {ls : List Addr} {dd : PyData} {n m : Nat} {ws' : List V} (I : LI K C H3 H' d c h x ls dd n) (hl : l ∈ ls) (ld : l ≠ d) (lc : l ≠ c) (lh : l ≠ h) (nm : n ≤ m) (hn : ws'.length ≤ m) :
    LI K C H3 (L2.upd H' l (.lst ws')) d c h x ls dd m := by
  obtain ⟨ws, e, _⟩ := I.hl l hl
  have k := TK.upd (u := .lst ws') e (fun z => z)
  refine ⟨I.tk.trans k, I.dr.upd ld lc, by rw [upd_ne lh.symm]; exact I.hh, fun l' hl' => ?_, I.rx.keep k fun dx fs ex => ?_⟩
  · by_cases eq : l' = l
    · rw [eq]
      exact ⟨ws', upd_same, hn⟩
    · obtain ⟨us, e', n'⟩ := I.hl l' hl'
      exact ⟨us, by rw [upd_ne eq]; exact e', Nat.le_trans n' nm⟩
  · rw [upd_ne]
    · exact ex
    · rintro rfl
      rw [e] at ex
      cases ex
theorem cut1 (ws : List V) : cutV ws none (some 1) = ws.take 1 := by
  cases ws with
  | nil => rfl
  | cons a r =>
    show List.take (min 1 (r.length + 1) - 0) (a :: r) = [a]
    rw [Nat.min_eq_left (by omega)]
    rfl
theorem byV_of {K : PySem.W.Frag} {H : Hp} {v : V} : ∀ {o : Option Int}, Td K H v (byD o) → v = byV o
  | none, h => h.isNon
  | some _, h => h.isInt
theorem by_in {o : Option Int} (h : inV (byV o) [.non, .int 0, .int 1] = true) : o = none ∨ o = some 0 ∨ o = some 1 := by
  cases o with
  | none => exact .inl rfl
  | some i =>
    by_cases h0 : i = 0
    · exact .inr (.inl (by rw [h0]))
    · by_cases h1 : i = 1
      · exact .inr (.inr (by rw [h1]))
      · exfalso
        have h' : ((0 : Int) == i || ((1 : Int) == i || false)) = true := h
        simp only [Bool.or_eq_true, beq_iff_eq, Bool.or_false] at h'
        omega
section
variable {P : Program} {w : World} {K : PySem.W.Frag} {mg : Str → Option Value} {base : Heap}
theorem ok_right {f C fi e ft fq : Addr} {fd fdi fdt fdq : FuncData} (F : Fun K "_law_right" "_law_right" s_law_right f fd) (T : TM mg) (R : TR K mg C) (I : TI K C) (N : RQ K C) (M : Mk K C fi) (B : FunR K e fi fdi)
    (he : ∀ H, SqT K H e []) (FI : FnOk P w K mg base CX0 6 fi fdi psR (spInit K C))
    (mT : Meth K C "told" ft) (FT : FnOk P w K mg base CX0 1 ft fdt ["self"] (spTold K C)) (bT : Binds K fdt ["self"] [])
    (hE : PySem.W.findIn K (.ref C) "__eq__" = some (some (.ref fq))) (hEf : PySem.W.isFn K (.ref fq) = true) (FQ : FnOk P w K mg base CX0 1 fq fdq ["self", "other"] (spEqR K C)) (bE : Binds K fdq ["self", "other"] [])
    (C_law_rule : Cal P w K mg base "_law_rule" 5 ["draw"] (spRuleR K)) (C_law_same : CalG P w K mg base "_law_same" 1 ["one", "other"] (spSame K))
    (C_law_made : Cal P w K mg base "_law_made" 8 ["told"] (spMade K C)) (C_law_otherwise : Cal P w K mg base "_law_otherwise" 3 ["draw", "told"] (spOther K)) :
    G0.FnG P w K mg base CX0 9 f fd ["draw"] spRight := by
  obtain ⟨ds, hds, bds⟩ := b_def B
  refine G0.okG F sc_law_right (fun vs H Q E h => ?_) (fun cdv A outer s H vs Q E gu hr h => ?_)
  · obtain ⟨d, c, rfl, _⟩ := h
    rfl
  · obtain ⟨d, c, rfl, D, q⟩ := h
    refine ⟨_, (pss_cons (ps_set (i := 1) sc_law_right.nd rfl (.inl rfl) (D0.pe_cal C_law_rule (hr.mono (by decide)) (by rfl) (pa_cons (pv 0) pa_nil)))
      (pss_cons (ps_asg (pv 1) (pg_tup rfl (pgs_cons (pg_name (i := 2) sc_law_right.nd rfl (.inl rfl)) (pgs_cons (pg_name (i := 3) sc_law_right.nd rfl (.inl rfl)) (pgs_cons (pg_name (i := 4) sc_law_right.nd rfl (.inl rfl)) (pgs_cons (pg_name (i := 5) sc_law_right.nd rfl (.inl rfl)) (pgs_cons (pg_name (i := 6) sc_law_right.nd rfl (.inl rfl)) (pgs_cons (pg_name (i := 7) sc_law_right.nd rfl (.inl rfl)) pgs_nil))))))))
      (pss_cons (ps_set (i := 8) sc_law_right.nd rfl (.inl rfl) (pe_lst (pa_cons (pe_callTy call_list_of (by rfl) T.m_list (by decide +kernel) (pa_cons (pv 2) pa_nil)) (pa_cons (pe_callTy call_list_of (by rfl) T.m_list (by decide +kernel) (pa_cons (pv 3) pa_nil)) (pa_cons (pe_callTy call_list_of (by rfl) T.m_list (by decide +kernel) (pa_cons (pv 5) pa_nil)) pa_nil)))))
      (pss_cons (ps_set (i := 9) sc_law_right.nd rfl (.inl rfl) (pe_makeK M FI (hr.mono (by decide)) (by rfl) R.g_Rule (kb_in1 B) pass0 (pa_cons (pe_ix (r := rIxL K) ix_list (pv 8) pe_int (fun _ _ => rfl)) (pa_cons (pe_ix (r := rIxL K) ix_list (pv 8) pe_int (fun _ _ => rfl)) pa_nil)) (pk_cons (pv 4) (pk_cons (pe_ix (r := rIxL K) ix_list (pv 8) pe_int (fun _ _ => rfl)) (pk_cons (pv 6) (pk_cons (pv 7) pk_nil))))))
      (pss_cons (ps_if (pt_not (pt_val (D0.pe_calG gu C_law_same (hr.mono (by decide)) (by rfl) (pa_cons (pe_meth0 (pv 9) R.cl mT FT (hr.mono (by decide)) bT .nil pass0) (pa_cons (pv 1) pa_nil)))))
        (pss_one (ps_ret pe_bl))
        pss_nil)
      (pss_cons (ps_for PassesOwn.never rfl (pi_list (pv 8)) (pg_name (i := 10) sc_law_right.nd rfl (.inl rfl))
        (pss_cons (ps_expr (pe_bm PySem.F.plainAttrs_list PySem.F.slot_list_append PySem.F.type_list_append mt_append (pv 10) (pa_cons pe_non pa_nil)))
      (pss_one (ps_expr (pe_bm0 PySem.F.plainAttrs_list PySem.F.slot_list_reverse PySem.F.type_list_reverse mt_reverse (pv 10))))))
      (pss_cons (ps_set (i := 11) sc_law_right.nd rfl (.inl rfl) (pe_makeK0 M FI (hr.mono (by decide)) (by rfl) R.g_Rule (kb_in2 B) pass0 (pk_cons (pv 7) (pk_cons (pv 5) (pk_cons (pv 3) (pk_cons (pv 6) (pk_cons (pv 2) (pk_cons (pv 4) pk_nil))))))))
      (pss_cons (ps_if (PW.pt (pw_or (pt_not (pt_val (D0.pe_calG gu C_law_same (hr.mono (by decide)) (by rfl) (pa_cons (pe_meth0 (pv 9) R.cl mT FT (hr.mono (by decide)) bT .nil pass0) (pa_cons (pv 1) pa_nil))))) (pw_or (pt_not (pt_cmpR (O0.op_own FQ (hr.mono (by decide)) hE hEf bE pass0) (pv 9) (pv 11) (nomark _))) (pw_or1 (pt_not (pt_cmpR (O0.op_own FQ (hr.mono (by decide)) hE hEf bE pass0) (pv 11) (pv 9) (nomark _)))))))
        (pss_one (ps_ret pe_bl))
        pss_nil)
      (pss_cons (ps_set (i := 12) sc_law_right.nd rfl (.inl rfl) (D0.pe_cal C_law_made (hr.mono (by decide)) (by rfl) (pa_cons (D0.pe_cal C_law_otherwise (hr.mono (by decide)) (by rfl) (pa_cons (pv 0) (pa_cons (pv 1) pa_nil))) pa_nil)))
      (pss_cons (ps_if (PW.pt (pw_or (pt_cmpR (O0.op_own FQ (hr.mono (by decide)) hE hEf bE pass0) (pv 9) (pv 12) (nomark _)) (pw_or (pt_cmpR (O0.op_own FQ (hr.mono (by decide)) hE hEf bE pass0) (pv 12) (pv 9) (nomark _)) (pw_or (pt_cmpR (O0.op_own FQ (hr.mono (by decide)) hE hEf bE pass0) (pv 9) (pv 1) (nomark _)) (pw_or (pt_cmpR (O0.op_own FQ (hr.mono (by decide)) hE hEf bE pass0) (pv 9) pe_str (nomark _)) (pw_or1 (pt_cmpR (O0.op_own FQ (hr.mono (by decide)) hE hEf bE pass0) (pv 9) (pe_lst pa_nil) (nomark _))))))))
        (pss_one (ps_ret pe_bl))
        pss_nil)
      (pss_cons (ps_if (PW.pt (pw_or (pt_not (pt_val (D0.pe_calG gu C_law_same (hr.mono (by decide)) (by rfl) (pa_cons (pe_meth0 (pv 12) R.cl mT FT (hr.mono (by decide)) bT .nil pass0) (pa_cons (pe_meth0 (pv 12) R.cl mT FT (hr.mono (by decide)) bT .nil pass0) pa_nil))))) (pw_or1 (pt_not (pt_val (D0.pe_calG gu C_law_same (hr.mono (by decide)) (by rfl) (pa_cons (pe_meth0 (pv 9) R.cl mT FT (hr.mono (by decide)) bT .nil pass0) (pa_cons (pv 1) pa_nil))))))))
        (pss_one (ps_ret pe_bl))
        pss_nil)
      (C8.pss_cut (ps_set (i := 13) sc_law_right.nd rfl (.inl rfl) (pe_make M FI (hr.mono (by decide)) (by rfl) R.g_Rule bds hds pass0 (pa_cons (pv 2) (pa_cons (pe_orT (pe_slice sl_list (pe_lc (own := [("move", 14)]) (g := gName 14) rfl sc_law_right.nd (pi_tup (pv 3)) (blkOk_by (own := [("move", 14)]) (N := ["draw", "told", "begun", "plays", "seats", "closes", "longest", "halted", "handed", "rule", "part", "again", "other", "plain", "move"]) (sc := defScope s_law_right) (by decide +kernel)) (fun _ _ _ _ _ => pg_name (i := 14) sc_law_right.nd rfl (Or.inl rfl)) (fun _ _ _ _ _ => (pts_one (pt_cmpR (r := rIn K false) op_in_seq (pe_ix (r := rIxT K) ix_tup (pv 14) pe_int (fun _ _ => rfl)) (pe_tup (pa_cons pe_non (pa_cons pe_int (pa_cons pe_int pa_nil)))) rfl))) (fun _ _ _ _ _ => (pv 14))) po_none (po_some pe_int)) (pe_one (pe_lst (pa_cons (pe_tup (pa_cons pe_str (pa_cons pe_int (pa_cons (pe_tup pa_nil) (pa_cons (pe_tup (pa_cons (pe_tup (pa_cons pe_int (pa_cons pe_str (pa_cons pe_int pa_nil)))) pa_nil)) pa_nil))))) pa_nil)))) pa_nil))))
      (pss_one (ps_ret (D0.pe_calG gu C_law_same (hr.mono (by decide)) (by rfl) (pa_cons (pe_slice sl_tup (pe_meth0 (pv 13) R.cl mT FT (hr.mono (by decide)) bT .nil pass0) (po_some pe_int) po_none) (pa_cons (pe_tup (pa_cons pe_int (pa_cons (pe_tup pa_nil) (pa_cons pe_int (pa_cons pe_str pa_nil))))) pa_nil))))))))))))))))), ?_⟩
    refine ⟨_, rfl, d, c, rfl, D, fun v r H1 D1 k1 tv ok => ?_⟩
    obtain ⟨a, b, p, en, rfl, hS, tb, tp, te⟩ := rule_at tv
    have okd := (okd_rule ok).mono (show 5 ≤ 64 by decide) (show 400000 ≤ sizeLine by decide)
    have shd := (okd_rule ok).shaped (by decide)
    obtain ⟨ab, xs, rfl, sb, Ab⟩ := tb.tuple
    obtain ⟨ap, ys, rfl, sp, Ap⟩ := tp.tuple
    obtain ⟨ae, zs, rfl, se, Ae⟩ := te.tuple
    have lxs : xs.length ≤ 12 := by rw [Ab.len, List.length_map]; exact ok.b1
    have lys : ys.length ≤ 16 := by rw [Ap.len, List.length_map]; exact ok.m1
    have lzs : zs.length ≤ 6 := by rw [Ae.len, List.length_map]; exact ok.e1
    refine ⟨_, rfl, a, _, rfl, hS, rfl, _, _, rfl, _, _, rfl, _, _, rfl, _, _, rfl, _, _, rfl, _, _, rfl, rfl, ?_⟩
    refine ⟨_, rfl, ab, xs, rfl, .inr sb, fun l1 n1 => ?_⟩
    have q1 := new_same (o := .lst xs) n1
    refine ⟨_, rfl, ap, ys, rfl, .inr ((TK.of_same q1).sqt sp), fun l2 n2 => ?_⟩
    have q2 := q1.trans (new_same (o := .lst ys) n2)
    refine ⟨_, rfl, ae, zs, rfl, .inr ((TK.of_same q2).sqt se), fun l3 n3 => ?_⟩
    have q3 := q2.trans (new_same (o := .lst zs) n3)
    refine ⟨Nat.le_of_lt (small1000 (show 3 ≤ 1000 by decide)), fun h nh => ?_⟩
    have q4 := q3.trans (new_same (o := .lst [.ref l1, .ref l2, .ref l3]) nh)
    have e3 : (upd (upd (upd (upd H1 l1 (.lst xs)) l2 (.lst ys)) l3 (.lst zs)) h (.lst [.ref l1, .ref l2, .ref l3])) l3 = some (.lst zs) := (new_same nh) _ _ upd_same
    have e2 : (upd (upd (upd (upd H1 l1 (.lst xs)) l2 (.lst ys)) l3 (.lst zs)) h (.lst [.ref l1, .ref l2, .ref l3])) l2 = some (.lst ys) := (new_same nh) _ _ ((new_same n3) _ _ upd_same)
    have e1 : (upd (upd (upd (upd H1 l1 (.lst xs)) l2 (.lst ys)) l3 (.lst zs)) h (.lst [.ref l1, .ref l2, .ref l3])) l1 = some (.lst xs) := (new_same nh) _ _ ((new_same n3) _ _ ((new_same n2) _ _ upd_same))
    have D2 : DrC (upd (upd (upd (upd H1 l1 (.lst xs)) l2 (.lst ys)) l3 (.lst zs)) h (.lst [.ref l1, .ref l2, .ref l3])) d c := (((D1.new n1).new n2).new n3).new nh
    generalize hH2 : (upd (upd (upd (upd H1 l1 (.lst xs)) l2 (.lst ys)) l3 (.lst zs)) h (.lst [.ref l1, .ref l2, .ref l3])) = H2 at *
    have eh : H2 h = some (.lst [.ref l1, .ref l2, .ref l3]) := by rw [← hH2]; exact upd_same
    have t2 := TK.of_same q4
    refine ⟨_, rfl, h, _, 0, _, rfl, rfl, SqL.of eh, atI_nat (j := 0) rfl, ?_⟩
    refine ⟨_, rfl, h, _, 1, _, rfl, rfl, SqL.of eh, atI_nat (j := 1) rfl, ?_⟩
    refine ⟨_, rfl, _, rfl, h, _, 2, _, rfl, rfl, SqL.of eh, atI_nat (j := 2) rfl, ?_⟩
    refine ⟨_, rfl, _, rfl, rfl, rfl, fun x dx nx nd ne => ?_⟩
    refine init_of nx nd ne ok (.inl (SqL.of e1)) (Ab.keep t2) (.inl (SqL.of e2)) (Ap.keep t2) (.inl (SqL.of e3)) (Ae.keep t2) fun H3 s3 rx => ?_
    have t3 := t2.trans (TK.of_same s3)
    have D3 : DrC H3 d c := by
      obtain ⟨ne, m, n, ns, ha, hc, z⟩ := D2
      exact ⟨ne, m, n, ns, s3 _ _ ha, s3 _ _ hc, z⟩
    -- rule.told() is told
    obtain ⟨dx', tw, ex, tt⟩ := id rx
    refine ⟨_, rfl, x, dx', _, rfl, ex, told_no tw, x, ruleD r, rfl, rx, fun u tu => ?_⟩
    refine ⟨_, rfl, u, .ref a, ruleD r, rfl, tu.dp, (tv.keep t3).dp, rfl, okd, true, rfl, ?_⟩
    have e1' := s3 _ _ e1
    have e2' := s3 _ _ e2
    have e3' := s3 _ _ e3
    have eh' := s3 _ _ eh
    have hne : ∀ l ∈ [l1, l2, l3], l ≠ d ∧ l ≠ c ∧ l ≠ h := by
      have hq : ∀ l us, (upd (upd (upd H1 l1 (.lst xs)) l2 (.lst ys)) l3 (.lst zs)) l = some us → l ≠ h := fun l us e => ne_of_none e nh
      intro l hl
      simp only [List.mem_cons, List.not_mem_nil, or_false] at hl
      rcases hl with rfl | rfl | rfl
      · exact ⟨D1.nd n1, D1.nc n1, hq _ _ ((new_same n3) _ _ ((new_same n2) _ _ upd_same))⟩
      · exact ⟨(D1.new (o := .lst xs) n1).nd n2, (D1.new (o := .lst xs) n1).nc n2, hq _ _ ((new_same n3) _ _ upd_same)⟩
      · exact ⟨((D1.new (o := .lst xs) n1).new (o := .lst ys) n2).nd n3, ((D1.new (o := .lst xs) n1).new (o := .lst ys) n2).nc n3, hq _ _ upd_same⟩
    refine ⟨_, rfl, h, rfl, ⟨_, SqL.of eh'⟩, ?_⟩
    refine for_list (K := K) (a := h) (xs := [.ref l1, .ref l2, .ref l3]) (fun i σ H' => ∃ y10, σ = [some (.ref d), some (.ref a), some (.ref ab), some (.ref ap), some (.int r.seats), some (.ref ae), some (.int r.longest), some (.str r.halted), some (.ref h), some (.ref x), y10, none, none, none, none] ∧
        LI K C H3 H' d c h x [l1, l2, l3] (ruleD r) (20 + i))
      ⟨none, rfl, TK.refl, D3, eh', fun l hl => by
        simp only [List.mem_cons, List.not_mem_nil, or_false] at hl
        rcases hl with rfl | rfl | rfl
        · exact ⟨_, e1', by omega⟩
        · exact ⟨_, e2', by omega⟩
        · exact ⟨_, e3', by omega⟩, rx⟩ (fun i σ H' _ hh => by obtain ⟨_, _, I⟩ := hh; exact SqL.of I.hh) ?_ ?_
    · rintro i v σ H4 hi ⟨y10, rfl, I4⟩
      obtain ⟨l, hl, rfl⟩ : ∃ l ∈ [l1, l2, l3], v = .ref l := by
        have := List.mem_of_getElem? hi
        simp only [List.mem_cons, List.not_mem_nil, or_false] at this
        rcases this with rfl | rfl | rfl
        · exact ⟨l1, by simp, rfl⟩
        · exact ⟨l2, by simp, rfl⟩
        · exact ⟨l3, by simp, rfl⟩
      have hi3 : i < 3 := by
        rcases Nat.lt_or_ge i 3 with h | h
        · exact h
        · rw [List.getElem?_eq_none (by exact h)] at hi
          cases hi
      obtain ⟨ld, lc, lh⟩ := hne l hl
      obtain ⟨ws, el, lw⟩ := I4.hl l hl
      have I5 := I4.upd (ws' := ws ++ [.non]) (m := 20 + (i + 1)) hl ld lc lh (by omega) (by rw [List.length_append]; show ws.length + 1 ≤ _; omega)
      refine ⟨_, rfl, .inl ⟨rfl, _, SqL.of el⟩, l, ws, _, rfl, rfl, el, small1000 (by omega), ?_⟩
      refine ⟨_, rfl, .inl ⟨rfl, _, SqL.of upd_same⟩, l, _, rfl, rfl, upd_same, _, rfl, ?_⟩
      exact I5.upd hl ld lc lh (Nat.le_refl _) (by rw [List.length_reverse, List.length_append]; show ws.length + 1 ≤ _; omega)
    rintro σ H4 ⟨y10, rfl, I4⟩
    have t4 := t3.trans I4.tk
    have Tb := Td.keep t4 (Td.tup sb Ab)
    have Tp := Td.keep t4 (Td.tup sp Ap)
    have Te := Td.keep t4 (Td.tup se Ae)
    refine ⟨_, rfl, _, rfl, _, rfl, _, rfl, _, rfl, _, rfl, rfl, rfl, fun x2 dx2 nx2 nd2 ne2 => ?_⟩
    refine init_of nx2 nd2 ne2 ok (.inr (t4.sqt sb)) (Ab.keep t4) (.inr (t4.sqt sp)) (Ap.keep t4) (.inr (t4.sqt se)) (Ae.keep t4) fun H5 s5 rx2 => ?_
    have rx5 := I4.rx.same s5
    have t5 := t4.trans (TK.of_same s5)
    have D5 : DrC H5 d c := by
      obtain ⟨ne, m, n, ns, ha, hc, z⟩ := I4.dr
      exact ⟨ne, m, n, ns, s5 _ _ ha, s5 _ _ hc, z⟩
    obtain ⟨dx5, tw5, ex5, tt5⟩ := id rx5
    refine ⟨_, rfl, x, dx5, _, rfl, ex5, told_no tw5, x, ruleD r, rfl, rx5, fun u tu => ?_⟩
    refine ⟨_, rfl, u, .ref a, ruleD r, rfl, tu.dp, (tv.keep t5).dp, rfl, okd, true, rfl, ?_⟩
    have hrefl : PyData.eqv (ruleD r) (ruleD r) = true := SeqAt.eqv_refl _ okd.lay
    refine ⟨_, rfl, _, rfl, own_yes R I N rx5 rx2 shd shd ?_⟩
    rw [hrefl]
    refine ⟨_, rfl, ?_⟩
    refine ⟨_, rfl, _, rfl, own_yes R I N rx2 rx5 shd shd ?_⟩
    rw [hrefl]
    refine ⟨_, rfl, ?_⟩
    -- other
    refine ⟨_, rfl, _, rfl, d, c, .ref a, r, rfl, D5, tv.keep t5, ok, fun v' r' H6 D6 k6 tv' ok' ne' => ?_⟩
    refine ⟨v', r', rfl, tv', ok', fun x3 H7 s7 rx3 => ?_⟩
    have okd' := (okd_rule ok').mono (show 5 ≤ 64 by decide) (show 400000 ≤ sizeLine by decide)
    have shd' := (okd_rule ok').shaped (by decide)
    have rx7 := (rx5.kp D5 k6).same s7
    have t7 := (t5.trans (k6.tk D5)).trans (TK.of_same s7)
    have D7 : DrC H7 d c := by
      obtain ⟨ne, m, n, ns, ha, hc, z⟩ := D6
      exact ⟨ne, m, n, ns, s7 _ _ ha, s7 _ _ hc, z⟩
    obtain ⟨un1, un2⟩ := unlike ne'
    refine ⟨_, rfl, _, rfl, own_yes R I N rx7 rx3 shd shd' ?_⟩
    rw [un2]
    refine ⟨_, rfl, ?_⟩
    refine ⟨_, rfl, _, rfl, own_yes R I N rx3 rx7 shd' shd ?_⟩
    rw [un1]
    refine ⟨_, rfl, ?_⟩
    refine ⟨_, rfl, _, rfl, own_no rx7 (ty_tup (t7.sqt hS)) N.n1 N.k1 ⟨_, rfl, ?_⟩⟩
    refine ⟨_, rfl, ?_⟩
    dsimp only [tC]
    refine own_no rx7 (.base (.str _)) N.n2 N.k2 ⟨_, rfl, ?_⟩
    refine ⟨_, rfl, Nat.zero_le _, fun l8 n8 => own_no (rx7.same (new_same n8)) (.base (.lst upd_same)) N.n3 N.k3 ⟨_, rfl, ?_⟩⟩
    have rx8 := rx7.same (new_same (o := .lst []) n8)
    have rx38 := rx3.same (new_same (o := .lst []) n8)
    have t8 := t7.trans (TK.of_same (new_same (o := .lst []) n8))
    have D8 := D7.new (o := .lst []) n8
    generalize hH8 : (upd H7 l8 (.lst [])) = H8 at *
    obtain ⟨dx8, tw8, ex8, tt8⟩ := id rx8
    obtain ⟨dx38, tw38, ex38, tt38⟩ := id rx38
    refine ⟨_, rfl, x3, dx38, _, rfl, ex38, told_no tw38, x3, ruleD r', rfl, rx38, fun u tu => ?_⟩
    refine ⟨_, rfl, x3, dx38, _, rfl, ex38, told_no tw38, x3, ruleD r', rfl, rx38, fun u' tu' => ?_⟩
    refine ⟨u, u', ruleD r', rfl, tu.dp, tu'.dp, rfl, okd', true, rfl, ?_⟩
    refine ⟨_, rfl, x, dx8, _, rfl, ex8, told_no tw8, x, ruleD r, rfl, rx8, fun u tu => ?_⟩
    refine ⟨_, rfl, u, .ref a, ruleD r, rfl, tu.dp, (tv.keep t8).dp, rfl, okd, true, rfl, ?_⟩
    have sx : ∀ (l : Addr) (wv : V) (m : MoveD) (H9 : Hp), Same H8 H9 → H9 l = some (.lst [wv]) → Td K H9 wv (moveD m) → MoveOk r.begun.length 2 m → ∀ x4 dx4, H9 x4 = none → H9 dx4 = none → dx4 ≠ x4 →
        ∀ Rk : Hp → Prop, (∀ H3 m', RuleAt K C H3 x4 (ruleD ⟨r.begun, [m'], 2, [], 40, Str.ofString "lose"⟩) → DrC H3 d c → Rk H3) →
        spInit K C [.ref x4, .ref ab, .ref l, .int 2, .ref e, .int 40, .str (Str.ofString "lose")] (upd (upd H9 dx4 (.own x4)) x4 (.ins C dx4 [])) (fun v H3 => v = .non ∧ Rk H3) E0 := by
      intro l wv m H9 s9 hl tm om x4 dx4 nx nd ne Rk hRk
      have t9 := t8.trans (TK.of_same s9)
      refine init_of (r := ⟨r.begun, [m], 2, [], 40, Str.ofString "lose"⟩) nx nd ne ?_ (.inr (t9.sqt sb)) (Ab.keep t9) (.inl (SqL.of hl)) (.cons tm .nil) (.inr (he _)) .nil fun H3 s3 rx => hRk H3 m rx ?_
      · refine ⟨ok.b0, ok.b1, ok.bs, (show (2 : Int) ≤ 2 by decide), (show (2 : Int) ≤ 4 by decide), (by decide : 1 ≤ 1), (by decide : 1 ≤ 16), fun m' hm => ?_, List.nodup_cons.mpr ⟨by simp, List.nodup_nil⟩, Nat.zero_le _, (fun _ h => nomatch h), (show (1 : Int) ≤ 40 by decide), (show (40 : Int) ≤ 60 by decide), .inl rfl⟩
        rw [List.mem_singleton.mp hm]
        exact om
      · obtain ⟨ne, m, n, ns, ha, hc, z⟩ := D8
        exact ⟨ne, m, n, ns, s3 _ _ (s9 _ _ ha), s3 _ _ (s9 _ _ hc), z⟩
    refine ⟨fun σ' H' => ∃ x4 m', σ'[13]? = some (some (.ref x4)) ∧ RuleAt K C H' x4 (ruleD ⟨r.begun, [m'], 2, [], 40, Str.ofString "lose"⟩) ∧ DrC H' d c, ?_, ?_⟩
    · refine ⟨_, rfl, _, rfl, ap, rfl, ⟨_, t8.sqt sp⟩, fun G nG => ?_⟩
      refine lc_tup (K := K) (a := ap) (xs := ys) (fun i H' => ∃ ws ms', H' G = some (.lst ws) ∧ ws.length ≤ i ∧ TdAll K H' ws (List.map moveD ms') ∧ (∀ m ∈ ms', m ∈ r.plays ∧ (m.by_ = none ∨ m.by_ = some 0 ∨ m.by_ = some 1)) ∧ Same H8 H')
        ⟨[], [], upd_same, Nat.le_refl _, .nil, (fun _ h => nomatch h), new_same nG⟩ (fun i H' _ hh => by obtain ⟨_, _, _, _, _, _, s⟩ := hh; exact (t8.trans (TK.of_same s)).sqt sp) ?_ ?_
      · rintro i v H9 hi ⟨ws, ms', hG, lw, tw, hm, s9⟩
        have t9 := t8.trans (TK.of_same s9)
        obtain ⟨mm, hmm, tm⟩ := all_get (Ap.keep t9) hi
        obtain ⟨bm, v2, v3, v4, rfl, hB, tby, _⟩ := move_at tm
        have hi' : i < ys.length := by
          rcases Nat.lt_or_ge i ys.length with h | h
          · exact h
          · rw [List.getElem?_eq_none h] at hi
            cases hi
        refine ⟨rfl, ?_⟩
        refine ⟨_, rfl, bm, _, 1, _, rfl, rfl, hB, atI_nat (j := 1) rfl, Nat.le_of_lt (small1000 (show 3 ≤ 1000 by decide)), fun q' nq => ?_⟩
        have s10 := new_same (o := .tup [.non, .int 0, .int 1]) nq
        have Gq : G ≠ q' := ne_of_none hG nq
        have nG8 : H8 G = none := nG
        refine ⟨q', _, rfl, .inr (.inl (.inl upd_same)), (by cases byV_of tby; cases mm.by_ <;> rfl), rfl, _, rfl, ?_⟩
        cases byV_of tby
        refine ite2 (fun hin => ?_) (fun hin => ?_)
        · refine ⟨_, rfl, ws, s10 _ _ hG, small1000 (by omega), ws ++ [.ref bm], ms' ++ [mm], upd_same, by rw [List.length_append]; show ws.length + 1 ≤ _; omega, ?_, ?_, ?_⟩
          · have k10 : TK H9 (upd (upd H9 q' (.tup [.non, .int 0, .int 1])) G (.lst (ws ++ [.ref bm]))) := (TK.of_same s10).trans (TK.upd (s10 _ _ hG) fun z => z)
            rw [List.map_append]
            exact (tw.keep k10).app (.cons (tm.keep k10) .nil)
          · intro m hmem
            rcases List.mem_append.mp hmem with h | h
            · exact hm m h
            · rw [List.mem_singleton.mp h]
              exact ⟨mem_of_at hmm, by_in hin⟩
          · intro b' o' e'
            rw [upd_ne (ne_of_none e' nG8)]
            exact s10 _ _ (s9 _ _ e')
        · exact ⟨ws, ms', s10 _ _ hG, by omega, tw.keep (TK.of_same s10), hm, s9.trans s10⟩
      · rintro H9 ⟨ws, ms', hG, lw, tw, hm, s9⟩
        refine ⟨1, rfl, G, ws, rfl, SqL.of hG, fun l9 n9 => ?_⟩
        rw [cut1]
        have s10 := s9.trans (new_same (o := .lst (ws.take 1)) n9)
        cases hw : ws with
        | nil =>
          refine ⟨_, .inl ⟨_, SqL.of upd_same, rfl⟩, ?_⟩
          refine ⟨Nat.zero_le _, fun a1 m1 => ?_⟩
          refine ⟨Nat.le_of_lt (small1000 (show 3 ≤ 1000 by decide)), fun a2 m2 => ?_⟩
          refine ⟨Nat.le_of_lt (small1000 (show 1 ≤ 1000 by decide)), fun a3 m3 => ?_⟩
          refine ⟨Nat.le_of_lt (small1000 (show 4 ≤ 1000 by decide)), fun a4 m4 => ?_⟩
          refine ⟨Nat.le_of_lt (small1000 (show 1 ≤ 1000 by decide)), fun a5 m5 => ?_⟩
          have w1 := new_same (o := .tup []) m1
          have w2 := new_same (o := .tup [.int 0, .str (Str.ofString "put"), .int 1]) m2
          have w3 := new_same (o := .tup [.ref a2]) m3
          have w4 := new_same (o := .tup [.str (Str.ofString "a"), .int 1, .ref a1, .ref a3]) m4
          have w5 := new_same (o := .lst [.ref a4]) m5
          intro x4 dx4 nx4 nd4 ne4
          rw [hw] at s10
          refine sx a5 (.ref a4) ⟨Str.ofString "a", some 1, [], [(0, Str.ofString "put", 1)]⟩ _ (((((s10.trans w1).trans w2).trans w3).trans w4).trans w5) upd_same ?_ ?_ x4 dx4 nx4 nd4 ne4 _ fun H3 m' rx D3 => ⟨x4, m', rfl, rx, D3⟩
          · have T1 := (Td.tup (K := K) (ds := []) (.inl (.inl (w5 _ _ (w4 _ _ (w3 _ _ (w2 _ _ upd_same)))))) .nil)
            have T3 := (one_tup (K := K) (w3 _ _ upd_same) upd_same).keep (TK.of_same (w4.trans w5))
            exact .tup (.inl (.inl (w5 _ _ upd_same))) (.cons (.str _) (.cons (.int _) (.cons T1 (.cons T3 .nil))))
          · have b0 := ok.b0
            refine ⟨by decide +kernel, (fun i h => by cases h; exact ⟨by decide, by decide⟩), Nat.zero_le _, (fun _ h => nomatch h), (by decide : 1 ≤ 1), (by decide : 1 ≤ 4), fun t' ht => ?_, List.nodup_cons.mpr ⟨by simp, List.nodup_nil⟩⟩
            rw [List.mem_singleton.mp ht]
            exact ⟨⟨by show (0 : Int) ≤ 0; decide, by show (0 : Int) ≤ (r.begun.length : Int) - 1; omega⟩, .inl ⟨rfl, by show (0 : Int) ≤ 1; decide, by show (1 : Int) ≤ 9; decide⟩⟩
        | cons wv wr =>
          refine ⟨_, .inl ⟨_, SqL.of upd_same, rfl⟩, ?_⟩
          intro x4 dx4 nx4 nd4 ne4
          rw [hw] at s10 tw
          cases ms' with
          | nil => cases tw
          | cons m0 mr =>
            cases tw with
            | cons tm0 _ =>
              obtain ⟨hm0, hby⟩ := hm m0 List.mem_cons_self
              have om := ok.ms m0 hm0
              refine sx l9 wv m0 _ s10 upd_same (tm0.keep (TK.of_same (new_same n9))) ⟨om.name, fun i hi => ?_, om.tl, om.ts, om.cl0, om.cl, om.cs, om.nd⟩ x4 dx4 nx4 nd4 ne4 _ fun H3 m' rx D3 => ⟨x4, m', rfl, rx, D3⟩
              rw [hi] at hby
              rcases hby with h | h | h
              · cases h
              · cases h; exact ⟨by decide, by decide⟩
              · cases h; exact ⟨by decide, by decide⟩
    · rintro σ' H9 ⟨x4, m', h13, rx4, D9⟩
      obtain ⟨dx4, tw4, ex4, tt4⟩ := id rx4
      refine ⟨_, h13, x4, dx4, _, rfl, ex4, told_no tw4, x4, _, rfl, rx4, fun u tu => ?_⟩
      obtain ⟨a4, b4, p4, en4, rfl, hS4, _, _, te4⟩ := rule_at tu
      refine ⟨2, rfl, a4, _, rfl, hS4, (fun h => absurd (show (2 : Nat) = 0 from h.1) (by decide)), fun p5 n5 => ?_⟩
      refine ⟨Nat.zero_le _, fun p6 n6 => ⟨Nat.le_of_lt (small1000 (show 4 ≤ 1000 by decide)), fun p7 n7 => ?_⟩⟩
      have v6 := new_same (o := .tup []) n6
      have v7 := new_same (o := .tup [.int 2, .ref p6, .int 40, .str (Str.ofString "lose")]) n7
      have Te4 := (te4.keep (TK.of_same (new_same (o := .tup [.int 2, en4, .int 40, .str (Str.ofString "lose")]) n5))).keep (TK.of_same (v6.trans v7))
      refine ⟨.ref p5, .ref p7, .tuple [.int 2, .tuple [], .int 40, .str (Str.ofString "lose")], rfl, Td.dp ?_, Td.dp ?_, rfl, ?_, q _ (((D9.new n5).new n6).new n7)⟩
      · exact .tup (.inl (.inl (v7 _ _ (v6 _ _ upd_same)))) (.cons (.int _) (.cons Te4 (.cons (.int _) (.cons (.str _) .nil))))
      · exact .tup (.inl (.inl upd_same)) (.cons (.int _) (.cons (.tup (.inl (.inl (v7 _ _ upd_same))) .nil) (.cons (.int _) (.cons (.str _) .nil))))
      · refine (okd_tup (ds := [.int 2, .tuple [], .int 40, .str (Str.ofString "lose")]) (n := 1) (b := 82) (m := 4) (fun dd hd => ?_) (Nat.le_refl 4)).mono (by decide) (by decide)
        simp only [List.mem_cons, List.not_mem_nil, or_false] at hd
        rcases hd with rfl | rfl | rfl | rfl
        · exact (okd_int (by decide) (by decide)).mono (by decide) (by decide)
        · exact (okd_tup (ds := []) (n := 0) (b := 3) (m := 0) (fun _ h => nomatch h) (Nat.le_refl 0)).mono (by decide) (by decide)
        · exact (okd_int (by decide) (by decide)).mono (by decide) (by decide)
        · exact (okd_str (by decide +kernel)).mono (by decide) (by decide)
/-- the law -/
def spLaw (K : PySem.W.Frag) : Sp := fun vs H Q _ => ∃ (s : Addr) (ns : List Int), vs = [.ref s] ∧ SqL K H s (ns.map V.int) ∧ ns.length ≤ 63 ∧ ∀ H', Q (.bl true) H'
theorem ok_law {f C : Addr} {fd : FuncData} (F : Fun K "law" "law" s_law f fd) (T : TM mg) (R : TR K mg C)
    (C_law_begin : Cal P w K mg base "_law_begin" 1 ["script"] (spBegin K)) (C_law_right : CalG P w K mg base "_law_right" 9 ["draw"] spRight) :
    G0.FnG P w K mg base CX0 10 f fd ["script"] (spLaw K) := by
  refine G0.okG F sc_law (fun vs H Q E h => ?_) (fun cdv A outer s H vs Q E gu hr h => ?_)
  · obtain ⟨a, ns, rfl, _⟩ := h
    rfl
  · obtain ⟨a, ns, rfl, hS, hl, q⟩ := h
    refine ⟨_, (pss_cons (ps_set (i := 1) sc_law.nd rfl (.inl rfl) (D0.pe_cal C_law_begin (hr.mono (by decide)) (by rfl) (pa_cons (pv 0) pa_nil)))
      (pss_cons (ps_for PassesOwn.never rfl (pi_range1 (by rfl) T.m_range (pa_cons pe_int pa_nil)) (pg_name (i := 2) sc_law.nd rfl (.inl rfl))
        (pss_one (ps_if (pt_not (pt_val (D0.pe_calG gu C_law_right (hr.mono (by decide)) (by rfl) (pa_cons (pv 1) pa_nil))))
        (pss_one (ps_ret pe_bl))
        pss_nil)))
      (pss_one (ps_ret (pe_cmpR (op_eqD hr.units) (pe_tup (pa_cons (pe_glob (v := .int 40) (by rfl) R.g_MOST.choose_spec ⟨_, rfl⟩) (pa_cons (pe_glob (v := .str (Str.ofString "lose")) (by rfl) R.g_LOSE.choose_spec ⟨_, rfl⟩) (pa_cons (pe_glob (v := .str (Str.ofString "even")) (by rfl) R.g_EVEN.choose_spec ⟨_, rfl⟩) pa_nil)))) (pe_tup (pa_cons pe_int (pa_cons pe_str (pa_cons pe_str pa_nil)))) (nomark _)))))), ?_⟩
    refine ⟨_, rfl, a, ns, rfl, hS, hl, fun d c H1 D1 s1 => ?_⟩
    refine ⟨3, rfl, by decide, by decide, ?_⟩
    refine for_range (lo := 0) (n := 3) (fun i σ H' => ∃ y2, σ = [some (.ref a), some (.ref d), y2] ∧ DrC H' d c) ⟨none, rfl, D1⟩ ?_ ?_
    · rintro i σ H2 hi ⟨y2, rfl, D2⟩
      exact ⟨_, rfl, d, c, rfl, D2, fun H' D' => ⟨true, rfl, _, rfl, D'⟩⟩
    · rintro σ H2 ⟨y2, rfl, D2⟩
      refine ⟨Nat.le_of_lt (small1000 (show 3 ≤ 1000 by decide)), fun p1 n1 => ⟨Nat.le_of_lt (small1000 (show 3 ≤ 1000 by decide)), fun p2 n2 => ?_⟩⟩
      have v2 := new_same (o := .tup [.int 40, .str (Str.ofString "lose"), .str (Str.ofString "even")]) n2
      refine ⟨.tuple [.int 40, .str (Str.ofString "lose"), .str (Str.ofString "even")], .tuple [.int 40, .str (Str.ofString "lose"), .str (Str.ofString "even")], Td.dp (.tup (.inl (.inl (v2 _ _ upd_same))) (.cons (.int _) (.cons (.str _) (.cons (.str _) .nil)))), Td.dp (.tup (.inl (.inl upd_same)) (.cons (.int _) (.cons (.str _) (.cons (.str _) .nil)))), by decide +kernel, by decide +kernel, ?_⟩
      have e : PyData.eqv (.tuple [.int 40, .str (Str.ofString "lose"), .str (Str.ofString "even")]) (.tuple [.int 40, .str (Str.ofString "lose"), .str (Str.ofString "even")]) = true := by decide +kernel
      rw [e]
      exact q _
end
end PL
namespace PL
open PySem PySem.Spec PyProof.Rows L2 D0
theorem DrC.same {H H' : Hp} {d c : Addr} (D : DrC H d c) (s : Same H H') : DrC H' d c := by
  obtain ⟨ne, m, n, ns, ha, hc, z⟩ := D
  exact ⟨ne, m, n, ns, s _ _ ha, s _ _ hc, z⟩
/-! ### tuples cut and put together -/
section
variable {K : PySem.W.Frag} {H : Hp} {x y : V} {ds es : List PyData} {Q : VK}
theorem cat_td (hx : Td K H x (.tuple ds)) (hy : Td K H y (.tuple es)) (hl : ds.length + es.length ≤ 1000) (q : ∀ v H', Same H H' → Td K H' v (.tuple (ds ++ es)) → Q v H') : rCatA K x y H Q := by
  obtain ⟨a, xs, rfl, sa, A⟩ := hx.tuple
  obtain ⟨b, ys, rfl, sb, B⟩ := hy.tuple
  have la := A.len
  have lb := B.len
  refine ⟨a, b, xs, ys, rfl, rfl, sa, sb, Nat.le_of_lt (small1000 (by omega)), fun e => ?_, fun _ e => ?_, fun _ _ p np => ?_⟩
  · subst e
    cases A
    exact q _ _ (Same.refl _) (.tup sb B)
  · subst e
    cases B
    rw [List.append_nil] at q
    exact q _ _ (Same.refl _) (.tup sa A)
  · have k := TK.of_same (new_same (o := .tup (xs ++ ys)) np)
    exact q _ _ (new_same np) (.tup (.inl (.inl upd_same)) ((A.keep k).app (B.keep k)))
theorem tda_drop : ∀ {vs : List V} {ds : List PyData} (n : Nat), TdAll K H vs ds → TdAll K H (vs.drop n) (ds.drop n)
  | _, _, 0, h => h
  | _, _, _ + 1, .nil => .nil
  | _, _, n + 1, .cons _ t => tda_drop n t
theorem tda_take : ∀ {vs : List V} {ds : List PyData} (n : Nat), TdAll K H vs ds → TdAll K H (vs.take n) (ds.take n)
  | _, _, 0, h => by rw [List.take_zero, List.take_zero]; exact .nil
  | _, _, _ + 1, .nil => .nil
  | _, _, n + 1, .cons a t => .cons a (tda_take n t)
def cutD (ds : List PyData) (lo hi : Option Int) : List PyData := (ds.drop (HT.sIx ds.length 0 lo)).take (HT.sIx ds.length ds.length hi - HT.sIx ds.length 0 lo)
theorem sl_td {lo hi : Option Int} (hx : Td K H x (.tuple ds)) (q : ∀ v H', Same H H' → Td K H' v (.tuple (cutD ds lo hi)) → Q v H') : rSlA K x lo hi H Q := by
  obtain ⟨a, xs, rfl, sa, A⟩ := hx.tuple
  have la := A.len
  refine ⟨a, xs, rfl, sa, fun e => ?_, fun _ p np => ?_⟩
  · refine q _ _ (Same.refl _) ?_
    unfold cutD
    rw [← la, e.1, e.2, List.drop_zero, Nat.sub_zero, la, List.take_length]
    exact .tup sa A
  · have k := TK.of_same (new_same (o := .tup (cutV xs lo hi)) np)
    refine q _ _ (new_same np) (.tup (.inl (.inl upd_same)) ?_)
    unfold cutD cutV
    rw [← la]
    exact tda_take _ (tda_drop _ (A.keep k))
theorem cut_tail (d : PyData) (ds : List PyData) : cutD (d :: ds) (some 1) none = ds := by
  show List.take ((ds.length + 1) - min 1 (ds.length + 1)) (List.drop (min 1 (ds.length + 1)) (d :: ds)) = ds
  rw [Nat.min_eq_left (by omega), List.drop_succ_cons, List.drop_zero, Nat.add_sub_cancel, List.take_length]
theorem cut_init (ds : List PyData) (d : PyData) : cutD (ds ++ [d]) none (some (-1)) = ds := by
  show List.take ((-1 + ((ds ++ [d]).length : Int)).toNat - 0) (List.drop 0 (ds ++ [d])) = ds
  rw [List.drop_zero, List.length_append, show ((-1 + ((ds.length + [d].length : Nat) : Int)).toNat - 0) = ds.length by simp; omega, List.take_left]
theorem tda_snoc : ∀ {vs : List V} {ds : List PyData} {e : PyData}, TdAll K H vs (ds ++ [e]) → ∃ ws w, vs = ws ++ [w] ∧ TdAll K H ws ds ∧ Td K H w e
  | _, [], _, .cons h .nil => ⟨[], _, rfl, .nil, h⟩
  | _, _ :: _, _, .cons h t => by
    obtain ⟨ws, w, e, a, b⟩ := tda_snoc t
    subst e
    exact ⟨_ :: ws, w, rfl, .cons h a, b⟩
theorem snoc_of {α : Type} : ∀ {xs : List α}, 1 ≤ xs.length → ∃ ys y, xs = ys ++ [y]
  | [], h => absurd h (Nat.not_succ_le_zero 0)
  | [x], _ => ⟨[], x, rfl⟩
  | x :: y :: r, _ => by
    obtain ⟨ys, z, e⟩ := snoc_of (xs := y :: r) (by simp)
    exact ⟨x :: ys, z, by rw [e]; rfl⟩
end
theorem okd_closes {r : RuleD} (h : RuleOk r) : Okd (.tuple (r.closes.map endD)) 4 66195 := by
  have b1 := h.b1
  refine (okd_tup (n := 3) (b := 2069) (m := 6) (fun d hd => ?_) (by rw [List.length_map]; exact h.e1)).mono (by decide) (by decide)
  obtain ⟨m, hm, rfl⟩ := List.mem_map.mp hd
  exact okd_end (by omega) h.s1 (h.es m hm)
theorem ok_begun {r : RuleD} (ok : RuleOk r) {bg : List Int} (hl : bg.length = r.begun.length) (hb : ∀ n ∈ bg, 0 ≤ n ∧ n ≤ 9) : RuleOk { r with begun := bg } := by
  refine ⟨by show 1 ≤ bg.length; rw [hl]; exact ok.b0, by show bg.length ≤ 12; rw [hl]; exact ok.b1, hb, ok.s0, ok.s1, ok.m0, ok.m1, ?_, ok.mn, ok.e1, ?_, ok.l0, ok.l1, ok.h⟩
  · show ∀ m ∈ r.plays, MoveOk bg.length r.seats m
    rw [hl]; exact ok.ms
  · show ∀ e ∈ r.closes, EndOk bg.length r.seats e
    rw [hl]; exact ok.es
end PL
namespace PL
open PySem PySem.Spec PyProof.Rows L2 D0
def zz (c : Nat) : Str := Str.ofString "zz" ++ sgn c
def abc26 : List Nat := List.range' 97 26
def zzs : List Str := abc26.map zz
theorem abc26_list : (Str.ofString "abcdefghijklmnopqrstuvwxyz").cps.toList = abc26 := by decide +kernel
theorem abc_at {i cc : Nat} (h : (Str.ofString "abcdefghijklmnopqrstuvwxyz").cps[i]? = some cc) : abc26[i]? = some cc := by
  rw [← abc26_list, Array.getElem?_toList]
  exact h
theorem zz_name : ∀ z ∈ zzs, nameB z = true := by decide +kernel
theorem zz_nodup : zzs.Nodup := by decide +kernel
theorem zz_new (zs : List Str) (h : zs.length < 26) : ∃ y r, zzs.filter (fun a => !decide (a ∈ zs)) = y :: r ∧ y ∉ zs ∧ nameB y = true := by
  cases e : zzs.filter (fun a => !decide (a ∈ zs)) with
  | nil =>
    have := len_sub zzs zs zz_nodup fun x hx => by
      rcases Decidable.em (x ∈ zs) with h | h
      · exact h
      · have : x ∈ zzs.filter (fun a => !decide (a ∈ zs)) := List.mem_filter.mpr ⟨hx, by simp [h]⟩
        rw [e] at this
        cases this
    have l26 : zzs.length = 26 := by decide
    omega
  | cons y r =>
    have : y ∈ zzs.filter (fun a => !decide (a ∈ zs)) := by rw [e]; exact List.mem_cons_self
    obtain ⟨m, hn⟩ := List.mem_filter.mp this
    exact ⟨y, r, rfl, by simpa using hn, zz_name y m⟩
section
variable {P : Program} {w : World} {K : PySem.W.Frag} {mg : Str → Option Value} {base : Heap}
set_option maxHeartbeats 0 in
theorem ok_otherwise {f : Addr} {fd : FuncData} (F : Fun K "_law_otherwise" "_law_otherwise" s_law_otherwise f fd) (T : TM mg)
    (C_law_take : Cal P w K mg base "_law_take" 1 ["draw", "size"] spTake) : FnOk P w K mg base CX0 3 f fd ["draw", "told"] (spOther K) := by
  refine F.ok sc_law_otherwise (fun vs H Q E h => ?_) (fun cdv A outer s H vs Q E hr h => ?_)
  · obtain ⟨d, c, v, r, rfl, _⟩ := h
    rfl
  · obtain ⟨d, c, v, r, rfl, D, tv, ok, q⟩ := h
    refine ⟨_, (pss_cons (ps_asg (pv 1) (pg_tup rfl (pgs_cons (pg_name (i := 2) sc_law_otherwise.nd rfl (.inl rfl)) (pgs_cons (pg_name (i := 3) sc_law_otherwise.nd rfl (.inr rfl)) (pgs_cons (pg_name (i := 4) sc_law_otherwise.nd rfl (.inl rfl)) (pgs_cons (pg_name (i := 5) sc_law_otherwise.nd rfl (.inl rfl)) (pgs_cons (pg_name (i := 6) sc_law_otherwise.nd rfl (.inl rfl)) (pgs_cons (pg_name (i := 7) sc_law_otherwise.nd rfl (.inl rfl)) pgs_nil))))))))
      (pss_cons (ps_set (i := 8) sc_law_otherwise.nd rfl (.inl rfl) (D0.pe_cal C_law_take (hr.mono (by decide)) (by rfl) (pa_cons (pv 0) (pa_cons pe_int pa_nil))))
      (pss_cons (ps_if (pt_cmpR op_eq (pv 8) pe_int (nomark _))
        (pss_one (ps_ret (pe_tup (pa_cons (pe_op op_catA (pe_tup (pa_cons (pe_op op_sub pe_int (pe_ix ix_tup (pv 2) pe_int (fun _ _ => rfl))) pa_nil)) (pe_slice sl_tupA (pv 2) (po_some pe_int) po_none)) (pa_cons (pv 3) (pa_cons (pv 4) (pa_cons (pv 5) (pa_cons (pv 6) (pa_cons (pv 7) pa_nil)))))))))
        pss_nil)
      (pss_cons (ps_if (pt_cmpR op_eq (pv 8) pe_int (nomark _))
        (C8.pss_cut (ps_asg (pe_ix ix_tup (pv 3) (pe_un un_neg pe_int) (fun _ _ => rfl)) (pg_tup rfl (pgs_cons (pg_name (i := 9) sc_law_otherwise.nd rfl (.inl rfl)) (pgs_cons (pg_name (i := 10) sc_law_otherwise.nd rfl (.inl rfl)) (pgs_cons (pg_name (i := 11) sc_law_otherwise.nd rfl (.inl rfl)) (pgs_cons (pg_name (i := 12) sc_law_otherwise.nd rfl (.inl rfl)) pgs_nil))))))
      (C8.pss_cut (ps_setLc (i := 13) (own := [("sign", 16)]) (g := gName 16) rfl sc_law_otherwise.nd rfl rfl (sw_true rfl rfl rfl (by decide +kernel)) (pi_str pe_str) (blkOk_by (own := [("sign", 16)]) (N := ["draw", "told", "begun", "plays", "seats", "closes", "longest", "halted", "way", "name", "by", "tests", "changes", "some", "fresh", "other", "sign", "word", "move"]) (sc := defScope s_law_otherwise) (by decide +kernel)) (fun _ _ _ _ _ => pg_name (i := 16) sc_law_otherwise.nd rfl (Or.inl rfl)) (fun _ _ _ _ _ => pts_nil) (fun _ _ _ _ _ => (pe_op op_add_str pe_str (pv 16))))
      (C8.pss_cut (ps_set (i := 14) sc_law_otherwise.nd rfl (.inl rfl) (pe_ix ix_list (pe_lc (own := [("word", 17)]) (g := gName 17) rfl sc_law_otherwise.nd (pi_list (pv 13)) (blkOk_by (own := [("word", 17)]) (N := ["draw", "told", "begun", "plays", "seats", "closes", "longest", "halted", "way", "name", "by", "tests", "changes", "some", "fresh", "other", "sign", "word", "move"]) (sc := defScope s_law_otherwise) (by decide +kernel)) (fun _ _ _ _ _ => pg_name (i := 17) sc_law_otherwise.nd rfl (Or.inl rfl)) (fun _ _ _ _ _ => (pts_one (pt_cmpR (r := rIn K true) op_notIn_seq (pv 17) (pe_lc (own := [("move", 18)]) (g := gName 18) rfl sc_law_otherwise.nd (show PI _ _ _ (iTup K (tVar 3)) from pi_tup (pv 3)) (blkOk_by (own := [("move", 18)]) (N := ["draw", "told", "begun", "plays", "seats", "closes", "longest", "halted", "way", "name", "by", "tests", "changes", "some", "fresh", "other", "sign", "word", "move"]) (sc := { kind := ScopeKind.function, names := [(".0", NameKind.local), ("word", NameKind.local), ("plays", NameKind.cell)], isGenerator := false, isCoroutine := false }) (by decide +kernel)) (fun _ _ _ _ _ => pg_name (i := 18) sc_law_otherwise.nd rfl (Or.inl rfl)) (fun _ _ _ _ _ => pts_nil) (fun _ _ _ _ _ => (pe_ix (r := rIxT K) ix_tup (pv 18) pe_int (fun _ _ => rfl)))) rfl))) (fun _ _ _ _ _ => (pv 17))) pe_int (fun _ _ => rfl)))
      (pss_cons (ps_if (pt_cmpR op_eq (D0.pe_cal C_law_take (hr.mono (by decide)) (by rfl) (pa_cons (pv 0) (pa_cons pe_int pa_nil))) pe_int (nomark _))
        (pss_one (ps_ret (pe_tup (pa_cons (pv 2) (pa_cons (pe_op op_catA (pe_slice sl_tupA (pv 3) po_none (po_some (pe_un un_neg pe_int))) (pe_tup (pa_cons (pe_tup (pa_cons (pv 14) (pa_cons (pv 10) (pa_cons (pv 11) (pa_cons (pv 12) pa_nil))))) pa_nil))) (pa_cons (pv 4) (pa_cons (pv 5) (pa_cons (pv 6) (pa_cons (pv 7) pa_nil)))))))))
        pss_nil)
      (C8.pss_cut (ps_set (i := 15) sc_law_otherwise.nd rfl (.inl rfl) (pe_tup (pa_cons (pv 9) (pa_cons (pe_ifExp (pt_cmpR op_isN (pv 10) pe_non (nomark _)) pe_int pe_non) (pa_cons (pv 11) (pa_cons (pv 12) pa_nil))))))
      (pss_one (ps_ret (pe_tup (pa_cons (pv 2) (pa_cons (pe_op op_catA (pe_slice sl_tupA (pv 3) po_none (po_some (pe_un un_neg pe_int))) (pe_tup (pa_cons (pv 15) pa_nil))) (pa_cons (pv 4) (pa_cons (pv 5) (pa_cons (pv 6) (pa_cons (pv 7) pa_nil))))))))))))))
        pss_nil)
      (pss_cons (ps_if (pt_cmpR op_eq (pv 8) pe_int (nomark _))
        (pss_one (ps_ret (pe_tup (pa_cons (pv 2) (pa_cons (pv 3) (pa_cons (pv 4) (pa_cons (pe_ifExp (pt_cmpR (op_neD hr.units) (pv 5) (pe_tup pa_nil) (nomark _)) (pe_slice sl_tupA (pv 5) (po_some pe_int) po_none) (pe_tup (pa_cons (pe_tup (pa_cons (pe_tup pa_nil) (pa_cons (pe_op op_repT (pe_tup (pa_cons pe_int pa_nil)) (pv 4)) pa_nil))) pa_nil))) (pa_cons (pv 6) (pa_cons (pv 7) pa_nil)))))))))
        pss_nil)
      (pss_cons (ps_if (pt_cmpR op_eq (pv 8) pe_int (nomark _))
        (pss_one (ps_ret (pe_tup (pa_cons (pv 2) (pa_cons (pv 3) (pa_cons (pv 4) (pa_cons (pv 5) (pa_cons (pe_op op_sub pe_int (pv 6)) (pa_cons (pv 7) pa_nil)))))))))
        pss_nil)
      (pss_cons (ps_if (pt_cmpR op_eq (pv 8) pe_int (nomark _))
        (pss_one (ps_ret (pe_tup (pa_cons (pv 2) (pa_cons (pv 3) (pa_cons (pv 4) (pa_cons (pv 5) (pa_cons (pv 6) (pa_cons (pe_ifExp (pt_cmpR op_eq (pv 7) pe_str (nomark _)) pe_str pe_str) pa_nil)))))))))
        pss_nil)
      (C8.pss_cut (ps_set (i := 15) sc_law_otherwise.nd rfl (.inl rfl) (pe_ifExp (pt_cmpR op_lt (pe_callB call_len_seq (by rfl) T.m_len (by decide +kernel) (pa_cons (pv 2) pa_nil)) pe_int (nomark _)) (pe_op op_catA (pv 2) (pe_tup (pa_cons pe_int pa_nil))) (pe_slice sl_tupA (pv 2) po_none (po_some (pe_un un_neg pe_int)))))
      (pss_one (ps_ret (pe_tup (pa_cons (pv 15) (pa_cons (pe_tup (pa_cons (pe_tup (pa_cons pe_str (pa_cons pe_non (pa_cons (pe_tup pa_nil) (pa_cons (pe_tup (pa_cons (pe_tup (pa_cons pe_int (pa_cons pe_str (pa_cons pe_int pa_nil)))) pa_nil)) pa_nil))))) pa_nil)) (pa_cons (pv 4) (pa_cons (pe_tup pa_nil) (pa_cons (pv 6) (pa_cons (pv 7) pa_nil))))))))))))))))), ?_⟩
    obtain ⟨a, b, p, en, rfl, hS, tb0, tp0, te0⟩ := rule_at tv
    refine ⟨_, rfl, a, _, rfl, hS, rfl, _, _, rfl, _, _, rfl, _, _, rfl, _, _, rfl, _, _, rfl, _, _, rfl, rfl, ?_⟩
    refine ⟨_, rfl, d, c, 6, rfl, D, by decide, by decide, fun wy H1 w0 w1 D1 k1 => ?_⟩
    have t1 := k1.tk D
    have tb := tb0.keep t1
    have tp := tp0.keep t1
    have te := te0.keep t1
    have b0 := ok.b0
    have b1 := ok.b1
    have m0 := ok.m0
    have m1 := ok.m1
    have fin0 : ∀ H0 : Hp, DrC H0 d c → Kp d c H H0 → ∀ (b' p' e' : V) (r' : RuleD) (H3 : Hp), Same H0 H3 → Td K H3 b' (.tuple (r'.begun.map PyData.int)) → Td K H3 p' (.tuple (r'.plays.map moveD)) → Td K H3 e' (.tuple (r'.closes.map endD)) → RuleOk r' → r' ≠ r →
        ∀ a3, H3 a3 = none → Q (.ref a3) (upd H3 a3 (.tup [b', p', .int r'.seats, e', .int r'.longest, .str r'.halted])) := by
      intro H0 D0 k0 b' p' e' r' H3 s3 hb hp he ok' ne' a3 n3
      have k3 := TK.of_same (new_same (o := .tup [b', p', .int r'.seats, e', .int r'.longest, .str r'.halted]) n3)
      exact q _ r' _ ((D0.same s3).new n3) ((k0.trans (Kp.of_same s3)).trans (Kp.new n3)) (td_rule r' upd_same (hb.keep k3) (hp.keep k3) (he.keep k3)) ok' ne'
    have fin := fin0 H1 D1 k1
    have six : (6 : Nat) ≤ sizeLine := Nat.le_of_lt (small1000 (show 6 ≤ 1000 by decide))
    refine ⟨_, rfl, rfl, _, rfl, ite2 (fun e0 => ?_) (fun e0 => ?_)⟩
    · -- another first cell
      obtain ⟨x0, br, eb⟩ : ∃ x0 br, r.begun = x0 :: br := by
        cases e : r.begun with
        | nil => rw [e] at b0; exact absurd b0 (Nat.not_succ_le_zero 0)
        | cons x l => exact ⟨x, l, rfl⟩
      rw [eb] at tb
      obtain ⟨ab, xs, rfl, sb, Ab⟩ := id tb.tuple
      cases Ab with
      | cons h0 Ar =>
        cases h0.isInt
        refine ⟨_, rfl, _, _, 0, _, rfl, rfl, sb, atI_nat (j := 0) rfl, 9, x0, rfl, rfl, Nat.le_of_lt (small1000 (show 1 ≤ 1000 by decide)), fun a1 n1 => ?_⟩
        have s1 := new_same (o := .tup [.int (9 - x0)]) n1
        refine ⟨_, rfl, 1, rfl, ?_⟩
        dsimp only [tNoPart]
        refine sl_td (tb.keep (TK.of_same s1)) fun v1 H2 s2 tv1 => ?_
        have tv1' : Td K H2 v1 (.tuple (br.map PyData.int)) := by
          have := tv1
          rwa [List.map_cons, cut_tail] at this
        rw [eb, List.length_cons] at b1
        refine cat_td (ds := [.int (9 - x0)]) (.tup (.inl (.inl (s2 _ _ upd_same))) (.cons (.int _) .nil)) tv1' (by rw [List.length_map]; show 1 + br.length ≤ 1000; omega) fun v2 H3 s3 tv2 => ?_
        refine ⟨_, rfl, _, rfl, _, rfl, _, rfl, _, rfl, six, ?_⟩
        have s13 := (s1.trans s2).trans s3
        have bs := ok.bs
        rw [eb] at bs
        have bx := bs x0 List.mem_cons_self
        refine fin v2 p en { r with begun := (9 - x0) :: br } H3 s13 tv2 (tp.keep (TK.of_same s13)) (te.keep (TK.of_same s13)) (ok_begun ok (by rw [eb]; rfl) fun n hn => ?_) fun e => ?_
        · rcases List.mem_cons.mp hn with h | h
          · rw [h]; omega
          · exact bs n (List.mem_cons_of_mem _ h)
        · have e' : (9 - x0) :: br = r.begun := congrArg RuleD.begun e
          rw [eb] at e'
          have := (List.cons.inj e').1
          omega
    refine ⟨_, rfl, rfl, _, rfl, ite2 (fun e1 => ?_) (fun e1 => ?_)⟩
    · -- another last move
      obtain ⟨pi, pl, ep⟩ := snoc_of m0
      have tp' := tp
      rw [ep, List.map_append, List.map_singleton] at tp'
      obtain ⟨ap, ys, rfl, sp, Ap⟩ := id tp'.tuple
      obtain ⟨yi, yl, rfl, Ai, tl⟩ := tda_snoc Ap
      obtain ⟨al, bl, v3, v4, rfl, hB, tby, tts, tcs⟩ := move_at tl
      cases byV_of tby
      refine ⟨fun σ' H' => σ' = [some (.ref d), some (.ref a), some b, some (.ref ap), some (.int r.seats), some en, some (.int r.longest), some (.str r.halted), some (.int wy), some (.str pl.name), some (byV pl.by_), some v3, some v4, none, none, none, none, none, none] ∧ H1 = H', ⟨_, rfl, 1, rfl, ap, _, -1, _, rfl, rfl, sp, atI_last _ _, al, _, rfl, hB, rfl, _, _, rfl, _, _, rfl, _, _, rfl, _, _, rfl, rfl, rfl, rfl⟩, ?_⟩
      rintro σ' H' ⟨rfl, rfl⟩
      -- the words
      refine ⟨fun σ' H' => ∃ G, σ' = [some (.ref d), some (.ref a), some b, some (.ref ap), some (.int r.seats), some en, some (.int r.longest), some (.str r.halted), some (.int wy), some (.str pl.name), some (byV pl.by_), some v3, some v4, some (.ref G), none, none, none, none, none] ∧
        Same H1 H' ∧ H' G = some (.lst (zzs.map V.str)), ⟨_, rfl, fun G nG => ?_⟩, ?_⟩
      refine lc_it (walk_str (z := Str.ofString "abcdefghijklmnopqrstuvwxyz")) (fun i H' => Same H1 H' ∧ H' G = some (.lst ((zzs.take i).map V.str))) ⟨new_same nG, upd_same⟩ (fun _ _ _ _ => True.intro) ?_ ?_
      · rintro i x H2 H3 hi ⟨s2, hG⟩ ⟨rfl, cc, hc, rfl⟩
        have hc' : abc26[i]? = some cc := abc_at hc
        refine ⟨rfl, ?_⟩
        refine ⟨_, rfl, _, _, rfl, rfl, Nat.le_of_lt (small1000 (show 2 + 1 ≤ 1000 by decide)), _, hG, ?_, fun b' o' e' => ?_, ?_⟩
        · rw [List.length_map, List.length_take]
          have l26 : zzs.length = 26 := by decide
          exact small1000 (by omega)
        · rw [upd_ne (ne_of_none e' nG)]
          exact s2 _ _ e'
        · rw [upd_same]
          have : zzs.take (i + 1) = zzs.take i ++ [zz cc] := by
            rw [List.take_add_one]
            unfold zzs
            rw [List.getElem?_map, hc']
            rfl
          rw [this, List.map_append]
          rfl
      · rintro H2 ⟨s2, hG⟩
        have l26 : zzs.length = 26 := by decide
        refine ⟨G, rfl, s2, ?_⟩
        have : zzs.take (Str.ofString "abcdefghijklmnopqrstuvwxyz").cps.size = zzs := List.take_of_length_le (by rw [l26]; decide)
        rw [this] at hG
        exact hG
      rintro σ' H2 ⟨G, rfl, s2, hG⟩
      have l26 : zzs.length = 26 := by decide
      have hn16 : (r.plays.map (·.name)).length < 26 := by rw [List.length_map]; omega
      have lys : (yi ++ [V.ref al]).length = (r.plays.map (·.name)).length := by rw [Ap.len, ep]; simp
      refine ⟨fun σ' H' => ∃ y, σ' = [some (.ref d), some (.ref a), some b, some (.ref ap), some (.int r.seats), some en, some (.int r.longest), some (.str r.halted), some (.int wy), some (.str pl.name), some (byV pl.by_), some v3, some v4, some (.ref G), some (.str y), none, none, none, none] ∧
        Same H1 H' ∧ y ∉ r.plays.map (·.name) ∧ nameB y = true, ?_, ?_⟩
      · refine ⟨_, rfl, G, rfl, ⟨_, SqL.of hG⟩, fun G2 nG2 => ?_⟩
        have nGG := ne_of_none hG nG2
        have nG1 : H1 G2 = none := by
          cases e : H1 G2 with
          | none => rfl
          | some u =>
            rw [s2 _ _ e] at nG2
            cases nG2
        refine lc_list (K := K) (a := G) (xs := zzs.map V.str) (fun i H' => Same H1 H' ∧ H' G = some (.lst (zzs.map V.str)) ∧ H' G2 = some (.lst (((zzs.take i).filter fun a => !decide (a ∈ r.plays.map (·.name))).map V.str)))
          ⟨s2.trans (new_same nG2), by rw [upd_ne nGG]; exact hG, upd_same⟩ (fun _ _ _ h => SqL.of h.2.1) ?_ ?_
        · rintro i x H4 hi ⟨s4, hG4, hH4⟩
          obtain ⟨z, hz, rfl⟩ : ∃ z, zzs[i]? = some z ∧ V.str z = x := by
            rw [List.getElem?_map] at hi
            cases e : zzs[i]? with
            | none =>
              rw [e] at hi
              cases hi
            | some u =>
              rw [e] at hi
              exact ⟨u, rfl, Option.some.inj hi⟩
          refine ⟨rfl, ?_⟩
          refine ⟨_, rfl, _, rfl, ap, rfl, ⟨_, (TK.of_same s4).sqt sp⟩, fun D3 nD3 => ?_⟩
          refine lc_tup (K := K) (a := ap) (xs := yi ++ [.ref al]) (fun j H' => Same H4 H' ∧ H' D3 = some (.lst (((r.plays.map (·.name)).take j).map V.str))) ⟨new_same nD3, upd_same⟩ (fun _ _ _ h => (TK.of_same (s4.trans h.1)).sqt sp) ?_ ?_
          · rintro j v H5 hj ⟨s5, hD5⟩
            have t5 := TK.of_same (s4.trans s5)
            have Ap' : TdAll K H1 (yi ++ [.ref al]) (r.plays.map moveD) := by
              rw [ep, List.map_append]
              exact Ap
            obtain ⟨mm, hmm, tm⟩ := all_get (Ap'.keep t5) hj
            obtain ⟨bm, _, _, _, rfl, hBm, _⟩ := move_at tm
            have hj' : j < (r.plays.map (·.name)).length := by
              rw [← lys]
              rcases Nat.lt_or_ge j (yi ++ [V.ref al]).length with h | h
              · exact h
              · rw [List.getElem?_eq_none h] at hj
                cases hj
            refine ⟨rfl, ?_⟩
            refine ⟨_, rfl, bm, _, 0, _, rfl, rfl, hBm, atI_nat (j := 0) rfl, _, hD5, ?_, fun b' o' e' => ?_, ?_⟩
            · rw [List.length_map, List.length_take]
              exact small1000 (by omega)
            · rw [upd_ne (ne_of_none e' nD3)]
              exact s5 _ _ e'
            · rw [upd_same, List.take_add_one, List.getElem?_map, hmm, List.map_append]
              rfl
          · rintro H5 ⟨s5, hD5⟩
            rw [lys, List.take_length] at hD5
            refine ⟨D3, _, rfl, .inl (SqL.of hD5), rfl, flat_strs _, _, rfl, ?_⟩
            have et : zzs.take (i + 1) = zzs.take i ++ [z] := by
              rw [List.take_add_one, hz]
              rfl
            rw [inV_strs, et, List.filter_append]
            have s15 := s4.trans s5
            refine ite2 (fun hn => ?_) (fun hn => ?_)
            · refine ⟨_, rfl, _, s5 _ _ hH4, ?_, fun b' o' e' => ?_, ?_, ?_⟩
              · rw [List.length_map]
                refine small1000 (Nat.le_trans (List.length_filter_le _ _) ?_)
                rw [List.length_take]
                omega
              · rw [upd_ne (ne_of_none e' nG1)]
                exact s15 _ _ e'
              · rw [upd_ne nGG]
                exact s5 _ _ hG4
              · have ef : [z].filter (fun a => !decide (a ∈ r.plays.map (·.name))) = [z] := by
                  rw [List.filter_cons, if_pos (show (!decide (z ∈ r.plays.map (·.name))) = true from hn)]
                  rfl
                rw [upd_same, ef, List.map_append]
                rfl
            · have ef : [z].filter (fun a => !decide (a ∈ r.plays.map (·.name))) = [] := by
                rw [List.filter_cons, if_neg (show ¬ (!decide (z ∈ r.plays.map (·.name))) = true from hn)]
                rfl
              rw [ef, List.append_nil]
              exact ⟨s15, s5 _ _ hG4, s5 _ _ hH4⟩
        · rintro H4 ⟨s4, hG4, hH4⟩
          rw [List.length_map, List.take_length] at hH4
          obtain ⟨y, rr, e1', e2', e3'⟩ := zz_new _ hn16
          rw [e1'] at hH4
          exact ⟨G2, _, 0, .str y, rfl, rfl, SqL.of hH4, atI_nat (j := 0) rfl, y, rfl, s4, e2', e3'⟩
      rintro σ' H3 ⟨y, rfl, s3, ny, nmy⟩
      have t3 := TK.of_same s3
      have D3 := D1.same s3
      refine ⟨_, rfl, d, c, 2, rfl, D3, by decide, by decide, fun u H4 u0 u1 D4 k4 => ?_⟩
      have t4 := t3.trans (k4.tk D3)
      have tts4 := tts.keep t4
      have tcs4 := tcs.keep t4
      have tp4 := tp'.keep t4
      have oml := ok.ms pl (by rw [ep]; simp)
      have k04 := (k1.trans (Kp.of_same s3)).trans k4
      have lpi : pi.length + 1 ≤ 16 := by
        have := m1
        rw [ep, List.length_append] at this
        exact this
      have hnd := ok.mn
      rw [ep, List.map_append, List.nodup_append] at hnd
      have okp : ∀ m' : MoveD, MoveOk r.begun.length r.seats m' → m'.name ∉ pi.map (·.name) → m' ≠ pl → RuleOk { r with plays := pi ++ [m'] } ∧ { r with plays := pi ++ [m'] } ≠ r := by
        intro m' om nm ne'
        refine ⟨⟨ok.b0, ok.b1, ok.bs, ok.s0, ok.s1, by show 1 ≤ (pi ++ [m']).length; rw [List.length_append]; show 1 ≤ pi.length + 1; omega, by show (pi ++ [m']).length ≤ 16; rw [List.length_append]; exact lpi, fun m hm => ?_, ?_, ok.e1, ok.es, ok.l0, ok.l1, ok.h⟩, fun e => ?_⟩
        · rcases List.mem_append.mp hm with h | h
          · exact ok.ms m (by rw [ep]; exact List.mem_append_left _ h)
          · rw [List.mem_singleton.mp h]; exact om
        · show ((pi ++ [m']).map (·.name)).Nodup
          rw [List.map_append]
          refine List.nodup_append.mpr ⟨hnd.1, by simp, fun x hx z hz e => ?_⟩
          rw [List.map_singleton, List.mem_singleton] at hz
          exact nm (by rw [← hz, ← e]; exact hx)
        · have e' : pi ++ [m'] = r.plays := congrArg RuleD.plays e
          rw [ep] at e'
          exact ne' (List.cons.inj (List.append_cancel_left e')).1
      refine ⟨rfl, _, rfl, ite2 (fun eu => ?_) (fun eu => ?_)⟩
      · refine ⟨_, rfl, _, rfl, ?_⟩
        dsimp only [tNoPart]
        refine ⟨1, rfl, -1, rfl, ?_⟩
        refine sl_td tp4 fun v1 H5 s5 tv1 => ?_
        rw [cut_init] at tv1
        refine ⟨_, rfl, _, rfl, _, rfl, _, rfl, Nat.le_of_lt (small1000 (show 4 ≤ 1000 by decide)), fun a1 n1 => ⟨Nat.le_of_lt (small1000 (show 1 ≤ 1000 by decide)), fun a2 n2 => ?_⟩⟩
        have w1 := new_same (o := .tup [.str y, byV pl.by_, v3, v4]) n1
        have w2 := new_same (o := .tup [.ref a1]) n2
        have k51 := TK.of_same (s5.trans w1)
        have T1 : Td K (upd H5 a1 (.tup [.str y, byV pl.by_, v3, v4])) (.ref a1) (moveD ⟨y, pl.by_, pl.tests, pl.changes⟩) := .tup (.inl (.inl upd_same)) (.cons (.str _) (.cons (byV_td _) (.cons (tts4.keep k51) (.cons (tcs4.keep k51) .nil))))
        refine cat_td (tv1.keep (TK.of_same (w1.trans w2))) (es := [moveD ⟨y, pl.by_, pl.tests, pl.changes⟩]) (.tup (.inl (.inl upd_same)) (.cons (T1.keep (TK.of_same w2)) .nil)) (by rw [List.length_map]; show pi.length + 1 ≤ 1000; omega) fun v2 H6 s6 tv2 => ?_
        refine ⟨_, rfl, _, rfl, _, rfl, _, rfl, six, ?_⟩
        have s46 := ((s5.trans w1).trans w2).trans s6
        have k46 := t4.trans (TK.of_same s46)
        have o2 := okp ⟨y, pl.by_, pl.tests, pl.changes⟩ ⟨nmy, oml.by_, oml.tl, oml.ts, oml.cl0, oml.cl, oml.cs, oml.nd⟩ (fun h => ny (by rw [ep, List.map_append]; exact List.mem_append_left _ h)) (fun e => ny (by
          rw [ep, List.map_append]
          refine List.mem_append_right _ ?_
          rw [← e]
          exact List.mem_singleton.mpr rfl))
        exact fin0 H4 D4 k04 b v2 en { r with plays := pi ++ [⟨y, pl.by_, pl.tests, pl.changes⟩] } H6 s46 (tb.keep k46) (by rw [List.map_append]; exact tv2) (te.keep k46) o2.1 o2.2
      · refine ⟨fun σ' H' => ∃ a1 o', σ' = [some (.ref d), some (.ref a), some b, some (.ref ap), some (.int r.seats), some en, some (.int r.longest), some (.str r.halted), some (.int wy), some (.str pl.name), some (byV pl.by_), some v3, some v4, some (.ref G), some (.str y), some (.ref a1), none, none, none] ∧
          Same H4 H' ∧ Td K H' (.ref a1) (moveD ⟨pl.name, o', pl.tests, pl.changes⟩) ∧ o' ≠ pl.by_ ∧ ∀ i, o' = some i → 0 ≤ i ∧ i ≤ r.seats - 1, ?_, ?_⟩
        · refine ⟨_, rfl, _, rfl, rfl, _, rfl, ite2 (fun ei => ?_) (fun ei => ?_)⟩
          · have en0 : pl.by_ = none := by
              have := of_decide_eq_true ei
              cases e : pl.by_ with
              | none => rfl
              | some i => rw [e] at this; cases this
            refine ⟨_, rfl, _, rfl, Nat.le_of_lt (small1000 (show 4 ≤ 1000 by decide)), fun a1 n1 => ⟨a1, some 0, rfl, new_same n1, ?_, by rw [en0]; simp, fun i h => by cases h; have := ok.s0; omega⟩⟩
            have kk := TK.of_same (new_same (o := .tup [.str pl.name, .int 0, v3, v4]) n1)
            exact .tup (.inl (.inl upd_same)) (.cons (.str _) (.cons (.int _) (.cons (tts4.keep kk) (.cons (tcs4.keep kk) .nil))))
          · have en0 : pl.by_ ≠ none := fun h => ei (decide_eq_true (by rw [h]; rfl))
            refine ⟨_, rfl, _, rfl, Nat.le_of_lt (small1000 (show 4 ≤ 1000 by decide)), fun a1 n1 => ⟨a1, none, rfl, new_same n1, ?_, en0.symm, fun i h => by cases h⟩⟩
            have kk := TK.of_same (new_same (o := .tup [.str pl.name, .non, v3, v4]) n1)
            exact .tup (.inl (.inl upd_same)) (.cons (.str _) (.cons .non (.cons (tts4.keep kk) (.cons (tcs4.keep kk) .nil))))
        · rintro σ' H5 ⟨a1, o', rfl, s5, T1, no', bo'⟩
          refine ⟨_, rfl, _, rfl, ?_⟩
          dsimp only [tNoPart]
          refine ⟨1, rfl, -1, rfl, ?_⟩
          refine sl_td (tp4.keep (TK.of_same s5)) fun v1 H6 s6 tv1 => ?_
          rw [cut_init] at tv1
          refine ⟨_, rfl, Nat.le_of_lt (small1000 (show 1 ≤ 1000 by decide)), fun a2 n2 => ?_⟩
          have w2 := new_same (o := .tup [.ref a1]) n2
          refine cat_td (tv1.keep (TK.of_same w2)) (es := [moveD ⟨pl.name, o', pl.tests, pl.changes⟩]) (.tup (.inl (.inl upd_same)) (.cons (T1.keep (TK.of_same (s6.trans w2))) .nil)) (by rw [List.length_map]; show pi.length + 1 ≤ 1000; omega) fun v2 H7 s7 tv2 => ?_
          refine ⟨_, rfl, _, rfl, _, rfl, _, rfl, six, ?_⟩
          have s47 := ((s5.trans s6).trans w2).trans s7
          have k47 := t4.trans (TK.of_same s47)
          have o2 := okp ⟨pl.name, o', pl.tests, pl.changes⟩ ⟨oml.name, bo', oml.tl, oml.ts, oml.cl0, oml.cl, oml.cs, oml.nd⟩ (fun h => hnd.2.2 _ h _ (List.mem_singleton.mpr rfl) rfl) (fun e => no' (congrArg MoveD.by_ e))
          exact fin0 H4 D4 k04 b v2 en { r with plays := pi ++ [⟨pl.name, o', pl.tests, pl.changes⟩] } H7 s47 (tb.keep k47) (by rw [List.map_append]; exact tv2) (te.keep k47) o2.1 o2.2
    refine ⟨_, rfl, rfl, _, rfl, ite2 (fun e2 => ?_) (fun e2 => ?_)⟩
    · -- other closes
      refine ⟨_, rfl, _, rfl, _, rfl, _, rfl, Nat.zero_le _, fun a1 n1 => ?_⟩
      have s1 := new_same (o := .tup []) n1
      have oc := okd_closes ok
      refine ⟨.tuple (r.closes.map endD), .tuple [], (te.keep (TK.of_same s1)).dp, Td.dp (.tup (.inl (.inl upd_same)) .nil), oc.shaped (by decide), rfl, _, rfl, ?_⟩
      cases ec : r.closes with
      | nil =>
        have ef : PyData.eqv (.tuple (([] : List EndD).map endD)) (.tuple []) = true := by simp [PyData.eqv, PyData.eqvAll]
        rw [ef]
        have s20 := ok.s0
        have s21 := ok.s1
        refine ⟨Nat.zero_le _, fun a2 n2 => ⟨Nat.le_of_lt (small1000 (show 1 ≤ 1000 by decide)), fun a3 n3 => ⟨_, rfl, a3, r.seats, _, rfl, rfl, .inl (.inl upd_same), by simp, by omega, by omega, (by decide), fun a4 n4 =>
          ⟨Nat.le_of_lt (small1000 (show 2 ≤ 1000 by decide)), fun a5 n5 => ⟨Nat.le_of_lt (small1000 (show 1 ≤ 1000 by decide)), fun a6 n6 => ⟨_, rfl, _, rfl, six, ?_⟩⟩⟩⟩⟩⟩
        rw [rep_int] at n5 n6 ⊢
        have s2 := new_same (o := .tup []) n2
        have s3 := new_same (o := .tup [.int 1]) n3
        have s4 := new_same (o := .tup ((List.replicate r.seats.toNat (1 : Int)).map V.int)) n4
        have s5 := new_same (o := .tup [.ref a2, .ref a4]) n5
        have s6 := new_same (o := .tup [.ref a5]) n6
        have s16 := ((((s1.trans s2).trans s3).trans s4).trans s5).trans s6
        have T2 := Td.tup (K := K) (ds := []) (.inl (.inl (s6 _ _ (s5 _ _ (s4 _ _ (s3 _ _ upd_same)))))) .nil
        have T4 := Td.tup (K := K) (ds := (List.replicate r.seats.toNat (1 : Int)).map PyData.int) (.inl (.inl (s6 _ _ (s5 _ _ upd_same)))) (TdAll.of_ints _)
        have T5 := Td.tup (K := K) (.inl (.inl (s6 _ _ upd_same))) (.cons T2 (.cons T4 .nil))
        refine fin b p (.ref a6) { r with closes := [⟨[], List.replicate r.seats.toNat 1⟩] } _ s16 (tb.keep (TK.of_same s16)) (tp.keep (TK.of_same s16)) (.tup (.inl (.inl upd_same)) (.cons T5 .nil)) ?_ fun e => ?_
        · refine ⟨ok.b0, ok.b1, ok.bs, ok.s0, ok.s1, ok.m0, ok.m1, ok.ms, ok.mn, (by decide : 1 ≤ 6), fun e he => ?_, ok.l0, ok.l1, ok.h⟩
          rw [List.mem_singleton.mp he]
          refine ⟨Nat.zero_le _, (fun _ h => nomatch h), ?_, fun x hx => ?_⟩
          · show ((List.replicate r.seats.toNat (1 : Int)).length : Int) = r.seats
            rw [List.length_replicate]
            omega
          · rw [(List.mem_replicate.mp hx).2]
            decide
        · have e' : [⟨[], List.replicate r.seats.toNat 1⟩] = r.closes := congrArg RuleD.closes e
          rw [ec] at e'
          cases e'
      | cons e es =>
        have ef : PyData.eqv (.tuple ((e :: es).map endD)) (.tuple []) = false := by simp [PyData.eqv, PyData.eqvAll]
        rw [ef]
        refine ⟨_, rfl, 1, rfl, ?_⟩
        dsimp only [tNoPart]
        refine sl_td (te.keep (TK.of_same s1)) fun v1 H2 s2 tv1 => ?_
        rw [ec, List.map_cons, cut_tail] at tv1
        refine ⟨_, rfl, _, rfl, six, ?_⟩
        have s12 := s1.trans s2
        have hes := ok.es
        have he1 := ok.e1
        rw [ec] at hes he1
        refine fin b p v1 { r with closes := es } _ s12 (tb.keep (TK.of_same s12)) (tp.keep (TK.of_same s12)) tv1 ⟨ok.b0, ok.b1, ok.bs, ok.s0, ok.s1, ok.m0, ok.m1, ok.ms, ok.mn, Nat.le_of_succ_le he1, fun e' h' => hes e' (List.mem_cons_of_mem _ h'), ok.l0, ok.l1, ok.h⟩ fun e' => ?_
        have e2 : es = r.closes := congrArg RuleD.closes e'
        rw [ec] at e2
        have := congrArg List.length e2
        simp at this
    refine ⟨_, rfl, rfl, _, rfl, ite2 (fun e3 => ?_) (fun e3 => ?_)⟩
    · -- another length
      refine ⟨_, rfl, _, rfl, _, rfl, _, rfl, _, rfl, 61, r.longest, rfl, rfl, _, rfl, six, ?_⟩
      have l0 := ok.l0
      have l1 := ok.l1
      refine fin b p en { r with longest := 61 - r.longest } H1 (Same.refl _) tb tp te ⟨ok.b0, ok.b1, ok.bs, ok.s0, ok.s1, ok.m0, ok.m1, ok.ms, ok.mn, ok.e1, ok.es, by show 1 ≤ 61 - r.longest; omega, by show 61 - r.longest ≤ 60; omega, ok.h⟩ fun e => ?_
      have : 61 - r.longest = r.longest := congrArg RuleD.longest e
      omega
    refine ⟨_, rfl, rfl, _, rfl, ite2 (fun e4 => ?_) (fun e4 => ?_)⟩
    · -- halted otherwise
      refine ⟨_, rfl, _, rfl, _, rfl, _, rfl, _, rfl, _, rfl, rfl, _, rfl, ite2 (fun e => ?_) (fun e => ?_)⟩
      · have e' : r.halted = Str.ofString "lose" := V.str.inj (of_decide_eq_true e)
        refine ⟨six, fin b p en { r with halted := Str.ofString "even" } H1 (Same.refl _) tb tp te ⟨ok.b0, ok.b1, ok.bs, ok.s0, ok.s1, ok.m0, ok.m1, ok.ms, ok.mn, ok.e1, ok.es, ok.l0, ok.l1, .inr rfl⟩ fun e2 => ?_⟩
        have : Str.ofString "even" = r.halted := congrArg RuleD.halted e2
        rw [e'] at this
        exact absurd this (by decide)
      · refine ⟨six, fin b p en { r with halted := Str.ofString "lose" } H1 (Same.refl _) tb tp te ⟨ok.b0, ok.b1, ok.bs, ok.s0, ok.s1, ok.m0, ok.m1, ok.ms, ok.mn, ok.e1, ok.es, ok.l0, ok.l1, .inl rfl⟩ fun e2 => ?_⟩
        have : Str.ofString "lose" = r.halted := congrArg RuleD.halted e2
        exact e (decide_eq_true (by rw [← this]))
    refine ⟨fun σ' H3 => ∃ (v15 : V) (bg : List Int), σ' = [some (.ref d), some (.ref a), some b, some p, some (.int r.seats), some en, some (.int r.longest), some (.str r.halted), some (.int wy), none, none, none, none, none, none, some v15, none, none, none] ∧
      Same H1 H3 ∧ Td K H3 v15 (.tuple (bg.map PyData.int)) ∧ bg.length ≠ r.begun.length ∧ 1 ≤ bg.length ∧ bg.length ≤ 12 ∧ ∀ n ∈ bg, 0 ≤ n ∧ n ≤ 9, ?_, ?_⟩
    · obtain ⟨ab, xs, rfl, sb, Ab⟩ := id tb.tuple
      have lx : xs.length = r.begun.length := by rw [Ab.len, List.length_map]
      refine ⟨_, rfl, ab, xs, rfl, .inr sb, _, 12, rfl, rfl, _, rfl, ite2 (fun e => ?_) (fun e => ?_)⟩
      · have e' : (xs.length : Int) < 12 := of_decide_eq_true e
        refine ⟨_, rfl, Nat.le_of_lt (small1000 (show 1 ≤ 1000 by decide)), fun a1 n1 => ?_⟩
        have s1 := new_same (o := .tup [.int 0]) n1
        refine cat_td (tb.keep (TK.of_same s1)) (es := [.int 0]) (.tup (.inl (.inl upd_same)) (.cons (.int _) .nil)) (by rw [List.length_map]; show r.begun.length + 1 ≤ 1000; omega) fun v2 H3 s3 tv2 => ?_
        refine ⟨v2, r.begun ++ [0], rfl, s1.trans s3, by rw [List.map_append]; exact tv2, by rw [List.length_append]; show r.begun.length + 1 ≠ _; omega, by rw [List.length_append]; show 1 ≤ r.begun.length + 1; omega, by rw [List.length_append]; show r.begun.length + 1 ≤ 12; omega, fun n hn => ?_⟩
        rcases List.mem_append.mp hn with h | h
        · exact ok.bs n h
        · rw [List.mem_singleton.mp h]; decide
      · have e' : ¬ (xs.length : Int) < 12 := fun h => e (decide_eq_true h)
        obtain ⟨bi, bl, eb⟩ := snoc_of b0
        rw [eb] at tb
        refine ⟨_, rfl, ?_⟩
        dsimp only [tNoPart]
        refine ⟨1, rfl, -1, rfl, ?_⟩
        refine sl_td tb fun v1 H2 s2 tv1 => ?_
        rw [List.map_append, List.map_singleton, cut_init] at tv1
        rw [eb, List.length_append] at lx b1
        simp only [List.length_singleton] at lx b1
        refine ⟨v1, bi, rfl, s2, tv1, by rw [eb, List.length_append]; simp, by omega, by omega, fun n hn => ok.bs n (by rw [eb]; exact List.mem_append_left _ hn)⟩
    · rintro σ' H3 ⟨v15, bg, rfl, s3, t15, nl, g1, g12, gb⟩
      refine ⟨_, rfl, Nat.zero_le _, fun a1 n1 => ⟨Nat.le_of_lt (small1000 (show 3 ≤ 1000 by decide)), fun a2 n2 => ⟨Nat.le_of_lt (small1000 (show 1 ≤ 1000 by decide)), fun a3 n3 => ⟨Nat.le_of_lt (small1000 (show 4 ≤ 1000 by decide)), fun a4 n4 => ⟨Nat.le_of_lt (small1000 (show 1 ≤ 1000 by decide)), fun a5 n5 => ⟨_, rfl, Nat.zero_le _, fun a6 n6 => ⟨_, rfl, _, rfl, six, ?_⟩⟩⟩⟩⟩⟩⟩
      have w1 := new_same (o := .tup []) n1
      have w2 := new_same (o := .tup [.int 0, .str (Str.ofString "put"), .int 1]) n2
      have w3 := new_same (o := .tup [.ref a2]) n3
      have w4 := new_same (o := .tup [.str (Str.ofString "a"), .non, .ref a1, .ref a3]) n4
      have w5 := new_same (o := .tup [.ref a4]) n5
      have w6 := new_same (o := .tup []) n6
      have w16 := ((((w1.trans w2).trans w3).trans w4).trans w5).trans w6
      have T1 := (Td.tup (K := K) (ds := []) (.inl (.inl (w6 _ _ (w5 _ _ (w4 _ _ (w3 _ _ (w2 _ _ upd_same))))))) .nil)
      have T3 := (one_tup (K := K) (w3 _ _ upd_same) upd_same).keep (TK.of_same ((w4.trans w5).trans w6))
      have T4 := Td.tup (K := K) (.inl (.inl (w6 _ _ (w5 _ _ upd_same)))) (.cons (.str _) (.cons .non (.cons T1 (.cons T3 .nil))))
      refine fin v15 (.ref a5) (.ref a6) ⟨bg, [⟨Str.ofString "a", none, [], [(0, Str.ofString "put", 1)]⟩], r.seats, [], r.longest, r.halted⟩ _ (s3.trans w16) (t15.keep (TK.of_same w16)) (.tup (.inl (.inl (w6 _ _ upd_same))) (.cons T4 .nil)) (.tup (.inl (.inl upd_same)) .nil) ?_ fun e => nl (congrArg (fun x => x.begun.length) e)
      refine ⟨g1, g12, gb, ok.s0, ok.s1, (by decide : 1 ≤ 1), (by decide : 1 ≤ 16), fun m hm => ?_, List.nodup_cons.mpr ⟨by simp, List.nodup_nil⟩, Nat.zero_le _, (fun _ h => nomatch h), ok.l0, ok.l1, ok.h⟩
      rw [List.mem_singleton.mp hm]
      refine ⟨by decide +kernel, (fun i h => by cases h), Nat.zero_le _, (fun _ h => nomatch h), (by decide : 1 ≤ 1), (by decide : 1 ≤ 4), fun t' ht => ?_, List.nodup_cons.mpr ⟨by simp, List.nodup_nil⟩⟩
      rw [List.mem_singleton.mp ht]
      exact ⟨⟨by show (0 : Int) ≤ 0; decide, by show (0 : Int) ≤ (bg.length : Int) - 1; omega⟩, .inl ⟨rfl, by show (0 : Int) ≤ 1; decide, by show (1 : Int) ≤ 9; decide⟩⟩
end
end PL
namespace PL
open PySem PySem.Spec PyProof.Rows L2 D0
set_option maxHeartbeats 0 in
theorem all_mk {l : PySem.W.OpenLaw} {w : World} {K : PySem.W.Frag} {h : Heap} {mg : Str → Option Value} {fa C fI fT fE DD ee f1 f2 f3 f4 f5 f6 f7 f8 f9 f10 f11 f12 f13 f14 f15 f16 f17 f18 f19 f20 f21 f22 f23 f24 f25 f26 f27 : Addr} (X : K.In h) (G : h.Ns mainGlobals mg) (hfa : mg "law" = some (.ref fa))
    {ode od1 an1 od2 an2 od3 an3 od4 an4 od5 an5 od6 an6 od7 an7 od8 an8 od9 an9 od10 an10 od11 an11 od12 an12 od13 an13 od14 an14 od15 an15 od16 an16 od17 an17 od18 an18 od19 an19 od20 an20 od21 an21 od22 an22 od23 an23 od24 an24 od25 an25 od26 an26 od27 an27 odI anI odT anT odE anE : Option Addr} {sle sl1 sl2 sl3 sl4 sl5 sl6 sl7 sl8 sl9 sl10 sl11 sl12 sl13 sl14 sl15 sl16 sl17 sl18 sl19 sl20 sl21 sl22 sl23 sl24 sl25 sl26 sl27 slI slT slE : Array (Option Value)} {ne : Nat} {tM tL tV t1 t3 t4 : Tok}
    {oc1 kV1 dc1 pm1 cd1 ct1 oc2 kV2 dc2 pm2 cd2 ct2 oc3 kV3 dc3 pm3 cd3 ct3 oc4 kV4 dc4 pm4 cd4 ct4 oc5 kV5 dc5 pm5 cd5 ct5 oc6 kV6 dc6 pm6 cd6 ct6 oc7 kV7 dc7 pm7 cd7 ct7 oc8 kV8 dc8 pm8 cd8 ct8 oc9 kV9 dc9 pm9 cd9 ct9 oc10 kV10 dc10 pm10 cd10 ct10 oc11 kV11 dc11 pm11 cd11 ct11 oc12 kV12 dc12 pm12 cd12 ct12 oc13 kV13 dc13 pm13 cd13 ct13 oc14 kV14 dc14 pm14 cd14 ct14 oc15 kV15 dc15 pm15 cd15 ct15 oc16 kV16 dc16 pm16 cd16 ct16 oc17 kV17 dc17 pm17 cd17 ct17 oc18 kV18 dc18 pm18 cd18 ct18 oc19 kV19 dc19 pm19 cd19 ct19 oc20 kV20 dc20 pm20 cd20 ct20 oc21 kV21 dc21 pm21 cd21 ct21 oc22 kV22 dc22 pm22 cd22 ct22 oc23 kV23 dc23 pm23 cd23 ct23 oc24 kV24 dc24 pm24 cd24 ct24 oc25 kV25 dc25 pm25 cd25 ct25 oc26 kV26 dc26 pm26 cd26 ct26 oc27 kV27 dc27 pm27 cd27 ct27 ocT kVT dcT pmT cdT ctT ocE kVE dcE pmE cdE ctE : Value}
    {ocI dcI pmI cdI ctI : Value}
    (a1 : PySem.W.nsIn K mainGlobals "is_name" = some (some (.ref f1)))
    (l1 : K.lookup f1 = some ⟨oc1, od1, .func (PySem.W.fnOf "is_name" "is_name" (defArgs s_is_name) (defBody s_is_name) (defScope s_is_name) .none kV1 dc1 pm1 an1 cd1 ct1), sl1⟩)
    (c1 : PySem.W.codeIn K cd1 "is_name" = true)
    (k1 : PySem.W.keepIn K (.ref f1) = true)
    (a2 : PySem.W.nsIn K mainGlobals "is_number" = some (some (.ref f2)))
    (l2 : K.lookup f2 = some ⟨oc2, od2, .func (PySem.W.fnOf "is_number" "is_number" (defArgs s_is_number) (defBody s_is_number) (defScope s_is_number) .none kV2 dc2 pm2 an2 cd2 ct2), sl2⟩)
    (c2 : PySem.W.codeIn K cd2 "is_number" = true)
    (k2 : PySem.W.keepIn K (.ref f2) = true)
    (a3 : PySem.W.nsIn K mainGlobals "is_tuple" = some (some (.ref f3)))
    (l3 : K.lookup f3 = some ⟨oc3, od3, .func (PySem.W.fnOf "is_tuple" "is_tuple" (defArgs s_is_tuple) (defBody s_is_tuple) (defScope s_is_tuple) .none kV3 dc3 pm3 an3 cd3 ct3), sl3⟩)
    (c3 : PySem.W.codeIn K cd3 "is_tuple" = true)
    (k3 : PySem.W.keepIn K (.ref f3) = true)
    (a4 : PySem.W.nsIn K mainGlobals "is_list" = some (some (.ref f4)))
    (l4 : K.lookup f4 = some ⟨oc4, od4, .func (PySem.W.fnOf "is_list" "is_list" (defArgs s_is_list) (defBody s_is_list) (defScope s_is_list) .none kV4 dc4 pm4 an4 cd4 ct4), sl4⟩)
    (c4 : PySem.W.codeIn K cd4 "is_list" = true)
    (k4 : PySem.W.keepIn K (.ref f4) = true)
    (a5 : PySem.W.nsIn K mainGlobals "_are_tests" = some (some (.ref f5)))
    (l5 : K.lookup f5 = some ⟨oc5, od5, .func (PySem.W.fnOf "_are_tests" "_are_tests" (defArgs s_are_tests) (defBody s_are_tests) (defScope s_are_tests) .none kV5 dc5 pm5 an5 cd5 ct5), sl5⟩)
    (c5 : PySem.W.codeIn K cd5 "_are_tests" = true)
    (k5 : PySem.W.keepIn K (.ref f5) = true)
    (a6 : PySem.W.nsIn K mainGlobals "_is_test" = some (some (.ref f6)))
    (l6 : K.lookup f6 = some ⟨oc6, od6, .func (PySem.W.fnOf "_is_test" "_is_test" (defArgs s_is_test) (defBody s_is_test) (defScope s_is_test) .none kV6 dc6 pm6 an6 cd6 ct6), sl6⟩)
    (c6 : PySem.W.codeIn K cd6 "_is_test" = true)
    (k6 : PySem.W.keepIn K (.ref f6) = true)
    (a7 : PySem.W.nsIn K mainGlobals "_are_changes" = some (some (.ref f7)))
    (l7 : K.lookup f7 = some ⟨oc7, od7, .func (PySem.W.fnOf "_are_changes" "_are_changes" (defArgs s_are_changes) (defBody s_are_changes) (defScope s_are_changes) .none kV7 dc7 pm7 an7 cd7 ct7), sl7⟩)
    (c7 : PySem.W.codeIn K cd7 "_are_changes" = true)
    (k7 : PySem.W.keepIn K (.ref f7) = true)
    (a8 : PySem.W.nsIn K mainGlobals "_is_change" = some (some (.ref f8)))
    (l8 : K.lookup f8 = some ⟨oc8, od8, .func (PySem.W.fnOf "_is_change" "_is_change" (defArgs s_is_change) (defBody s_is_change) (defScope s_is_change) .none kV8 dc8 pm8 an8 cd8 ct8), sl8⟩)
    (c8 : PySem.W.codeIn K cd8 "_is_change" = true)
    (k8 : PySem.W.keepIn K (.ref f8) = true)
    (a9 : PySem.W.nsIn K mainGlobals "_are_moves" = some (some (.ref f9)))
    (l9 : K.lookup f9 = some ⟨oc9, od9, .func (PySem.W.fnOf "_are_moves" "_are_moves" (defArgs s_are_moves) (defBody s_are_moves) (defScope s_are_moves) .none kV9 dc9 pm9 an9 cd9 ct9), sl9⟩)
    (c9 : PySem.W.codeIn K cd9 "_are_moves" = true)
    (k9 : PySem.W.keepIn K (.ref f9) = true)
    (a10 : PySem.W.nsIn K mainGlobals "_is_move" = some (some (.ref f10)))
    (l10 : K.lookup f10 = some ⟨oc10, od10, .func (PySem.W.fnOf "_is_move" "_is_move" (defArgs s_is_move) (defBody s_is_move) (defScope s_is_move) .none kV10 dc10 pm10 an10 cd10 ct10), sl10⟩)
    (c10 : PySem.W.codeIn K cd10 "_is_move" = true)
    (k10 : PySem.W.keepIn K (.ref f10) = true)
    (a11 : PySem.W.nsIn K mainGlobals "_is_end" = some (some (.ref f11)))
    (l11 : K.lookup f11 = some ⟨oc11, od11, .func (PySem.W.fnOf "_is_end" "_is_end" (defArgs s_is_end) (defBody s_is_end) (defScope s_is_end) .none kV11 dc11 pm11 an11 cd11 ct11), sl11⟩)
    (c11 : PySem.W.codeIn K cd11 "_is_end" = true)
    (k11 : PySem.W.keepIn K (.ref f11) = true)
    (a12 : PySem.W.nsIn K mainGlobals "_are_points" = some (some (.ref f12)))
    (l12 : K.lookup f12 = some ⟨oc12, od12, .func (PySem.W.fnOf "_are_points" "_are_points" (defArgs s_are_points) (defBody s_are_points) (defScope s_are_points) .none kV12 dc12 pm12 an12 cd12 ct12), sl12⟩)
    (c12 : PySem.W.codeIn K cd12 "_are_points" = true)
    (k12 : PySem.W.keepIn K (.ref f12) = true)
    (a13 : PySem.W.nsIn K mainGlobals "_law_begin" = some (some (.ref f13)))
    (l13 : K.lookup f13 = some ⟨oc13, od13, .func (PySem.W.fnOf "_law_begin" "_law_begin" (defArgs s_law_begin) (defBody s_law_begin) (defScope s_law_begin) .none kV13 dc13 pm13 an13 cd13 ct13), sl13⟩)
    (c13 : PySem.W.codeIn K cd13 "_law_begin" = true)
    (k13 : PySem.W.keepIn K (.ref f13) = true)
    (a14 : PySem.W.nsIn K mainGlobals "_law_take" = some (some (.ref f14)))
    (l14 : K.lookup f14 = some ⟨oc14, od14, .func (PySem.W.fnOf "_law_take" "_law_take" (defArgs s_law_take) (defBody s_law_take) (defScope s_law_take) .none kV14 dc14 pm14 an14 cd14 ct14), sl14⟩)
    (c14 : PySem.W.codeIn K cd14 "_law_take" = true)
    (k14 : PySem.W.keepIn K (.ref f14) = true)
    (a15 : PySem.W.nsIn K mainGlobals "_law_pick" = some (some (.ref f15)))
    (l15 : K.lookup f15 = some ⟨oc15, od15, .func (PySem.W.fnOf "_law_pick" "_law_pick" (defArgs s_law_pick) (defBody s_law_pick) (defScope s_law_pick) .none kV15 dc15 pm15 an15 cd15 ct15), sl15⟩)
    (c15 : PySem.W.codeIn K cd15 "_law_pick" = true)
    (k15 : PySem.W.keepIn K (.ref f15) = true)
    (a16 : PySem.W.nsIn K mainGlobals "_law_names" = some (some (.ref f16)))
    (l16 : K.lookup f16 = some ⟨oc16, od16, .func (PySem.W.fnOf "_law_names" "_law_names" (defArgs s_law_names) (defBody s_law_names) (defScope s_law_names) .none kV16 dc16 pm16 an16 cd16 ct16), sl16⟩)
    (c16 : PySem.W.codeIn K cd16 "_law_names" = true)
    (k16 : PySem.W.keepIn K (.ref f16) = true)
    (a17 : PySem.W.nsIn K mainGlobals "_law_heaps" = some (some (.ref f17)))
    (l17 : K.lookup f17 = some ⟨oc17, od17, .func (PySem.W.fnOf "_law_heaps" "_law_heaps" (defArgs s_law_heaps) (defBody s_law_heaps) (defScope s_law_heaps) .none kV17 dc17 pm17 an17 cd17 ct17), sl17⟩)
    (c17 : PySem.W.codeIn K cd17 "_law_heaps" = true)
    (k17 : PySem.W.keepIn K (.ref f17) = true)
    (a18 : PySem.W.nsIn K mainGlobals "_law_marks" = some (some (.ref f18)))
    (l18 : K.lookup f18 = some ⟨oc18, od18, .func (PySem.W.fnOf "_law_marks" "_law_marks" (defArgs s_law_marks) (defBody s_law_marks) (defScope s_law_marks) .none kV18 dc18 pm18 an18 cd18 ct18), sl18⟩)
    (c18 : PySem.W.codeIn K cd18 "_law_marks" = true)
    (k18 : PySem.W.keepIn K (.ref f18) = true)
    (a19 : PySem.W.nsIn K mainGlobals "_law_tests" = some (some (.ref f19)))
    (l19 : K.lookup f19 = some ⟨oc19, od19, .func (PySem.W.fnOf "_law_tests" "_law_tests" (defArgs s_law_tests) (defBody s_law_tests) (defScope s_law_tests) .none kV19 dc19 pm19 an19 cd19 ct19), sl19⟩)
    (c19 : PySem.W.codeIn K cd19 "_law_tests" = true)
    (k19 : PySem.W.keepIn K (.ref f19) = true)
    (a20 : PySem.W.nsIn K mainGlobals "_law_changes" = some (some (.ref f20)))
    (l20 : K.lookup f20 = some ⟨oc20, od20, .func (PySem.W.fnOf "_law_changes" "_law_changes" (defArgs s_law_changes) (defBody s_law_changes) (defScope s_law_changes) .none kV20 dc20 pm20 an20 cd20 ct20), sl20⟩)
    (c20 : PySem.W.codeIn K cd20 "_law_changes" = true)
    (k20 : PySem.W.keepIn K (.ref f20) = true)
    (a21 : PySem.W.nsIn K mainGlobals "_law_mixed" = some (some (.ref f21)))
    (l21 : K.lookup f21 = some ⟨oc21, od21, .func (PySem.W.fnOf "_law_mixed" "_law_mixed" (defArgs s_law_mixed) (defBody s_law_mixed) (defScope s_law_mixed) .none kV21 dc21 pm21 an21 cd21 ct21), sl21⟩)
    (c21 : PySem.W.codeIn K cd21 "_law_mixed" = true)
    (k21 : PySem.W.keepIn K (.ref f21) = true)
    (a22 : PySem.W.nsIn K mainGlobals "_law_rule" = some (some (.ref f22)))
    (l22 : K.lookup f22 = some ⟨oc22, od22, .func (PySem.W.fnOf "_law_rule" "_law_rule" (defArgs s_law_rule) (defBody s_law_rule) (defScope s_law_rule) .none kV22 dc22 pm22 an22 cd22 ct22), sl22⟩)
    (c22 : PySem.W.codeIn K cd22 "_law_rule" = true)
    (k22 : PySem.W.keepIn K (.ref f22) = true)
    (a23 : PySem.W.nsIn K mainGlobals "_law_made" = some (some (.ref f23)))
    (l23 : K.lookup f23 = some ⟨oc23, od23, .func (PySem.W.fnOf "_law_made" "_law_made" (defArgs s_law_made) (defBody s_law_made) (defScope s_law_made) .none kV23 dc23 pm23 an23 cd23 ct23), sl23⟩)
    (c23 : PySem.W.codeIn K cd23 "_law_made" = true)
    (k23 : PySem.W.keepIn K (.ref f23) = true)
    (a24 : PySem.W.nsIn K mainGlobals "_law_same" = some (some (.ref f24)))
    (l24 : K.lookup f24 = some ⟨oc24, od24, .func (PySem.W.fnOf "_law_same" "_law_same" (defArgs s_law_same) (defBody s_law_same) (defScope s_law_same) .none kV24 dc24 pm24 an24 cd24 ct24), sl24⟩)
    (c24 : PySem.W.codeIn K cd24 "_law_same" = true)
    (k24 : PySem.W.keepIn K (.ref f24) = true)
    (a25 : PySem.W.nsIn K mainGlobals "_law_otherwise" = some (some (.ref f25)))
    (l25 : K.lookup f25 = some ⟨oc25, od25, .func (PySem.W.fnOf "_law_otherwise" "_law_otherwise" (defArgs s_law_otherwise) (defBody s_law_otherwise) (defScope s_law_otherwise) .none kV25 dc25 pm25 an25 cd25 ct25), sl25⟩)
    (c25 : PySem.W.codeIn K cd25 "_law_otherwise" = true)
    (k25 : PySem.W.keepIn K (.ref f25) = true)
    (a26 : PySem.W.nsIn K mainGlobals "_law_right" = some (some (.ref f26)))
    (l26 : K.lookup f26 = some ⟨oc26, od26, .func (PySem.W.fnOf "_law_right" "_law_right" (defArgs s_law_right) (defBody s_law_right) (defScope s_law_right) .none kV26 dc26 pm26 an26 cd26 ct26), sl26⟩)
    (c26 : PySem.W.codeIn K cd26 "_law_right" = true)
    (k26 : PySem.W.keepIn K (.ref f26) = true)
    (a27 : PySem.W.nsIn K mainGlobals "law" = some (some (.ref f27)))
    (l27 : K.lookup f27 = some ⟨oc27, od27, .func (PySem.W.fnOf "law" "law" (defArgs s_law) (defBody s_law) (defScope s_law) .none kV27 dc27 pm27 an27 cd27 ct27), sl27⟩)
    (c27 : PySem.W.codeIn K cd27 "law" = true)
    (k27 : PySem.W.keepIn K (.ref f27) = true)
    (aC : PySem.W.nsIn K mainGlobals "Rule" = some (some (.ref C)))
    (aM : PySem.W.nsIn K mainGlobals "MOST" = some (some (.int 40 tM)))
    (aL : PySem.W.nsIn K mainGlobals "LOSE" = some (some (.str (Str.ofString "lose") tL)))
    (aV : PySem.W.nsIn K mainGlobals "EVEN" = some (some (.str (Str.ofString "even") tV)))
    (aI : PySem.W.findIn K (.ref C) "__init__" = some (some (.ref fI)))
    (iI : PySem.W.isFn K (.ref fI) = true)
    (lI : K.lookup fI = some ⟨ocI, odI, .func (PySem.W.fnOf "__init__" "Rule.__init__" (defArgs s_Rule_init) (defBody s_Rule_init) (defScope s_Rule_init) .none (.ref DD) dcI pmI anI cdI ctI), slI⟩)
    (cI : PySem.W.codeIn K cdI "Rule.__init__" = true)
    (kI : PySem.W.keepIn K (.ref fI) = true)
    (aT : PySem.W.findIn K (.ref C) "told" = some (some (.ref fT)))
    (iT : PySem.W.isFn K (.ref fT) = true)
    (lT : K.lookup fT = some ⟨ocT, odT, .func (PySem.W.fnOf "told" "Rule.told" (defArgs s_Rule_told) (defBody s_Rule_told) (defScope s_Rule_told) .none kVT dcT pmT anT cdT ctT), slT⟩)
    (cT : PySem.W.codeIn K cdT "Rule.told" = true)
    (kT : PySem.W.keepIn K (.ref fT) = true)
    (aE : PySem.W.findIn K (.ref C) "__eq__" = some (some (.ref fE)))
    (iE : PySem.W.isFn K (.ref fE) = true)
    (lE : K.lookup fE = some ⟨ocE, odE, .func (PySem.W.fnOf "__eq__" "Rule.__eq__" (defArgs s_Rule_eq) (defBody s_Rule_eq) (defScope s_Rule_eq) .none kVE dcE pmE anE cdE ctE), slE⟩)
    (cE : PySem.W.codeIn K cdE "Rule.__eq__" = true)
    (kE : PySem.W.keepIn K (.ref fE) = true)
    (d1 : PySem.W.nsIn K DD "players" = some (some (.int 2 t1)))
    (d2 : PySem.W.nsIn K DD "ends" = some (some (.ref ee)))
    (d3 : PySem.W.nsIn K DD "most" = some (some (.int 40 t3)))
    (d4 : PySem.W.nsIn K DD "stuck" = some (some (.str (Str.ofString "lose") t4)))
    (le : K.lookup ee = some ⟨.type "tuple", ode, .seq #[] ne, sle⟩)
    (pg : PySem.W.plainGet K C Str.empty = true)
    (hd : PySem.W.hasDictIn K C = true)
    (po : PySem.W.plainOver K C = true)
    (sa : PySem.W.findIn K (.ref C) "__setattr__" = some (some (.builtin "object.__setattr__")))
    (nT : PySem.W.findIn K (.ref C) "_told" = some none)
    (mk : PySem.W.makesIn K C = true)
    (kc : PySem.W.keepIn K (.ref C) = true)
    (ha : PySem.W.findIn K (.ref C) "__class__" = some (some (.builtin "object.__class__")))
    (hn : PySem.W.specialIn K (.builtin "object.__class__") "__get__" = some (some (.builtin "getset_descriptor.__get__")))
    (ht : PySem.W.takesIn K (.builtin "object.__class__") = some true)
    (hm : PySem.W.mroIn K C (.type "object") = some true)
    (kk : PySem.W.kitOne K (.ref C) (.ref C) = some true)
    (n0 : PySem.W.notFirst K C (.ref C) = true)
    (n1 : PySem.W.notFirst K C (.type "tuple") = true)
    (n2 : PySem.W.notFirst K C (.type "str") = true)
    (n3 : PySem.W.notFirst K C (.type "list") = true)
    (q1 : PySem.W.kitOne K (.type "tuple") (.ref C) = some false)
    (q2 : PySem.W.kitOne K (.type "str") (.ref C) = some false)
    (q3 : PySem.W.kitOne K (.type "list") (.ref C) = some false)
    (z_len : PySem.W.nsIn K mainGlobals "len" = some none)
    (z_isinstance : PySem.W.nsIn K mainGlobals "isinstance" = some none)
    (z_str : PySem.W.nsIn K mainGlobals "str" = some none)
    (z_bool : PySem.W.nsIn K mainGlobals "bool" = some none)
    (z_range : PySem.W.nsIn K mainGlobals "range" = some none)
    (z_abs : PySem.W.nsIn K mainGlobals "abs" = some none)
    (z_int : PySem.W.nsIn K mainGlobals "int" = some none)
    (z_tuple : PySem.W.nsIn K mainGlobals "tuple" = some none)
    (z_list : PySem.W.nsIn K mainGlobals "list" = some none)
    (z_all : PySem.W.nsIn K mainGlobals "all" = some none)
    (z_min : PySem.W.nsIn K mainGlobals "min" = some none)
    (z_repr : PySem.W.nsIn K mainGlobals "repr" = some none)
    : ∃ fd : FuncData, (∀ (s : Shared) (v : Value), BindsTo s fd ⟨[v], []⟩ [("script", v)]) ∧ ∀ base : Heap, K.In base → base.Ns mainGlobals mg → G0.FnG l.prog w K mg base CX0 10 fa fd ["script"] (spLaw K) := by
  have e := hfa.symm.trans (PySem.W.mg_of X G a27)
  cases e
  have T : TM mg := ⟨PySem.W.mg_none_of X G z_len, PySem.W.mg_none_of X G z_isinstance, PySem.W.mg_none_of X G z_str, PySem.W.mg_none_of X G z_bool, PySem.W.mg_none_of X G z_range, PySem.W.mg_none_of X G z_abs, PySem.W.mg_none_of X G z_int, PySem.W.mg_none_of X G z_tuple, PySem.W.mg_none_of X G z_list, PySem.W.mg_none_of X G z_all, PySem.W.mg_none_of X G z_min, PySem.W.mg_none_of X G z_repr⟩
  have R : TR K mg C := ⟨⟨tL, PySem.W.mg_of X G aL⟩, ⟨tV, PySem.W.mg_of X G aV⟩, ⟨tM, PySem.W.mg_of X G aM⟩, PySem.W.mg_of X G aC, ⟨pg, hd, po, sa⟩, nT⟩
  have I : TI K C := ⟨ha, hn, ht, hm, kk⟩
  have N : RQ K C := ⟨n0, n1, n2, n3, q1, q2, q3⟩
  have M : Mk K C fI := ⟨mk, aI, iI, kc⟩
  have B : FunR K ee fI (PySem.W.fnOf "__init__" "Rule.__init__" (defArgs s_Rule_init) (defBody s_Rule_init) (defScope s_Rule_init) .none (.ref DD) dcI pmI anI cdI ctI) :=
    ⟨⟨ocI, odI, .none, .ref DD, dcI, pmI, anI, cdI, ctI, slI, rfl, lI, cI, .inl ⟨rfl, rfl⟩, .inr ⟨DD, rfl, fun q hq => by
      simp only [List.mem_cons, List.not_mem_nil, or_false] at hq
      rcases hq with rfl | rfl | rfl | rfl
      · exact ⟨_, d1, ⟨t1, rfl⟩⟩
      · exact ⟨_, d2, rfl⟩
      · exact ⟨_, d3, ⟨t3, rfl⟩⟩
      · exact ⟨_, d4, ⟨t4, rfl⟩⟩⟩⟩, kI⟩
  have he : ∀ H : Hp, SqT K H ee [] := fun H => .inr ⟨_, #[], ne, le, rfl, rfl, Nat.zero_le _, .nil⟩
  have FT := fun_mk (st := s_Rule_told) lT cT kT
  have FE := fun_mk (st := s_Rule_eq) lE cE kE
  have bT := FT.binds (ps := ["self"]) fun _ _ _ _ _ _ us hl => match us, hl with | [_], _ => rfl
  have bE := FE.binds (ps := ["self", "other"]) fun _ _ _ _ _ _ us hl => match us, hl with | [_, _], _ => rfl
  have F_is_name := fun_mk (st := s_is_name) l1 c1 k1
  have b_is_name := F_is_name.binds (ps := ["thing"]) fun _ _ _ _ _ _ us hl => match us, hl with | [_], _ => rfl
  have F_is_number := fun_mk (st := s_is_number) l2 c2 k2
  have b_is_number := F_is_number.binds (ps := ["thing", "low", "high"]) fun _ _ _ _ _ _ us hl => match us, hl with | [_, _, _], _ => rfl
  have F_is_tuple := fun_mk (st := s_is_tuple) l3 c3 k3
  have b_is_tuple := F_is_tuple.binds (ps := ["thing", "low", "high"]) fun _ _ _ _ _ _ us hl => match us, hl with | [_, _, _], _ => rfl
  have F_is_list := fun_mk (st := s_is_list) l4 c4 k4
  have b_is_list := F_is_list.binds (ps := ["thing", "low", "high"]) fun _ _ _ _ _ _ us hl => match us, hl with | [_, _, _], _ => rfl
  have F_are_tests := fun_mk (st := s_are_tests) l5 c5 k5
  have b_are_tests := F_are_tests.binds (ps := ["thing", "cells"]) fun _ _ _ _ _ _ us hl => match us, hl with | [_, _], _ => rfl
  have F_is_test := fun_mk (st := s_is_test) l6 c6 k6
  have b_is_test := F_is_test.binds (ps := ["thing", "cells"]) fun _ _ _ _ _ _ us hl => match us, hl with | [_, _], _ => rfl
  have F_are_changes := fun_mk (st := s_are_changes) l7 c7 k7
  have b_are_changes := F_are_changes.binds (ps := ["thing", "cells"]) fun _ _ _ _ _ _ us hl => match us, hl with | [_, _], _ => rfl
  have F_is_change := fun_mk (st := s_is_change) l8 c8 k8
  have b_is_change := F_is_change.binds (ps := ["thing", "cells"]) fun _ _ _ _ _ _ us hl => match us, hl with | [_, _], _ => rfl
  have F_are_moves := fun_mk (st := s_are_moves) l9 c9 k9
  have b_are_moves := F_are_moves.binds (ps := ["thing", "cells", "players"]) fun _ _ _ _ _ _ us hl => match us, hl with | [_, _, _], _ => rfl
  have F_is_move := fun_mk (st := s_is_move) l10 c10 k10
  have b_is_move := F_is_move.binds (ps := ["thing", "cells", "players"]) fun _ _ _ _ _ _ us hl => match us, hl with | [_, _, _], _ => rfl
  have F_is_end := fun_mk (st := s_is_end) l11 c11 k11
  have b_is_end := F_is_end.binds (ps := ["thing", "cells", "players"]) fun _ _ _ _ _ _ us hl => match us, hl with | [_, _, _], _ => rfl
  have F_are_points := fun_mk (st := s_are_points) l12 c12 k12
  have b_are_points := F_are_points.binds (ps := ["thing", "players"]) fun _ _ _ _ _ _ us hl => match us, hl with | [_, _], _ => rfl
  have F_law_begin := fun_mk (st := s_law_begin) l13 c13 k13
  have b_law_begin := F_law_begin.binds (ps := ["script"]) fun _ _ _ _ _ _ us hl => match us, hl with | [_], _ => rfl
  have F_law_take := fun_mk (st := s_law_take) l14 c14 k14
  have b_law_take := F_law_take.binds (ps := ["draw", "size"]) fun _ _ _ _ _ _ us hl => match us, hl with | [_, _], _ => rfl
  have F_law_pick := fun_mk (st := s_law_pick) l15 c15 k15
  have b_law_pick := F_law_pick.binds (ps := ["draw", "some"]) fun _ _ _ _ _ _ us hl => match us, hl with | [_, _], _ => rfl
  have F_law_names := fun_mk (st := s_law_names) l16 c16 k16
  have b_law_names := F_law_names.binds (ps := ["draw", "many"]) fun _ _ _ _ _ _ us hl => match us, hl with | [_, _], _ => rfl
  have F_law_heaps := fun_mk (st := s_law_heaps) l17 c17 k17
  have b_law_heaps := F_law_heaps.binds (ps := ["draw", "seats"]) fun _ _ _ _ _ _ us hl => match us, hl with | [_, _], _ => rfl
  have F_law_marks := fun_mk (st := s_law_marks) l18 c18 k18
  have b_law_marks := F_law_marks.binds (ps := ["draw", "seats"]) fun _ _ _ _ _ _ us hl => match us, hl with | [_, _], _ => rfl
  have F_law_tests := fun_mk (st := s_law_tests) l19 c19 k19
  have b_law_tests := F_law_tests.binds (ps := ["draw", "many", "longest"]) fun _ _ _ _ _ _ us hl => match us, hl with | [_, _, _], _ => rfl
  have F_law_changes := fun_mk (st := s_law_changes) l20 c20 k20
  have b_law_changes := F_law_changes.binds (ps := ["draw", "many"]) fun _ _ _ _ _ _ us hl => match us, hl with | [_, _], _ => rfl
  have F_law_mixed := fun_mk (st := s_law_mixed) l21 c21 k21
  have b_law_mixed := F_law_mixed.binds (ps := ["draw", "seats"]) fun _ _ _ _ _ _ us hl => match us, hl with | [_, _], _ => rfl
  have F_law_rule := fun_mk (st := s_law_rule) l22 c22 k22
  have b_law_rule := F_law_rule.binds (ps := ["draw"]) fun _ _ _ _ _ _ us hl => match us, hl with | [_], _ => rfl
  have F_law_made := fun_mk (st := s_law_made) l23 c23 k23
  have b_law_made := F_law_made.binds (ps := ["told"]) fun _ _ _ _ _ _ us hl => match us, hl with | [_], _ => rfl
  have F_law_same := fun_mk (st := s_law_same) l24 c24 k24
  have b_law_same := F_law_same.binds (ps := ["one", "other"]) fun _ _ _ _ _ _ us hl => match us, hl with | [_, _], _ => rfl
  have F_law_otherwise := fun_mk (st := s_law_otherwise) l25 c25 k25
  have b_law_otherwise := F_law_otherwise.binds (ps := ["draw", "told"]) fun _ _ _ _ _ _ us hl => match us, hl with | [_, _], _ => rfl
  have F_law_right := fun_mk (st := s_law_right) l26 c26 k26
  have b_law_right := F_law_right.binds (ps := ["draw"]) fun _ _ _ _ _ _ us hl => match us, hl with | [_], _ => rfl
  have F_law := fun_mk (st := s_law) l27 c27 k27
  refine ⟨PySem.W.fnOf "law" "law" (defArgs s_law) (defBody s_law) (defScope s_law) .none kV27 dc27 pm27 an27 cd27 ct27, fun s v => .of_eq rfl, fun base _ _ => ?_⟩
  have C_is_name := (⟨F_is_name, b_is_name, PySem.W.mg_of X G a1⟩ : Def K mg "is_name" s_is_name ["thing"] f1 _).cal (P := l.prog) (w := w) (base := base) (ok_is_name (k := 0) F_is_name T)
  have C_is_number := (⟨F_is_number, b_is_number, PySem.W.mg_of X G a2⟩ : Def K mg "is_number" s_is_number ["thing", "low", "high"] f2 _).cal (P := l.prog) (w := w) (base := base) (ok_is_number (k := 0) F_is_number T)
  have C_is_tuple := (⟨F_is_tuple, b_is_tuple, PySem.W.mg_of X G a3⟩ : Def K mg "is_tuple" s_is_tuple ["thing", "low", "high"] f3 _).cal (P := l.prog) (w := w) (base := base) (ok_is_tuple (k := 0) F_is_tuple T)
  have C_is_list := (⟨F_is_list, b_is_list, PySem.W.mg_of X G a4⟩ : Def K mg "is_list" s_is_list ["thing", "low", "high"] f4 _).cal (P := l.prog) (w := w) (base := base) (ok_is_list (k := 0) F_is_list T)
  have C_is_test := (⟨F_is_test, b_is_test, PySem.W.mg_of X G a6⟩ : Def K mg "_is_test" s_is_test ["thing", "cells"] f6 _).cal (P := l.prog) (w := w) (base := base) (ok_is_test F_is_test T C_is_tuple C_is_number)
  have C_is_change := (⟨F_is_change, b_is_change, PySem.W.mg_of X G a8⟩ : Def K mg "_is_change" s_is_change ["thing", "cells"] f8 _).cal (P := l.prog) (w := w) (base := base) (ok_is_change F_is_change T C_is_tuple C_is_number)
  have C_are_tests := (⟨F_are_tests, b_are_tests, PySem.W.mg_of X G a5⟩ : Def K mg "_are_tests" s_are_tests ["thing", "cells"] f5 _).cal (P := l.prog) (w := w) (base := base) (ok_are_tests F_are_tests T C_is_tuple C_is_test)
  have C_are_changes := (⟨F_are_changes, b_are_changes, PySem.W.mg_of X G a7⟩ : Def K mg "_are_changes" s_are_changes ["thing", "cells"] f7 _).cal (P := l.prog) (w := w) (base := base) (ok_are_changes F_are_changes T C_is_tuple C_is_change)
  have C_are_points := (⟨F_are_points, b_are_points, PySem.W.mg_of X G a12⟩ : Def K mg "_are_points" s_are_points ["thing", "players"] f12 _).cal (P := l.prog) (w := w) (base := base) (ok_are_points F_are_points T C_is_tuple C_is_number)
  have C_is_move := (⟨F_is_move, b_is_move, PySem.W.mg_of X G a10⟩ : Def K mg "_is_move" s_is_move ["thing", "cells", "players"] f10 _).cal (P := l.prog) (w := w) (base := base) (ok_is_move F_is_move T C_is_tuple C_is_number C_is_name C_are_tests C_are_changes)
  have C_are_moves := (⟨F_are_moves, b_are_moves, PySem.W.mg_of X G a9⟩ : Def K mg "_are_moves" s_are_moves ["thing", "cells", "players"] f9 _).cal (P := l.prog) (w := w) (base := base) (ok_are_moves F_are_moves T C_is_list C_is_move)
  have C_is_end := (⟨F_is_end, b_is_end, PySem.W.mg_of X G a11⟩ : Def K mg "_is_end" s_is_end ["thing", "cells", "players"] f11 _).cal (P := l.prog) (w := w) (base := base) (ok_is_end F_is_end T C_is_tuple C_are_tests C_are_points)
  have C_law_begin := (⟨F_law_begin, b_law_begin, PySem.W.mg_of X G a13⟩ : Def K mg "_law_begin" s_law_begin ["script"] f13 _).cal (P := l.prog) (w := w) (base := base) (ok_begin (k := 0) F_law_begin T)
  have C_law_take := (⟨F_law_take, b_law_take, PySem.W.mg_of X G a14⟩ : Def K mg "_law_take" s_law_take ["draw", "size"] f14 _).cal (P := l.prog) (w := w) (base := base) (ok_take (k := 0) F_law_take T)
  have C_law_pick := (⟨F_law_pick, b_law_pick, PySem.W.mg_of X G a15⟩ : Def K mg "_law_pick" s_law_pick ["draw", "some"] f15 _).cal (P := l.prog) (w := w) (base := base) (ok_pick F_law_pick T C_law_take)
  have C_law_names := (⟨F_law_names, b_law_names, PySem.W.mg_of X G a16⟩ : Def K mg "_law_names" s_law_names ["draw", "many"] f16 _).cal (P := l.prog) (w := w) (base := base) (ok_names F_law_names T C_law_take C_law_pick)
  have C_law_tests := (⟨F_law_tests, b_law_tests, PySem.W.mg_of X G a19⟩ : Def K mg "_law_tests" s_law_tests ["draw", "many", "longest"] f19 _).cal (P := l.prog) (w := w) (base := base) (ok_tests F_law_tests T C_law_take C_law_pick)
  have C_law_changes := (⟨F_law_changes, b_law_changes, PySem.W.mg_of X G a20⟩ : Def K mg "_law_changes" s_law_changes ["draw", "many"] f20 _).cal (P := l.prog) (w := w) (base := base) (ok_changes F_law_changes T C_law_take C_law_pick)
  have C_law_heaps := (⟨F_law_heaps, b_law_heaps, PySem.W.mg_of X G a17⟩ : Def K mg "_law_heaps" s_law_heaps ["draw", "seats"] f17 _).cal (P := l.prog) (w := w) (base := base) (ok_heaps F_law_heaps T C_law_take C_law_pick C_law_names)
  have C_law_marks := (⟨F_law_marks, b_law_marks, PySem.W.mg_of X G a18⟩ : Def K mg "_law_marks" s_law_marks ["draw", "seats"] f18 _).cal (P := l.prog) (w := w) (base := base) (ok_marks F_law_marks T C_law_take C_law_pick C_law_names)
  have C_law_mixed := (⟨F_law_mixed, b_law_mixed, PySem.W.mg_of X G a21⟩ : Def K mg "_law_mixed" s_law_mixed ["draw", "seats"] f21 _).cal (P := l.prog) (w := w) (base := base) (ok_mixed F_law_mixed T C_law_take C_law_pick C_law_names C_law_tests C_law_changes)
  have C_law_rule := (⟨F_law_rule, b_law_rule, PySem.W.mg_of X G a22⟩ : Def K mg "_law_rule" s_law_rule ["draw"] f22 _).cal (P := l.prog) (w := w) (base := base) (ok_rule F_law_rule C_law_take C_law_pick C_law_heaps C_law_marks C_law_mixed)
  have FI := ok_init (P := l.prog) (w := w) (base := base) (fun {sp} len hb => FunD.ok B sc_Rule_init len hb) T R C_is_list C_is_number C_are_moves C_is_end
  have C_law_made := (⟨F_law_made, b_law_made, PySem.W.mg_of X G a23⟩ : Def K mg "_law_made" s_law_made ["told"] f23 _).cal (P := l.prog) (w := w) (base := base) (ok_made F_law_made T R M B FI)
  have C_law_otherwise := (⟨F_law_otherwise, b_law_otherwise, PySem.W.mg_of X G a25⟩ : Def K mg "_law_otherwise" s_law_otherwise ["draw", "told"] f25 _).cal (P := l.prog) (w := w) (base := base) (ok_otherwise F_law_otherwise T C_law_take)
  have C_law_same := (⟨F_law_same, b_law_same, PySem.W.mg_of X G a24⟩ : Def K mg "_law_same" s_law_same ["one", "other"] f24 _).calG (P := l.prog) (w := w) (base := base) (ok_same (k := 0) F_law_same T)
  have C_law_right := (⟨F_law_right, b_law_right, PySem.W.mg_of X G a26⟩ : Def K mg "_law_right" s_law_right ["draw"] f26 _).calG (P := l.prog) (w := w) (base := base) (ok_right F_law_right T R I N M B he FI ⟨aT, iT, kT⟩ (ok_told (k := 0) FT R) bT aE iE (ok_eq (k := 0) FE T R I) bE C_law_rule C_law_same C_law_made C_law_otherwise)
  exact ok_law F_law T R C_law_begin C_law_right
end PL
open PySem PySem.W PyProof.Rows
set_option maxHeartbeats 0 in
theorem PySem.Challenge.cw_playstead_k01_rules_made_holds : PySem.Challenge.rw_playstead_k01_rules_made.Holds := by
  w_on; o_law; k_head; (case hw => w_witness2)
  k_fill
  refine G0.walkG (l := PySem.Challenge.rw_playstead_k01_rules_made) (n := 63) (k := 10) (x := "script") (sp := PL.spLaw) rfl (by decide) rfl ⟨rfl, by decide, by decide⟩ (fun w h Y => PySem.W.kIn_of Y) ?F (fun K H a ns hl _ hS => ⟨a, ns, rfl, hS, hl, fun _ => rfl⟩)
  case F =>
    intro w mg fa h KX G hmg
    refine' PL.all_mk KX G hmg ?w_a1 ?w_l1 ?w_c1 ?w_k1 ?w_a2 ?w_l2 ?w_c2 ?w_k2 ?w_a3 ?w_l3 ?w_c3 ?w_k3 ?w_a4 ?w_l4 ?w_c4 ?w_k4 ?w_a5 ?w_l5 ?w_c5 ?w_k5 ?w_a6 ?w_l6 ?w_c6 ?w_k6 ?w_a7 ?w_l7 ?w_c7 ?w_k7 ?w_a8 ?w_l8 ?w_c8 ?w_k8 ?w_a9 ?w_l9 ?w_c9 ?w_k9 ?w_a10 ?w_l10 ?w_c10 ?w_k10 ?w_a11 ?w_l11 ?w_c11 ?w_k11 ?w_a12 ?w_l12 ?w_c12 ?w_k12 ?w_a13 ?w_l13 ?w_c13 ?w_k13 ?w_a14 ?w_l14 ?w_c14 ?w_k14 ?w_a15 ?w_l15 ?w_c15 ?w_k15 ?w_a16 ?w_l16 ?w_c16 ?w_k16 ?w_a17 ?w_l17 ?w_c17 ?w_k17 ?w_a18 ?w_l18 ?w_c18 ?w_k18 ?w_a19 ?w_l19 ?w_c19 ?w_k19 ?w_a20 ?w_l20 ?w_c20 ?w_k20 ?w_a21 ?w_l21 ?w_c21 ?w_k21 ?w_a22 ?w_l22 ?w_c22 ?w_k22 ?w_a23 ?w_l23 ?w_c23 ?w_k23 ?w_a24 ?w_l24 ?w_c24 ?w_k24 ?w_a25 ?w_l25 ?w_c25 ?w_k25 ?w_a26 ?w_l26 ?w_c26 ?w_k26 ?w_a27 ?w_l27 ?w_c27 ?w_k27 ?w_aC ?w_aM ?w_aL ?w_aV ?w_aI ?w_iI ?w_lI ?w_cI ?w_kI ?w_aT ?w_iT ?w_lT ?w_cT ?w_kT ?w_aE ?w_iE ?w_lE ?w_cE ?w_kE ?w_d1 ?w_d2 ?w_d3 ?w_d4 ?w_le ?w_pg ?w_hd ?w_po ?w_sa ?w_nT ?w_mk ?w_kc ?w_ha ?w_hn ?w_ht ?w_hm ?w_kk ?w_n0 ?w_n1 ?w_n2 ?w_n3 ?w_q1 ?w_q2 ?w_q3 ?w_z_len ?w_z_isinstance ?w_z_str ?w_z_bool ?w_z_range ?w_z_abs ?w_z_int ?w_z_tuple ?w_z_list ?w_z_all ?w_z_min ?w_z_repr
    (case w_a1 => k_is)
    (case w_l1 => k_is)
    (case w_c1 => k_is)
    (case w_k1 => k_is)
    (case w_a2 => k_is)
    (case w_l2 => k_is)
    (case w_c2 => k_is)
    (case w_k2 => k_is)
    (case w_a3 => k_is)
    (case w_l3 => k_is)
    (case w_c3 => k_is)
    (case w_k3 => k_is)
    (case w_a4 => k_is)
    (case w_l4 => k_is)
    (case w_c4 => k_is)
    (case w_k4 => k_is)
    (case w_a5 => k_is)
    (case w_l5 => k_is)
    (case w_c5 => k_is)
    (case w_k5 => k_is)
    (case w_a6 => k_is)
    (case w_l6 => k_is)
    (case w_c6 => k_is)
    (case w_k6 => k_is)
    (case w_a7 => k_is)
    (case w_l7 => k_is)
    (case w_c7 => k_is)
    (case w_k7 => k_is)
    (case w_a8 => k_is)
    (case w_l8 => k_is)
    (case w_c8 => k_is)
    (case w_k8 => k_is)
    (case w_a9 => k_is)
    (case w_l9 => k_is)
    (case w_c9 => k_is)
    (case w_k9 => k_is)
    (case w_a10 => k_is)
    (case w_l10 => k_is)
    (case w_c10 => k_is)
    (case w_k10 => k_is)
    (case w_a11 => k_is)
    (case w_l11 => k_is)
    (case w_c11 => k_is)
    (case w_k11 => k_is)
    (case w_a12 => k_is)
    (case w_l12 => k_is)
    (case w_c12 => k_is)
    (case w_k12 => k_is)
    (case w_a13 => k_is)
    (case w_l13 => k_is)
    (case w_c13 => k_is)
    (case w_k13 => k_is)
    (case w_a14 => k_is)
    (case w_l14 => k_is)
    (case w_c14 => k_is)
    (case w_k14 => k_is)
    (case w_a15 => k_is)
    (case w_l15 => k_is)
    (case w_c15 => k_is)
    (case w_k15 => k_is)
    (case w_a16 => k_is)
    (case w_l16 => k_is)
    (case w_c16 => k_is)
    (case w_k16 => k_is)
    (case w_a17 => k_is)
    (case w_l17 => k_is)
    (case w_c17 => k_is)
    (case w_k17 => k_is)
    (case w_a18 => k_is)
    (case w_l18 => k_is)
    (case w_c18 => k_is)
    (case w_k18 => k_is)
    (case w_a19 => k_is)
    (case w_l19 => k_is)
    (case w_c19 => k_is)
    (case w_k19 => k_is)
    (case w_a20 => k_is)
    (case w_l20 => k_is)
    (case w_c20 => k_is)
    (case w_k20 => k_is)
    (case w_a21 => k_is)
    (case w_l21 => k_is)
    (case w_c21 => k_is)
    (case w_k21 => k_is)
    (case w_a22 => k_is)
    (case w_l22 => k_is)
    (case w_c22 => k_is)
    (case w_k22 => k_is)
    (case w_a23 => k_is)
    (case w_l23 => k_is)
    (case w_c23 => k_is)
    (case w_k23 => k_is)
    (case w_a24 => k_is)
    (case w_l24 => k_is)
    (case w_c24 => k_is)
    (case w_k24 => k_is)
    (case w_a25 => k_is)
    (case w_l25 => k_is)
    (case w_c25 => k_is)
    (case w_k25 => k_is)
    (case w_a26 => k_is)
    (case w_l26 => k_is)
    (case w_c26 => k_is)
    (case w_k26 => k_is)
    (case w_a27 => k_is)
    (case w_l27 => k_is)
    (case w_c27 => k_is)
    (case w_k27 => k_is)
    (case w_aC => k_is)
    (case w_aM => k_is)
    (case w_aL => k_is)
    (case w_aV => k_is)
    (case w_aI => k_is)
    (case w_iI => k_is)
    (case w_lI => k_is)
    (case w_cI => k_is)
    (case w_kI => k_is)
    (case w_aT => k_is)
    (case w_iT => k_is)
    (case w_lT => k_is)
    (case w_cT => k_is)
    (case w_kT => k_is)
    (case w_aE => k_is)
    (case w_iE => k_is)
    (case w_lE => k_is)
    (case w_cE => k_is)
    (case w_kE => k_is)
    (case w_d1 => k_is)
    (case w_d2 => k_is)
    (case w_d3 => k_is)
    (case w_d4 => k_is)
    (case w_le => k_is)
    (case w_pg => k_is)
    (case w_hd => k_is)
    (case w_po => k_is)
    (case w_sa => k_is)
    (case w_nT => k_is)
    (case w_mk => k_is)
    (case w_kc => k_is)
    (case w_ha => k_is)
    (case w_hn => k_is)
    (case w_ht => k_is)
    (case w_hm => k_is)
    (case w_kk => kit_is)
    (case w_n0 => k_is)
    (case w_n1 => k_is)
    (case w_n2 => k_is)
    (case w_n3 => k_is)
    (case w_q1 => kit_is)
    (case w_q2 => kit_is)
    (case w_q3 => kit_is)
    (case w_z_len => k_is)
    (case w_z_isinstance => k_is)
    (case w_z_str => k_is)
    (case w_z_bool => k_is)
    (case w_z_range => k_is)
    (case w_z_abs => k_is)
    (case w_z_int => k_is)
    (case w_z_tuple => k_is)
    (case w_z_list => k_is)
    (case w_z_all => k_is)
    (case w_z_min => k_is)
    (case w_z_repr => k_is)
