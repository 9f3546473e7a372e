import PyProof.Rows.All
import Wide.All
import OpenK.AllK
import Wide.FinOn
import HandS.ForMost
import HandS.IsInst
import HandS.Style
import HandS.Flow
import HandS.Evl
import HandS.Walk
import HandS.Conv
import HandS.SortInts
import PySem.Challenge.RW_priceblind_k01_what_any_value_is
set_option Elab.async false
set_option linter.all false
set_option maxRecDepth 100000
set_option maxHeartbeats 4000000
/-! Our own layer over HandS: defs that are called where no repr is under way (guards known), repr of data, keyword calls. -/
namespace GL
open PySem PySem.Spec PyProof.Rows L2

structure FnG (pg : Program) (w : World) (K : PySem.W.Frag) (mg : Str → Option Value) (bs : Heap) (cx : CXT)
    (k : Nat) (f : Addr) (fd : FuncData) (ps : List Str) (sp : Sp) : Prop where
  len : ∀ vs H Q E, sp vs H Q E → vs.length = ps.length
  run : ∀ (A : Around) (out : List Env) (s : Shared) (H : Hp) (ar : Args) (us : List Value) (vs : List V) (Q : VK) (E : XK),
    A.guards = some [] → Room k A → Env0 pg w K mg bs A out s H → BindsTo s fd ar (ps.zip us) → Vals vs us → sp vs H Q E →
    codeAny (model pg w) A (.call (.ref f) ar) (CR cx out pg w H s Q E) s

theorem FnG.more {pg : Program} {w : World} {K : PySem.W.Frag} {mg : Str → Option Value} {bs : Heap} {cx : CXT} {j k : Nat} {f : Addr}
    {fd : FuncData} {ps : List Str} {sp : Sp} (F : FnG pg w K mg bs cx j f fd ps sp) (h : j ≤ k) : FnG pg w K mg bs cx k f fd ps sp :=
  ⟨F.len, fun A out s H ar us vs Q E hg rm => F.run A out s H ar us vs Q E hg (rm.mono h)⟩

theorem FnG.weak {pg : Program} {w : World} {K : PySem.W.Frag} {mg : Str → Option Value} {bs : Heap} {cx : CXT} {k : Nat} {f : Addr}
    {fd : FuncData} {ps : List Str} {sp sp' : Sp} (F : FnG pg w K mg bs cx k f fd ps sp) (h : ∀ vs H Q E, sp' vs H Q E → sp vs H Q E) :
    FnG pg w K mg bs cx k f fd ps sp' :=
  ⟨fun vs H Q E q => F.len vs H Q E (h _ _ _ _ q), fun A out s H ar us vs Q E hg rm e0 hb hv hs => F.run A out s H ar us vs Q E hg rm e0 hb hv (h _ _ _ _ hs)⟩

section
variable {pg : Program} {w : World} {K : PySem.W.Frag} {mg : Str → Option Value} {bs : Heap}

/-- a body's end is the call's end -/
theorem to_end {cx : CXT} {N : List Str} {q : Str} {sc : Scope} {f : Addr} {cd : Value} {A : Around} {out : List Env} {s s' : Shared} {H : Hp} {Q : VK} {E : XK}
    {τ : L2.St} {G : Hp} {v : V} {u : Value} (J : Inv (cxOf cx pg w K mg bs N q sc f cd A out s H E) [] τ G s') (rv : RelV v u) (z : Q v G) : CE out pg w H s Q u s' :=
  ⟨v, G, J.os, J.bare, J.base, J.hok, rv, z⟩

/-- a def by its body, the guards known -/
theorem Fun.okG {cx : CXT} {x q : Str} {st : Stmt} {f : Addr} {fd : FuncData} {N ps : List Str} {k : Nat} {sp : Sp} (F : Fun K x q st f fd)
    (S : FnScope N ps (defScope st)) (len : ∀ vs H Q E, sp vs H Q E → vs.length = ps.length)
    (hb : ∀ (cd : Value) (A : Around) (out : List Env) (s : Shared) (H : Hp) (vs : List V) (Q : VK) (E : XK), A.guards = some [] →
      Room k (A.deeper (envOfC q (defScope st) s.heap.objs.size f cd)) → sp vs H Q E →
      ∃ t, PSs (cxOf cx pg w K mg bs N q (defScope st) f cd A out s H E) (defBody st) t ∧ t { nx := fun _ H' => Q .non H', rt := Q } (start N vs) H) :
    FnG pg w K mg bs cx (k + 1) f fd ps sp := by
  obtain ⟨oc, od, kV, doc, pm, an, cd, ct, osl, rfl, lk, hcd⟩ := F.ex
  refine ⟨len, fun A out s H ar us vs Q E hg rm ev hbi rv hsp => ?_⟩
  have hle := len _ _ _ _ hsp
  have keepB : ∀ b o, bs.get? b = some o → s.heap.get? b = some o := fun b o z => (ev.bs b o z).1
  have KX : K.In s.heap := ev.mod.kin.keeps keepB
  have lim : s.heap.NoLimit := ev.mod.nolimit.keeps keepB
  have kinds : ∀ y ∈ ps.zip us, (defScope st).names.lookup y.1 = some .local ∨
      ((defScope st).names.lookup y.1 = some .cell ∧ ((cellsFrom (s.heap.objs.size + 1) (defScope st).names []).lookup y.1).isSome = true) := by
    rintro ⟨n, v⟩ hy
    rcases S.par n (List.of_mem_zip hy).1 with z | z
    · exact .inl z
    · exact .inr ⟨z, PySem.W.cellsFrom_some _ _ _ (.inl z)⟩
  have room := rm.depth
  refine codeAny_call_function room (KX _ _ lk) rfl S.co S.gen rfl (PySem.W.codeRec_of KX hcd) (hbi _ _ _ _ ?_)
  refine wpAny_newFunctionEnv_cells S.kind kinds fun env he s1 ic => ?_
  subst he
  refine ⟨lim.keeps ic.toInCall.keep, codeAny_func ?_⟩
  obtain ⟨t, ht, hq⟩ := hb cd A out s H vs Q E hg (rm.deeper _) hsp
  have J := inv_start (CX := cx) (E := E) S rm.hd ev hle rv ic
  refine wpAny_mono (ht.run [] s1 (start N vs) H _ J hq) (fun fl s' hs => ?_) fun e s' hs => hs
  cases fl with
  | ret u => exact (let ⟨_, _, _, J', rv', z⟩ := hs; to_end J' rv' z)
  | next => exact (let ⟨_, _, J', z⟩ := hs; to_end (v := V.non) (u := Value.none) J' rfl z)
  | brk => exact (let ⟨_, _, _, z⟩ := hs; False.elim z)
  | cont => exact (let ⟨_, _, _, z⟩ := hs; False.elim z)

/-- a promise at the call itself, over a state where the guards are known -/
theorem FnG.goes {X : Cx} {cx : CXT} {k : Nat} {f : Addr} {fd : FuncData} {ps : List Str} {sp : Sp} {E : XK} {pins : List (Addr × Obj)} {σ : L2.St} {H : Hp}
    {s : Shared} {Q : VK} {ar : Args} {us : List Value} {vs : List V} (F : FnG X.prog X.w X.K X.mg X.base cx k f fd ps sp) (gd : X.A.guards = some [])
    (rm : Room k X.A) (hb : BindsTo s fd ar (ps.zip us)) (hx : Passes cx X E) (I : Inv X pins σ H s) (r : Vals vs us) (h : sp vs H Q E) :
    codeAny (model X.prog X.w) X.A (.call (.ref f) ar) (wants (EP X pins σ Q) X.xe) s := by
  refine codeAny_mono (F.run X.A X.stack s H ar us vs Q E gd rm I.env0 hb r h) fun res s' hq => ?_
  cases res with
  | error e => exact hx pins σ H s e s' I hq
  | ok fl =>
    cases fl with
    | ret u => exact I.after hq
    | next => exact hq.elim
    | brk => exact hq.elim
    | cont => exact hq.elim
end
end GL
namespace GL
open PySem PySem.Spec PyProof.Rows L2
section
variable {X : Cx} {cx : CXT} {k : Nat} {f : Addr} {fd : FuncData} {ps ks : List Str} {sp : Sp} {dvs : List V} {ds : List Value} {E : XK}
  {x : Str} {p pos : Pos} {e : Expr} {es : List Expr} {kws : List Keyword} {t tk : TA}

/-- the callee, given its values -/
theorem FnG.call_vals {pins : List (Addr × Obj)} {σ : L2.St} {H : Hp} {s : Shared} {Q : VK} {us : List Value} {vs : List V}
    (F : FnG X.prog X.w X.K X.mg X.base cx k f fd ps sp) (gd : X.A.guards = some []) (rm : Room k X.A) (hb : Binds X.K fd ps ds) (hd : Vals dvs ds)
    (hx : Passes cx X E) (I : Inv X pins σ H s) (r : Vals vs us) (h : sp (vs ++ dvs) H Q E) :
    wpAny (model X.prog X.w) X.A (call (.ref f) us) (EP X pins σ Q) X.xe s := by
  have r2 := r.append hd
  have hl : (us ++ ds).length = ps.length := r2.length.symm.trans (F.len _ _ _ _ h)
  exact wpAny_call (F.goes gd rm (hb s us I.kIn hl) hx I r2 h)

/-- f(e, ..) -/
theorem pg_call (F : FnG X.prog X.w X.K X.mg X.base cx k f fd ps sp) (gd : X.A.guards = some []) (rm : Room k X.A) (hg : Gl X x)
    (hm : X.mg x = some (.ref f)) (kp : PySem.W.keepIn X.K (.ref f) = true) (hb : Binds X.K fd ps ds) (hd : Vals dvs ds) (hx : Passes cx X E) (ha : PA X (e :: es) t)
    (hdb : (x == ("__debug__" : Str)) = false := by decide) (hst : starEach (e :: es) X.env = (false, eval e X.env) :: starEach es X.env := by rfl)
    (hpl : (backTo pos (starEach es X.env)).any (·.1) = false := by rfl) : PE X (.Call (.Name x p) (e :: es) [] pos) (tCall sp dvs E t) := by
  refine ⟨fun pins s σ H Q I h => wpAny_Call_Name_kw (ld_glob I hg hm ?_ hdb)⟩
  refine PySem.W.callWith_K (h₀ := X.base) I.ok.mod.kin kp (thn (ha.run pos pins s σ H _ I h) ?_) hst hpl
  rintro us s1 ⟨vs, H1, I1, r, q⟩
  exact ⟨I1.kIn, F.call_vals gd rm hb hd hx I1 r q⟩

/-- f() -/
theorem pg_call0 (F : FnG X.prog X.w X.K X.mg X.base cx k f fd ps sp) (gd : X.A.guards = some []) (rm : Room k X.A) (hg : Gl X x)
    (hm : X.mg x = some (.ref f)) (kp : PySem.W.keepIn X.K (.ref f) = true) (hb : Binds X.K fd ps ds) (hd : Vals dvs ds) (hx : Passes cx X E)
    (hdb : (x == ("__debug__" : Str)) = false := by decide) : PE X (.Call (.Name x p) [] [] pos) (tCall sp dvs E tNil) :=
  ⟨fun pins s σ H Q I h => wpAny_Call_Name_kw (ld_glob I hg hm (PySem.W.callWith_K0 I.kIn kp (F.call_vals (us := []) gd rm hb hd hx I .nil h)) hdb)⟩

/-- how n values by place and the keywords ks bind -/
structure KwB (K : PySem.W.Frag) (fd : FuncData) (ps : List Str) (n : Nat) (ks : List Str) (g : {α : Type} → List α → List α → List α) : Prop where
  to : ∀ (s : Shared) (us ws : List Value), us.length = n → ws.length = ks.length → BindsTo s fd ⟨us, ks.zip ws⟩ (ps.zip (g us ws))
  rel : ∀ {vs : List V} {us : List Value} {zs : List V} {ws : List Value}, vs.length = n → zs.length = ks.length → Vals vs us → Vals zs ws → Vals (g vs zs) (g us ws)
variable {n : Nat} {g : {α : Type} → List α → List α → List α}
def tKw (n m : Nat) (sp : Sp) (g : {α : Type} → List α → List α → List α) (E : XK) (t tk : TA) : TE := fun σ H Q => t σ H fun vs H1 => tk σ H1 fun zs H2 =>
  vs.length = n ∧ zs.length = m ∧ sp (g vs zs) H2 Q E

theorem FnG.call_kw {pins : List (Addr × Obj)} {σ : L2.St} {H : Hp} {s : Shared} {Q : VK} {us ws : List Value} {vs zs : List V}
    (F : FnG X.prog X.w X.K X.mg X.base cx k f fd ps sp) (gd : X.A.guards = some []) (rm : Room k X.A) (hb : KwB X.K fd ps n ks g) (hx : Passes cx X E)
    (I : Inv X pins σ H s) (r : Vals vs us) (rz : Vals zs ws) (l1 : vs.length = n) (l2 : zs.length = ks.length) (h : sp (g vs zs) H Q E) :
    wpAny (model X.prog X.w) X.A (call (.ref f) us (ks.zip ws)) (EP X pins σ Q) X.xe s :=
  wpAny_call (F.goes gd rm (hb.to s us ws (r.length.symm.trans l1) (rz.length.symm.trans l2)) hx I (hb.rel l1 l2 r rz) h)

/-- f(e, .., k = v, ..) -/
theorem pg_callK (F : FnG X.prog X.w X.K X.mg X.base cx k f fd ps sp) (gd : X.A.guards = some []) (rm : Room k X.A) (hg : Gl X x)
    (hm : X.mg x = some (.ref f)) (kp : PySem.W.keepIn X.K (.ref f) = true) (hb : KwB X.K fd ps n ks g) (hx : Passes cx X E) (ha : PA X (e :: es) t) (hk : PK X kws tk)
    (hall : (backToKw pos (keywordEach kws X.env)).all (·.1.isSome) = true := by rfl) (hks : (backToKw pos (keywordEach kws X.env)).filterMap (·.1) = ks := by rfl)
    (hdb : (x == ("__debug__" : Str)) = false := by decide) (hst : starEach (e :: es) X.env = (false, eval e X.env) :: starEach es X.env := by rfl)
    (hpl : ((backTo pos (starEach (e :: es) X.env)).any (·.1) || (backToKw pos (keywordEach kws X.env)).any (·.1.isNone)) = false := by rfl) :
    PE X (.Call (.Name x p) (e :: es) kws pos) (tKw n ks.length sp g E t tk) := by
  refine ⟨fun pins s σ H Q I h => wpAny_Call_Name_kw (ld_glob I hg hm ?_ hdb)⟩
  refine PySem.W.callWith_KW (h₀ := X.base) I.ok.mod.kin kp hall (thn (ha.run pos pins s σ H _ I h) ?_) hpl hst
  rintro us s1 ⟨vs, H1, I1, r, q⟩
  refine thn (hk.run pos pins s1 σ H1 _ I1 q) ?_
  rintro ws s2 ⟨zs, H2, I2, rz, l1, l2, q2⟩
  rw [hks]
  exact ⟨I2.kIn, F.call_kw gd rm hb hx I2 r rz l1 l2 q2⟩

/-- f(k = v, ..) -/
theorem pg_callK0 (F : FnG X.prog X.w X.K X.mg X.base cx k f fd ps sp) (gd : X.A.guards = some []) (rm : Room k X.A) (hg : Gl X x)
    (hm : X.mg x = some (.ref f)) (kp : PySem.W.keepIn X.K (.ref f) = true) (hb : KwB X.K fd ps 0 ks g) (hx : Passes cx X E) (hk : PK X kws tk)
    (hall : (backToKw pos (keywordEach kws X.env)).all (·.1.isSome) = true := by rfl) (hks : (backToKw pos (keywordEach kws X.env)).filterMap (·.1) = ks := by rfl)
    (hdb : (x == ("__debug__" : Str)) = false := by decide)
    (hpl : ((backTo pos (starEach [] X.env)).any (·.1) || (backToKw pos (keywordEach kws X.env)).any (·.1.isNone)) = false := by rfl) :
    PE X (.Call (.Name x p) [] kws pos) (tKw 0 ks.length sp g E tNil tk) := by
  refine ⟨fun pins s σ H Q I h => wpAny_Call_Name_kw (ld_glob I hg hm ?_ hdb)⟩
  refine PySem.W.callWith_KW0 (h₀ := X.base) I.ok.mod.kin kp hall ?_ hpl
  refine thn (hk.run pos pins s σ H _ I h) ?_
  rintro ws s2 ⟨zs, H2, I2, rz, l1, l2, q2⟩
  rw [hks]
  exact ⟨I2.kIn, F.call_kw (us := []) gd rm hb hx I2 .nil rz l1 l2 q2⟩

/-! ### repr of data -/
/-- repr(x), x data -/
def rRepr (K : PySem.W.Frag) : List V → Hp → VK → Prop := fun xs H Q => ∃ (v : V) (d : PyData), xs = [v] ∧ Dp K H v d ∧ d.showable = true ∧ d.hasDict = false ∧ d.depth ≤ 60 ∧ d.shown.length ≤ sizeLine ∧ Q (.str d.shown) H

theorem call_repr (gd : X.A.guards = some []) {j : Nat} (rm : Room j X.A) : CallR X (.builtin "repr") (rRepr X.K) := by
  intro pins s σ H xs us Q I r h
  obtain ⟨v, d, rfl, hd, hs, hn, hz, hl, q⟩ := h
  cases r with
  | cons rv rn =>
    rename_i u us
    cases rn
    have hu := rm.units
    obtain ⟨as, rd⟩ := Dp.reads I d v u hd rv
    have fin : ∀ (h' : Heap) (u' tk : Tok), (∀ b o, s.heap.get? b = some o → h'.get? b = some o) → EP X pins σ Q (.str d.shown u') { s with heap := h', toks := tk } :=
      fun h' u' tk kk => ⟨.str d.shown, H, I.kept (t' := tk) kk, ⟨u', rfl⟩, q⟩
    cases hd with
    | non => cases rv; exact P.repr_of_none (fin s.heap _ _ fun _ _ z => z)
    | bl b => cases rv; exact P.repr_of_bool (fin s.heap _ _ fun _ _ z => z)
    | int i => obtain ⟨t, rfl⟩ := rv; exact P.repr_of_int (by simpa [PyData.showable] using hs) (fin s.heap _ _ fun _ _ z => z)
    | str y => obtain ⟨t, rfl⟩ := rv; exact P.repr_of_str (fin s.heap _ _ fun _ _ z => z) hl
    | lst h1 h2 =>
      cases rv
      exact repr_of_reads' rd hs (fun z => by rw [hn] at z; cases z) gd (by omega) (fun _ _ z => z) fin hl
    | tup h1 h2 =>
      cases rv
      exact repr_of_reads' rd hs (fun z => by rw [hn] at z; cases z) gd (by omega) (fun _ _ z => z) fin hl
end

/-! ### the law's end -/
section
theorem law_in {pg : Program} {w : World} {K : PySem.W.Frag} {mg mb : Str → Option Value} {cx : CXT} {k : Nat} {fa a : Addr} {fd : FuncData} {x : Str} {sp : Sp} {s : Shared}
    {vs : List Value} {H : Hp} (KX : K.In s.heap) (hns : s.heap.Ns mainGlobals mg) (hb : s.heap.Ns builtinsNs mb)
    (hbb : ∀ y : Str, y ≠ "__name__" → mb y = bootBuiltins y) (lim : s.heap.NoLimit) (hg : s.gens = #[])
    (ha : s.heap.get? a = some { cls := .type "list", data := .seq vs.toArray }) (rm : Room k callerA)
    (F : ∀ bs : Heap, K.In bs → bs.Ns mainGlobals mg → FnG pg w K mg bs cx k fa fd [x] sp) (hbi : ∀ (s : Shared) (u : Value), BindsTo s fd ⟨[u], []⟩ [(x, u)])
    (hO : Only H) (hok : HOk pg w H s.heap) (only : ∀ b, H b ≠ none → b = a) (hK : H a ≠ none → K.lookup a = none)
    (hsp : sp [.ref a] H (fun v _ => v = .bl true) fun _ _ _ => False) (hcx : ∀ H e s', cx [] H s (fun _ _ _ => False) e s' → False) :
    codeAny (model pg w) callerA (.call (.ref fa) ⟨[.ref a], []⟩)
      (fun r s' => r = .ok (.ret (.bool true)) ∧ OldK s.heap s'.heap ∧ s'.os = s.os ∧ AllBare s'.gens) s := by
  have at_a : ∀ {b : Addr}, H b ≠ none → b = a := fun {b} => only b
  have noDict : ∀ {b : Addr} {o : Obj} {es : Array DictEntry} {ep : Nat}, s.heap.get? b = some o → o.data = .dict es ep → H b = none := by
    intro b o es ep e d
    by_cases z : H b = none
    · exact z
    · cases at_a z
      rw [ha] at e
      cases e
      cases d
  have ns_of : ∀ {b : Addr} {m : Str → Option Value}, s.heap.Ns b m → (hidT s.heap H).Ns b m := fun ⟨o, es, ep, e, d, r⟩ => ⟨o, es, ep, hidT_get e (noDict e d), d, r⟩
  have KB : K.In (hidT s.heap H) := fun b o e => hidT_get (KX b o e) (by
    by_cases z : H b = none
    · exact z
    · cases at_a z
      rw [hK z] at e
      cases e)
  have md : Mod K mg (hidT s.heap H) := ⟨KB, ns_of hns, ⟨mb, ns_of hb, hbb⟩, lim.imp fun _ z => ⟨ns_of z.1, z.2⟩⟩
  have ev : Env0 pg w K mg (hidT s.heap H) callerA [] s H :=
    ⟨rfl, md, fun _ _ e => of_hidT e, Nat.le_of_eq (hidT_size _ _), trivial, (fun b z => absurd (show b ∈ ([] : List Addr) from z) (by simp)), hok, .of_eq hg⟩
  refine codeAny_mono ((F _ KB (ns_of hns)).run callerA [] s H ⟨[.ref a], []⟩ [.ref a] [.ref a] _ _ rfl rm ev (hbi s (.ref a)) (.cons rfl .nil) hsp) ?_
  rintro (e | fl) s' z
  · exact (hcx H e s' z).elim
  · cases fl with
    | ret u =>
      obtain ⟨v, H', os, bare, un, hok', ru, rfl⟩ := z
      cases ru
      refine ⟨rfl, OldK.of_keep fun b o e => ?_, os, bare⟩
      rcases hO b with q | ⟨ob, xs, q⟩
      · exact un.keep b o e q (by intro y; cases y) (by intro y; cases y)
      · have e1 := (hok b _ q).1
        have e2 := (hok' b _ (un.frzs b ob _ q)).1
        exact e2.trans (e1.symm.trans e)
    | next => exact z.elim
    | brk => exact z.elim
    | cont => exact z.elim

theorem walkG {l : PySem.W.OpenLaw} {n k : Nat} {q : Program} {loose : List Str} {XP : (Str → Option Value) → Heap → Prop} {YP : World → Heap → Prop} {d : DefRec}
    {K : Params → PySem.W.Frag} {cx : CXT} {sp : PySem.W.Frag → Sp} {x : Str} (hn : l.most = some n) (hn2 : n ≤ sizeLine) (hdf : d.params.defaults = []) (rm : Room k callerA)
    (hY : ∀ (w : World) (h : Heap), YP w h → (K w.params).In h)
    (F : ∀ (w : World) (mg : Str → Option Value) (fa : Addr) (h : Heap), (K w.params).In h → h.Ns mainGlobals mg → mg d.name = some (.ref fa) →
      ∃ fd : FuncData, (∀ (s : Shared) (u : Value), BindsTo s fd ⟨[u], []⟩ [(x, u)]) ∧
        ∀ bs : Heap, (K w.params).In bs → bs.Ns mainGlobals mg → FnG l.prog w (K w.params) mg bs cx k fa fd [x] (sp (K w.params)))
    (hsp : ∀ (K : PySem.W.Frag) (H : Hp) (a : Addr) (ns : List Int), ns.length ≤ n → Only H → SqL K H a (ns.map V.int) → sp K [.ref a] H (fun v _ => v = .bl true) fun _ _ _ => False)
    (hcx : ∀ (H : Hp) (s : Shared) (e : Value) (s' : Shared), cx [] H s (fun _ _ _ => False) e s' → False) :
    PySem.W.WalkO q loose XP YP l.row.toRowW d [] (fun f vs => PySem.call f vs) := by
  refine Att.attach_call hn hdf ?_
  intro w _ s mg mb fa o pm cd doc a vs ns G Y ho hd hcd hmg hob hin hle hg
  have KX := hY w _ Y
  obtain ⟨fd, hb, hF⟩ := F w mg fa _ KX G.T.g hmg
  have rv := vals_ints hin
  have lv := hin.length
  cases hk : (K w.params).lookup a with
  | some o' =>
    have e := KX a o' hk
    rw [hob] at e
    cases e
    have O : Only (fun _ => none) := fun _ => .inl rfl
    have S : SqL (K w.params) (fun _ => none) a (ns.map V.int) :=
      .inr ⟨_, vs.toArray, _, hk, rfl, rfl, rfl, by rw [List.size_toArray, lv]; exact Nat.le_trans hle hn2, by simpa using rv⟩
    exact law_in (H := fun _ => none) KX G.T.g G.T.b G.T.builtins G.T.nolimit hg hob rm hF hb O (fun b u z => by cases z) (fun b z => absurd rfl z) (fun z => absurd rfl z)
      (hsp _ _ a ns hle O S) fun H e s' => hcx H s e s'
  | none =>
    let H : Hp := fun b => if b = a then some (.frz { cls := .type "list", data := .seq vs.toArray } (.lst (ns.map V.int))) else none
    have Ha : H a = some (.frz { cls := .type "list", data := .seq vs.toArray } (.lst (ns.map V.int))) := if_pos rfl
    have Hn : ∀ b, b ≠ a → H b = none := fun b z => if_neg z
    have O : Only H := fun b => by
      by_cases z : b = a
      · exact .inr ⟨_, _, if_pos z⟩
      · exact .inl (Hn b z)
    have ok : HOk l.prog w H s.heap := fun b u z => by
      by_cases e : b = a
      · subst e
        rw [Ha] at z
        cases z
        exact ⟨hob, by rw [List.length_map]; exact Nat.le_trans hle hn2, vs, _, rv, hob⟩
      · rw [Hn b e] at z
        cases z
    refine law_in (H := H) KX G.T.g G.T.b G.T.builtins G.T.nolimit hg hob rm hF hb O ok (fun b z => ?_) (fun _ => hk) (hsp _ _ a ns hle O (.inl (.inr ⟨_, Ha⟩))) fun H e s' => hcx H s e s'
    by_cases e : b = a
    · exact e
    · exact absurd (Hn b e) z
end
end GL
/-! What laws draw: data known to any depth, the rack of a law's draws, isinstance of such data, loops over a list or a tuple. -/
namespace GL
open PySem PySem.Spec PyProof.Rows L2

/-- nothing that was tracked has changed -/
abbrev Ex (H H' : Hp) : Prop := ∀ a o, H a = some o → H' a = some o
/-- nothing that was tracked has changed, but p -/
def Kp (p : Addr) (H H' : Hp) : Prop := ∀ a o, a ≠ p → H a = some o → H' a = some o
theorem Ex.rfl' (H : Hp) : Ex H H := fun _ _ h => h
theorem Ex.tr {H H1 H2 : Hp} (a : Ex H H1) (b : Ex H1 H2) : Ex H H2 := fun x o h => b x o (a x o h)
theorem Ex.nw {H : Hp} {p : Addr} {o : HO} (h : H p = none) : Ex H (upd H p o) := fun a u e => by
  rw [upd_ne (ne_of_none e h)]; exact e
/-- an object that H does not know changes -/
theorem Ex.up {H H' : Hp} {p : Addr} {o : HO} (e : Ex H H') (h : H p = none) : Ex H (upd H' p o) := fun a u ha => by
  rw [upd_ne (ne_of_none ha h)]; exact e a u ha
theorem Ex.no {H H' : Hp} {p : Addr} (e : Ex H H') (h : H' p = none) : H p = none := by
  cases h1 : H p with
  | none => rfl
  | some o => rw [e p o h1] at h; cases h
theorem Ex.kp {p : Addr} {H H' : Hp} (e : Ex H H') : Kp p H H' := fun a o _ h => e a o h
theorem Kp.rfl' {p : Addr} (H : Hp) : Kp p H H := fun _ _ _ h => h
theorem Kp.tr {p : Addr} {H H1 H2 : Hp} (a : Kp p H H1) (b : Kp p H1 H2) : Kp p H H2 := fun x o n h => b x o n (a x o n h)
theorem Kp.ex {p : Addr} {H H1 H2 : Hp} (a : Kp p H H1) (b : Ex H1 H2) : Kp p H H2 := fun x o n h => b x o (a x o n h)
theorem Kp.nw {p q : Addr} {H H' : Hp} {o : HO} (e : Kp p H H') (h : H q = none) : Kp p H (upd H' q o) := fun a u n ha => by
  rw [upd_ne (ne_of_none ha h)]; exact e a u n ha
theorem Kp.up {p : Addr} {H H' : Hp} {o : HO} (e : Kp p H H') : Kp p H (upd H' p o) := fun a u n ha => by
  rw [upd_ne n]; exact e a u n ha

/-- data: known to any depth, none of it at p -/
inductive Kd (p : Addr) (H : Hp) : V → Prop
  | non : Kd p H .non
  | bl (b : Bool) : Kd p H (.bl b)
  | int (i : Int) : Kd p H (.int i)
  | str (z : Str) : Kd p H (.str z)
  | lst {a : Addr} {xs : List V} (n : a ≠ p) (e : H a = some (.lst xs)) (z : xs.length ≤ 100000) (all : ∀ x, x ∈ xs → Kd p H x) : Kd p H (.ref a)
  | tup {a : Addr} {xs : List V} (n : a ≠ p) (e : H a = some (.tup xs)) (z : xs.length ≤ 100000) (all : ∀ x, x ∈ xs → Kd p H x) : Kd p H (.ref a)
  | dK {a : Addr} {kvs : List (Key × V)} (n : a ≠ p) (e : H a = some (.dK kvs)) : Kd p H (.ref a)
theorem Kd.kp {p : Addr} {H H' : Hp} (k : Kp p H H') {v : V} (h : Kd p H v) : Kd p H' v := by
  induction h with
  | non => exact .non
  | bl b => exact .bl b
  | int i => exact .int i
  | str z => exact .str z
  | lst n e z _ ih => exact .lst n (k _ _ n e) z ih
  | tup n e z _ ih => exact .tup n (k _ _ n e) z ih
  | dK n e => exact .dK n (k _ _ n e)
theorem Kd.ex {p : Addr} {H H' : Hp} (k : Ex H H') {v : V} (h : Kd p H v) : Kd p H' v := h.kp (Ex.kp k)

/-- the name of a value's type -/
def tyN (H : Hp) : V → String
  | .non => "NoneType"
  | .bl _ => "bool"
  | .int _ => "int"
  | .str _ => "str"
  | .ref a => match H a with
    | some (.lst _) => "list"
    | some (.tup _) => "tuple"
    | some (.dK _) => "dict"
    | _ => ""
  | _ => ""
theorem tyN_lst {H : Hp} {a : Addr} {xs : List V} (e : H a = some (.lst xs)) : tyN H (.ref a) = "list" := by
  show (match H a with | some (.lst _) => "list" | some (.tup _) => "tuple" | some (.dK _) => "dict" | _ => "") = _
  rw [e]
theorem tyN_tup {H : Hp} {a : Addr} {xs : List V} (e : H a = some (.tup xs)) : tyN H (.ref a) = "tuple" := by
  show (match H a with | some (.lst _) => "list" | some (.tup _) => "tuple" | some (.dK _) => "dict" | _ => "") = _
  rw [e]
theorem tyN_dK {H : Hp} {a : Addr} {kvs : List (Key × V)} (e : H a = some (.dK kvs)) : tyN H (.ref a) = "dict" := by
  show (match H a with | some (.lst _) => "list" | some (.tup _) => "tuple" | some (.dK _) => "dict" | _ => "") = _
  rw [e]
theorem tyN_ex {p : Addr} {H H' : Hp} (k : Kp p H H') {v : V} (h : Kd p H v) : tyN H' v = tyN H v := by
  cases h with
  | non => rfl
  | bl b => rfl
  | int i => rfl
  | str z => rfl
  | lst n e _ _ => rw [tyN_lst e, tyN_lst (k _ _ n e)]
  | tup n e _ _ => rw [tyN_tup e, tyN_tup (k _ _ n e)]
  | dK n e => rw [tyN_dK e, tyN_dK (k _ _ n e)]
/-- the items of a list or a tuple -/
def its (H : Hp) : V → Option (List V)
  | .ref a => match H a with
    | some (.lst xs) => some xs
    | some (.tup xs) => some xs
    | _ => none
  | _ => none
theorem its_lst {H : Hp} {a : Addr} {xs : List V} (e : H a = some (.lst xs)) : its H (.ref a) = some xs := by
  show (match H a with | some (.lst xs) => some xs | some (.tup xs) => some xs | _ => none) = _
  rw [e]
theorem its_tup {H : Hp} {a : Addr} {xs : List V} (e : H a = some (.tup xs)) : its H (.ref a) = some xs := by
  show (match H a with | some (.lst xs) => some xs | some (.tup xs) => some xs | _ => none) = _
  rw [e]
theorem its_dK {H : Hp} {a : Addr} {kvs : List (Key × V)} (e : H a = some (.dK kvs)) : its H (.ref a) = none := by
  show (match H a with | some (.lst xs) => some xs | some (.tup xs) => some xs | _ => none) = _
  rw [e]
theorem its_ex {p : Addr} {H H' : Hp} (k : Kp p H H') {v : V} (h : Kd p H v) : its H' v = its H v := by
  cases h with
  | non => rfl
  | bl b => rfl
  | int i => rfl
  | str z => rfl
  | lst n e _ _ => rw [its_lst e, its_lst (k _ _ n e)]
  | tup n e _ _ => rw [its_tup e, its_tup (k _ _ n e)]
  | dK n e => rw [its_dK e, its_dK (k _ _ n e)]
theorem its_kd {p : Addr} {H : Hp} {v : V} {xs : List V} (h : Kd p H v) (e : its H v = some xs) : ∀ x, x ∈ xs → Kd p H x := by
  cases h with
  | non => cases e
  | bl b => cases e
  | int i => cases e
  | str z => cases e
  | lst n e' _ all => rw [its_lst e'] at e; cases e; exact all
  | tup n e' _ all => rw [its_tup e'] at e; cases e; exact all
  | dK n e' => rw [its_dK e'] at e; cases e

theorem kd_ty {K : PySem.W.Frag} {p : Addr} {H : Hp} {v : V} (h : Kd p H v) : TyX K H v (.type (tyN H v)) := by
  cases h with
  | non => exact .base .non
  | bl b => exact .base (.bl b)
  | int i => exact .base (.int i)
  | str z => exact .base (.str z)
  | lst n e _ _ => rw [tyN_lst e]; exact .base (.lst e)
  | tup n e _ _ => rw [tyN_tup e]; exact .base (.tup e)
  | dK n e => rw [tyN_dK e]; exact .base (.dK e)
def kinds : List String := ["NoneType", "bool", "int", "str", "list", "tuple", "dict"]
theorem kd_kind {p : Addr} {H : Hp} {v : V} (h : Kd p H v) : tyN H v ∈ kinds := by
  cases h with
  | non => show "NoneType" ∈ kinds; decide
  | bl b => show "bool" ∈ kinds; decide
  | int i => show "int" ∈ kinds; decide
  | str z => show "str" ∈ kinds; decide
  | lst n e _ _ => rw [tyN_lst e]; decide
  | tup n e _ _ => rw [tyN_tup e]; decide
  | dK n e => rw [tyN_dK e]; decide
/-- is of the type, by name: bool is below int -/
def isT (t c : String) : Bool := t == c || (t == "bool" && c == "int")
theorem kit_all : ∀ t ∈ kinds, ∀ c ∈ ["int", "bool", "str", "list", "tuple", "dict"], kitB t c = some (isT t c) := by decide +kernel
theorem isi_go {K : PySem.W.Frag} {p : Addr} {H : Hp} {v : V} {c : String} {Q : VK} (h : Kd p H v) (hc : c ∈ ["int", "bool", "str", "list", "tuple", "dict"]) (q : Q (.bl (isT (tyN H v) c)) H) : rIsi K [v, .ty c] H Q :=
  ⟨v, .ty c, _, _, _, rfl, .ty c, kd_ty h, kit_ty (kit_all _ (kd_kind h) c hc), q⟩
/-- isinstance(x, (c, d)) -/
theorem isi_go2 {K : PySem.W.Frag} {p t : Addr} {H : Hp} {v : V} {c d : String} {Q : VK} (h : Kd p H v) (ht : H t = some (.tup [.ty c, .ty d])) (hc : c ∈ ["int", "bool", "str", "list", "tuple", "dict"]) (hd : d ∈ ["int", "bool", "str", "list", "tuple", "dict"])
    (q : Q (.bl (isT (tyN H v) c || isT (tyN H v) d)) H) : rIsiT K [v, .ref t] H Q := by
  refine ⟨v, t, [.ty c, .ty d], _, [.type c, .type d], _, rfl, ht, .cons (.ty c) (.cons (.ty d) .nil), kd_ty h, ?_, q⟩
  refine kitAny_cons (kit_ty (kit_all _ (kd_kind h) c hc)) (fun e => ?_) fun e => by rw [e]; rfl
  rw [e, Bool.false_or]
  refine kitAny_cons (kit_ty (kit_all _ (kd_kind h) d hd)) (fun e2 => ?_) fun e2 => e2
  rw [e2]; exact kitAny_nil

/-- an integer that is no truth -/
def wh : V → Bool
  | .int _ => true
  | _ => false
theorem wh_ty {p : Addr} {H : Hp} {v : V} (h : Kd p H v) : wh v = (isT (tyN H v) "int" && !isT (tyN H v) "bool") := by
  cases h with
  | non => show false = (isT "NoneType" "int" && !isT "NoneType" "bool"); decide
  | bl b => show false = (isT "bool" "int" && !isT "bool" "bool"); decide
  | int i => show true = (isT "int" "int" && !isT "int" "bool"); decide
  | str z => show false = (isT "str" "int" && !isT "str" "bool"); decide
  | lst n e _ _ => rw [tyN_lst e]; show false = (isT "list" "int" && !isT "list" "bool"); decide
  | tup n e _ _ => rw [tyN_tup e]; show false = (isT "tuple" "int" && !isT "tuple" "bool"); decide
  | dK n e => rw [tyN_dK e]; show false = (isT "dict" "int" && !isT "dict" "bool"); decide
theorem wh_int {v : V} (h : wh v = true) : ∃ i, v = .int i := by
  cases v <;> first | (cases h; done) | exact ⟨_, rfl⟩
/-- a list or a tuple, by isinstance -/
theorem seq_ty {p : Addr} {H : Hp} {v : V} (h : Kd p H v) : (isT (tyN H v) "list" || isT (tyN H v) "tuple") = (its H v).isSome := by
  cases h with
  | non => show (isT "NoneType" "list" || isT "NoneType" "tuple") = false; decide
  | bl b => show (isT "bool" "list" || isT "bool" "tuple") = false; decide
  | int i => show (isT "int" "list" || isT "int" "tuple") = false; decide
  | str z => show (isT "str" "list" || isT "str" "tuple") = false; decide
  | lst n e _ _ => rw [tyN_lst e, its_lst e]; show _ = true; decide
  | tup n e _ _ => rw [tyN_tup e, its_tup e]; show _ = true; decide
  | dK n e => rw [tyN_dK e, its_dK e]; show _ = false; decide
theorem its_len {p : Addr} {H : Hp} {v : V} {xs : List V} (h : Kd p H v) (e : its H v = some xs) : xs.length ≤ 100000 := by
  cases h with
  | non => cases e
  | bl b => cases e
  | int i => cases e
  | str z => cases e
  | lst n e' z _ => rw [its_lst e'] at e; cases e; exact z
  | tup n e' z _ => rw [its_tup e'] at e; cases e; exact z
  | dK n e' => rw [its_dK e'] at e; cases e
/-- a list or a tuple, to walk it -/
theorem its_at {p : Addr} {H : Hp} {v : V} {xs : List V} (h : Kd p H v) (e : its H v = some xs) : ∃ a, v = .ref a ∧ a ≠ p ∧ (H a = some (.lst xs) ∨ H a = some (.tup xs)) := by
  cases h with
  | non => cases e
  | bl b => cases e
  | int i => cases e
  | str z => cases e
  | lst n e' _ _ => rw [its_lst e'] at e; cases e; exact ⟨_, rfl, n, .inl e'⟩
  | tup n e' _ _ => rw [its_tup e'] at e; cases e; exact ⟨_, rfl, n, .inr e'⟩
  | dK n e' => rw [its_dK e'] at e; cases e
/-- the readings of isinstance(x, C), isinstance(x, (C, D)), x a name -/
theorem rd_isi {K : PySem.W.Frag} {p : Addr} {σ : L2.St} {i : Nat} {H : Hp} {v : V} {c : String} {Q : VK} (hi : σ[i]? = some (some v)) (h : Kd p H v)
    (hc : c ∈ ["int", "bool", "str", "list", "tuple", "dict"]) (q : Q (.bl (isT (tyN H v) c)) H) : tCB (rIsi K) (tCons (tVar i) (tCons (tC (.ty c)) tNil)) σ H Q :=
  ⟨v, hi, isi_go h hc q⟩
theorem rd_isi2 {K : PySem.W.Frag} {p : Addr} {σ : L2.St} {i : Nat} {H : Hp} {v : V} {c d : String} {Q : VK} (hi : σ[i]? = some (some v)) (h : Kd p H v)
    (hc : c ∈ ["int", "bool", "str", "list", "tuple", "dict"]) (hd : d ∈ ["int", "bool", "str", "list", "tuple", "dict"])
    (q : ∀ H', Ex H H' → Q (.bl (isT (tyN H v) c || isT (tyN H v) d)) H') : tCB (rIsiT K) (tCons (tVar i) (tCons (tTup (tCons (tC (.ty c)) (tCons (tC (.ty d)) tNil))) tNil)) σ H Q := by
  refine ⟨v, hi, (show 2 ≤ sizeLine by decide), fun t ht => ?_⟩
  have e : Ex H (upd H t (.tup [.ty c, .ty d])) := Ex.nw ht
  refine isi_go2 (K := K) (h.ex e) upd_same hc hd ?_
  rw [tyN_ex (Ex.kp e) h]
  exact q _ e
/-! ### walking a list or a tuple -/
def iSeq (K : PySem.W.Frag) (tl tl' : TE) : TI := fun σ H R => iList K tl σ H R ∨ iTup K tl' σ H R
theorem pi_seq {X : Cx} {tg e : Expr} {tl tl' : TE} (h : PE X e tl) (h' : PE X e tl') : PI X tg e (iSeq X.K tl tl') :=
  ⟨fun pins s σ H R I q => q.elim ((pi_list h).run pins s σ H R I) ((pi_tup h').run pins s σ H R I)⟩

/-! ### the rack of a law's draws: [cells, turn, left] -/
structure Rk (H : Hp) (p c : Addr) (n : Nat) : Prop where
  ex : ∃ (ns : List Int) (t l : Int), H p = some (.lst [.ref c, .int t, .int l]) ∧ H c = some (.lst (ns.map V.int)) ∧ c ≠ p ∧ ns.length ≤ 63 ∧ 0 ≤ t ∧ t ≤ n ∧ 0 ≤ l
theorem Rk.kp {H H' : Hp} {p c : Addr} {n : Nat} (r : Rk H p c n) (e : Ex H H') : Rk H' p c n := by
  obtain ⟨ns, t, l, h1, h2, h3⟩ := r.ex
  exact ⟨⟨ns, t, l, e _ _ h1, e _ _ h2, h3⟩⟩
theorem Rk.ne {H : Hp} {p c q : Addr} {n : Nat} (r : Rk H p c n) (h : H q = none) : q ≠ p := by
  obtain ⟨ns, t, l, h1, h2, h3⟩ := r.ex
  intro e; subst e; rw [h1] at h; cases h
theorem Rk.nc {H : Hp} {p c q : Addr} {n : Nat} (r : Rk H p c n) (h : H q = none) : q ≠ c := by
  obtain ⟨ns, t, l, h1, h2, h3⟩ := r.ex
  intro e; subst e; rw [h2] at h; cases h
/-- another object changes -/
theorem Rk.up {H : Hp} {p c q : Addr} {n : Nat} {o : HO} (r : Rk H p c n) (hp : q ≠ p) (hc : q ≠ c) : Rk (upd H q o) p c n := by
  obtain ⟨ns, t, l, h1, h2, h3⟩ := r.ex
  exact ⟨⟨ns, t, l, by rw [upd_ne hp.symm]; exact h1, by rw [upd_ne hc.symm]; exact h2, h3⟩⟩
theorem Rk.more {H : Hp} {p c : Addr} {m n : Nat} (r : Rk H p c n) (h : n ≤ m) : Rk H p c m := by
  obtain ⟨ns, t, l, h1, h2, h3, h4, h5, h6, h7⟩ := r.ex
  exact ⟨⟨ns, t, l, h1, h2, h3, h4, h5, by omega, h7⟩⟩
/-- a draw: an int from 0 on below many -/
def spDraw : Sp := fun vs H Q _ => ∃ (p c : Addr) (many : Int) (n : Nat), vs = [.ref p, .int many] ∧ Rk H p c n ∧ n < 100000 ∧ 0 < many ∧ many < 1073741824 ∧
  ∀ (r : Int) (H' : Hp), 0 ≤ r → r < many → Rk H' p c (n + 1) → Kp p H H' → Q (.int r) H'
/-- a draw from a list, or a sign from a text -/
def spPick : Sp := fun vs H Q _ => ∃ (p c : Addr) (x : V) (n : Nat), vs = [.ref p, x] ∧ Rk H p c n ∧ n < 100000 ∧
  ((∃ a xs, x = .ref a ∧ a ≠ p ∧ H a = some (.lst xs) ∧ xs ≠ [] ∧ xs.length < 1000000 ∧ ∀ (v : V) (H' : Hp), v ∈ xs → Rk H' p c (n + 1) → Kp p H H' → Q v H') ∨
   (∃ z : Str, x = .str z ∧ 0 < z.length ∧ z.length < 1000000 ∧ ∀ (s : Nat) (H' : Hp), s ∈ z.cps.toList → Rk H' p c (n + 1) → Kp p H H' → Q (.str ⟨#[s]⟩) H'))
/-- the rack is made -/
def spRack (K : PySem.W.Frag) : Sp := fun vs H Q _ => ∃ (a : Addr) (ns : List Int), vs = [.ref a] ∧ SqL K H a (ns.map V.int) ∧ ns.length ≤ 63 ∧
  ∀ (p c : Addr) (H' : Hp), H p = none → Rk H' p c 0 → Ex H H' → Q (.ref p) H'
end GL
/-! Lists of ints and of truths as data: ==, repr. -/
namespace GL
open PySem PySem.Spec PyProof.Rows L2
section
variable {K : PySem.W.Frag} {H : Hp}
theorem dp_ints : ∀ ns : List Int, DpAll K H (ns.map V.int) (ns.map PyData.int)
  | [] => .nil
  | n :: r => .cons (.int n) (dp_ints r)
theorem dp_bools : ∀ bs : List Bool, DpAll K H (bs.map V.bl) (bs.map PyData.bool)
  | [] => .nil
  | b :: r => .cons (.bl b) (dp_bools r)
theorem lay_ints : ∀ ns : List Int, PyData.canLayAll0 (ns.map PyData.int) = true ∧ PyData.depthAll (ns.map PyData.int) = 0
  | [] => ⟨rfl, rfl⟩
  | n :: r => by
    obtain ⟨h1, h2⟩ := lay_ints r
    refine ⟨?_, ?_⟩
    · simp only [List.map_cons, PyData.canLayAll0, PyData.canLay0, h1]; rfl
    · simp only [List.map_cons, PyData.depthAll, PyData.depth, h2]; rfl
theorem shaped_ints (ns : List Int) : SeqAt.shaped (.list (ns.map PyData.int)) = true := by
  obtain ⟨h1, h2⟩ := lay_ints ns
  show (PyData.canLay0 (.list _) && decide (PyData.depth (.list _) ≤ 64)) = true
  simp only [PyData.canLay0, PyData.depth, h1, h2]; decide
theorem eqv_ints : ∀ ns ms : List Int, PyData.eqvAll (ns.map PyData.int) (ms.map PyData.int) = decide (ns = ms)
  | [], [] => rfl
  | [], m :: ms => by simp [PyData.eqvAll]
  | n :: ns, [] => by simp [PyData.eqvAll]
  | n :: ns, m :: ms => by
    have ih := eqv_ints ns ms
    simp only [List.map_cons, PyData.eqvAll, PyData.eqv, ih]
    by_cases h : n = m <;> by_cases h' : ns = ms <;> simp [h, h']
theorem eqv_nil : ∀ d : List PyData, PyData.eqvAll d [] = d.isEmpty
  | [] => rfl
  | _ :: _ => rfl
/-! ### repr of truths -/
def bText (bs : List Bool) : Str := PyData.shown (.list (bs.map PyData.bool))
theorem bools_show : ∀ bs : List Bool, PyData.showableAll (bs.map PyData.bool) = true ∧ PyData.hasDictAll (bs.map PyData.bool) = false ∧ PyData.depthAll (bs.map PyData.bool) = 0 ∧
    ((PyData.shownAll (bs.map PyData.bool)).map (·.length)).sum ≤ 5 * bs.length ∧ (PyData.shownAll (bs.map PyData.bool)).length = bs.length
  | [] => ⟨rfl, rfl, rfl, Nat.le_refl _, rfl⟩
  | b :: r => by
    obtain ⟨h1, h2, h3, h4, h5⟩ := bools_show r
    have hb : (PyData.shown (.bool b)).length ≤ 5 := by cases b <;> (simp only [PyData.shown]; decide)
    refine ⟨?_, ?_, ?_, ?_, ?_⟩
    · simp only [List.map_cons, PyData.showableAll, PyData.showable, h1]; rfl
    · simp only [List.map_cons, PyData.hasDictAll, PyData.hasDict, h2]; rfl
    · simp only [List.map_cons, PyData.depthAll, PyData.depth, h3]; rfl
    · simp only [List.map_cons, PyData.shownAll, List.sum_cons, List.length_cons]; omega
    · simp only [List.map_cons, PyData.shownAll, List.length_cons, h5]
theorem repr_bools {a : Addr} {bs : List Bool} {Q : VK} (h : H a = some (.lst (bs.map V.bl))) (hl : bs.length ≤ 1000) (q : Q (.str (bText bs)) H) : rRepr K [.ref a] H Q := by
  obtain ⟨h1, h2, h3, h4, h5⟩ := bools_show bs
  refine ⟨.ref a, .list (bs.map PyData.bool), rfl, .lst (SqL.of h) (dp_bools bs), by simpa only [PyData.showable] using h1, by simpa only [PyData.hasDict] using h2, ?_, ?_, q⟩
  · simp only [PyData.depth, h3]; decide
  · have := listText_len_le (PyData.shownAll (bs.map PyData.bool))
    have e : (1000 * 7 + 3 : Nat) ≤ sizeLine := by decide
    show (PyData.shown (.list (bs.map PyData.bool))).length ≤ sizeLine
    simp only [PyData.shown]
    omega
end
end GL
namespace GL
theorem mix_small {m t a b c : Int} (m0 : 0 ≤ m) (m1 : m < 2147483648) (t0 : 0 ≤ t) (t1 : t ≤ 100000) (a0 : 0 ≤ a) (a1 : a ≤ 100000) (b0 : 0 ≤ b) (b1 : b ≤ 100000) (c0 : 0 ≤ c) (c1 : c ≤ 100000) :
    (m * (2 * t + a) + b * t * t + c).natAbs < 2 ^ 64 := by
  have h1 : 0 ≤ m * (2 * t + a) := Int.mul_nonneg m0 (by omega)
  have h2 : m * (2 * t + a) ≤ 2147483648 * 300000 := Int.mul_le_mul (by omega) (by omega) (by omega) (by omega)
  have h3 : 0 ≤ b * t := Int.mul_nonneg b0 t0
  have h4 : b * t ≤ 100000 * 100000 := Int.mul_le_mul b1 t1 t0 (by omega)
  have h5 : 0 ≤ b * t * t := Int.mul_nonneg h3 t0
  have h6 : b * t * t ≤ 10000000000 * 100000 := Int.mul_le_mul (by omega) t1 t0 (by omega)
  omega
end GL
namespace GL
open PySem PySem.Spec PyProof.Rows L2
theorem take_step {α : Type} {l : List α} {i : Nat} {x : α} (h : l[i]? = some x) : l.take (i + 1) = l.take i ++ [x] := by
  rw [List.take_add_one, h]; rfl
theorem map_get {α β : Type} {f : α → β} {l : List α} {i : Nat} {y : β} (h : (l.map f)[i]? = some y) : ∃ x, l[i]? = some x ∧ f x = y := by
  rw [List.getElem?_map] at h
  cases e : l[i]? with
  | none => rw [e] at h; cases h
  | some x => rw [e] at h; exact ⟨x, rfl, Option.some.inj h⟩
theorem lt_of_get {α : Type} {l : List α} {i : Nat} {x : α} (h : l[i]? = some x) : i < l.length := (List.getElem?_eq_some_iff.mp h).1
theorem cut_ints (ns : List Int) (lo hi : Option Int) : ∃ ms : List Int, cutV (ns.map V.int) lo hi = ms.map V.int ∧ ms.length ≤ ns.length ∧ (∀ x, x ∈ ms → x ∈ ns) := by
  refine ⟨(ns.drop (HT.sIx ns.length 0 lo)).take (HT.sIx ns.length ns.length hi - HT.sIx ns.length 0 lo), ?_, ?_, fun x hx => List.mem_of_mem_drop (List.mem_of_mem_take hx)⟩
  · unfold cutV
    rw [List.length_map, List.map_take, List.map_drop]
  · rw [List.length_take, List.length_drop]; omega
theorem sz_ok {n : Nat} (h : n ≤ 1000000) : n < sizeLine := Nat.lt_of_le_of_lt h (by decide)
theorem sz_le {n : Nat} (h : n ≤ 1000000) : n ≤ sizeLine := Nat.le_of_lt (sz_ok h)
end GL
namespace GL
open PySem PySem.Spec PyProof.Rows L2
theorem Kd.l0 {p a : Addr} {H : Hp} (n : a ≠ p) (e : H a = some (.lst [])) : Kd p H (.ref a) := .lst n e (Nat.zero_le _) (fun x h => by cases h)
theorem Kd.t0 {p a : Addr} {H : Hp} (n : a ≠ p) (e : H a = some (.tup [])) : Kd p H (.ref a) := .tup n e (Nat.zero_le _) (fun x h => by cases h)
theorem Kd.l1 {p a : Addr} {H : Hp} {x : V} (n : a ≠ p) (e : H a = some (.lst [x])) (h : Kd p H x) : Kd p H (.ref a) := .lst n e (show 1 ≤ 100000 by decide) (fun y hy => by rw [List.mem_singleton.mp hy]; exact h)
theorem Kd.t1 {p a : Addr} {H : Hp} {x : V} (n : a ≠ p) (e : H a = some (.tup [x])) (h : Kd p H x) : Kd p H (.ref a) := .tup n e (show 1 ≤ 100000 by decide) (fun y hy => by rw [List.mem_singleton.mp hy]; exact h)
theorem Kd.t2 {p a : Addr} {H : Hp} {x y : V} (n : a ≠ p) (e : H a = some (.tup [x, y])) (h : Kd p H x) (h' : Kd p H y) : Kd p H (.ref a) := .tup n e (show 2 ≤ 100000 by decide) (fun z hz => by
  rcases List.mem_cons.mp hz with rfl | hz
  · exact h
  · rw [List.mem_singleton.mp hz]; exact h')
/-- texts among data are short -/
abbrev Sh (v : V) : Prop := ∀ z : Str, v = .str z → z.length ≤ 100000
end GL
namespace GL
open PySem PySem.Spec PyProof.Rows L2
/-- repr(x): a list of truths, or any data -/
def rReprX (K : PySem.W.Frag) : List V → Hp → VK → Prop := fun xs H Q => (∃ (a : Addr) (bs : List Bool), xs = [.ref a] ∧ H a = some (.lst (bs.map V.bl)) ∧ bs.length ≤ 1000 ∧ Q (.str (bText bs)) H) ∨ rRepr K xs H Q
theorem call_reprX {X : Cx} (gd : X.A.guards = some []) {j : Nat} (rm : Room j X.A) : CallR X (.builtin "repr") (rReprX X.K) := by
  intro pins s σ H xs us Q I r h
  refine call_repr gd rm pins s σ H xs us Q I r ?_
  rcases h with ⟨a, bs, rfl, h1, h2, q⟩ | h
  · exact repr_bools h1 h2 q
  · exact h
end GL
namespace GL
open PySem PySem.Spec PyProof.Rows L2
/-- None, a truth, an int -/
def Fl : V → Bool
  | .non => true
  | .bl _ => true
  | .int _ => true
  | _ => false
theorem dp_flat {K : PySem.W.Frag} {H : Hp} : ∀ xs : List V, xs.all Fl = true → ∃ ds, DpAll K H xs ds ∧ PyData.canLayAll0 ds = true ∧ PyData.depthAll ds = 0 ∧ ds.isEmpty = xs.isEmpty
  | [], _ => ⟨[], .nil, rfl, rfl, rfl⟩
  | x :: r, h => by
    rw [List.all_cons, Bool.and_eq_true] at h
    obtain ⟨ds, h1, h2, h3, h4⟩ := dp_flat (K := K) (H := H) r h.2
    cases x with
    | non => exact ⟨.none :: ds, .cons .non h1, by simp only [PyData.canLayAll0, PyData.canLay0, h2]; rfl, by simp only [PyData.depthAll, PyData.depth, h3]; rfl, rfl⟩
    | bl b => exact ⟨.bool b :: ds, .cons (.bl b) h1, by simp only [PyData.canLayAll0, PyData.canLay0, h2]; rfl, by simp only [PyData.depthAll, PyData.depth, h3]; rfl, rfl⟩
    | int i => exact ⟨.int i :: ds, .cons (.int i) h1, by simp only [PyData.canLayAll0, PyData.canLay0, h2]; rfl, by simp only [PyData.depthAll, PyData.depth, h3]; rfl, rfl⟩
    | str z => cases h.1
    | byt b => cases h.1
    | flt b => cases h.1
    | ref a => cases h.1
    | ty n => cases h.1
/-- [..] == [], the items flat -/
theorem eq_nil {K : PySem.W.Frag} {H : Hp} {a b : Addr} {xs : List V} {Q : VK} (ha : H a = some (.lst xs)) (hb : H b = some (.lst [])) (hx : xs.all Fl = true) (q : Q (.bl xs.isEmpty) H) : rEqD K (.ref a) (.ref b) H Q := by
  obtain ⟨ds, h1, h2, h3, h4⟩ := dp_flat (K := K) (H := H) xs hx
  refine ⟨.list ds, .list [], .lst (SqL.of ha) h1, .lst (SqL.of hb) .nil, ?_, rfl, ?_⟩
  · show (PyData.canLay0 (.list _) && decide (PyData.depth (.list _) ≤ 64)) = true
    simp only [PyData.canLay0, PyData.depth, h2, h3]; decide
  · show Q (.bl (PyData.eqv (.list ds) (.list []))) H
    have : PyData.eqv (.list ds) (.list []) = xs.isEmpty := by simp only [PyData.eqv]; rw [eqv_nil, h4]
    rw [this]; exact q
end GL
namespace GL
open PySem PySem.Spec PyProof.Rows L2
/-- ==: a list and the empty list, whatever the items; or data -/
def rEqX (K : PySem.W.Frag) : R2 := fun x y H Q => (∃ (a b : Addr) (xs : List V), x = .ref a ∧ y = .ref b ∧ H a = some (.lst xs) ∧ H b = some (.lst []) ∧ Q (.bl xs.isEmpty) H) ∨ rEqD K x y H Q
theorem op_eqX {X : Cx} (hu : X.A.units + 64 < cLine) : OpR X (compareOp .Eq) (rEqX X.K) := by
  intro pins s σ H x y v u Q I rx ry h
  rcases h with ⟨a, b, xs, rfl, rfl, ha, hb, q⟩ | h
  · cases xs with
    | nil => exact op_eqD hu pins s σ H _ _ v u Q I rx ry ⟨.list [], .list [], .lst (SqL.of ha) .nil, .lst (SqL.of hb) .nil, rfl, rfl, q⟩
    | cons z r =>
      cases rx
      cases ry
      obtain ⟨is, r1, ⟨o1, m1, ho1, hc1, _, hd1⟩, _⟩ := I.list (SqL.of ha)
      obtain ⟨js, r2, ⟨o2, m2, ho2, hc2, _, hd2⟩, _⟩ := I.list (SqL.of hb)
      refine SeqAt.eq_list_lengthsAt ⟨o1, ho1, hc1, m1, hd1⟩ ⟨o2, ho2, hc2, m2, hd2⟩ ?_ (by omega) ⟨.bl _, H, I, rfl, q⟩
      have l1 := r1.length
      have l2 := r2.length
      simp only [List.length_cons, List.length_nil] at l1 l2
      simp only [bne_iff_ne, ne_eq, List.size_toArray]
      omega
  · exact op_eqD hu pins s σ H x y v u Q I rx ry h
end GL
/-! Loops and comprehensions over what is known: a source gives the values xs while all but p stays. -/
namespace GL
open PySem PySem.Spec PyProof.Rows L2
def Src (p : Addr) (wi : TI) (σ : L2.St) (H : Hp) (xs : List V) : Prop :=
  ∀ R : It → Hp → Prop, (∀ (J : It) (H1 : Hp), Ex H H1 → Walk J xs.length (fun H2 => Kp p H1 H2) (YAt xs) → R J H1) → wi σ H R
section
variable {K : PySem.W.Frag} {p : Addr} {σ : L2.St} {H : Hp} {xs : List V} {te tl tl' : TE}
theorem Src.list (h : ∀ Q : VK, (∀ a H1, Ex H H1 → a ≠ p → H1 a = some (.lst xs) → Q (.ref a) H1) → te σ H Q) : Src p (iList K te) σ H xs := fun R q =>
  h _ fun a H1 e n ha => ⟨a, rfl, ⟨xs, SqL.of ha⟩, q _ H1 e (walk_list.mono (fun H2 k => SqL.of (k _ _ n ha)) fun _ _ _ _ _ _ y => y)⟩
theorem Src.tup (h : ∀ Q : VK, (∀ a H1, Ex H H1 → a ≠ p → H1 a = some (.tup xs) → Q (.ref a) H1) → te σ H Q) : Src p (iTup K te) σ H xs := fun R q =>
  h _ fun a H1 e n ha => ⟨a, rfl, ⟨xs, SqT.of ha⟩, q _ H1 e (walk_tup.mono (fun H2 k => SqT.of (k _ _ n ha)) fun _ _ _ _ _ _ y => y)⟩
theorem Src.nameL {i : Nat} {a : Addr} (hi : σ[i]? = some (some (.ref a))) (n : a ≠ p) (ha : H a = some (.lst xs)) : Src p (iList K (tVar i)) σ H xs :=
  .list fun Q q => ⟨_, hi, q a H (Ex.rfl' H) n ha⟩
theorem Src.nameT {i : Nat} {a : Addr} (hi : σ[i]? = some (some (.ref a))) (n : a ≠ p) (ha : H a = some (.tup xs)) : Src p (iTup K (tVar i)) σ H xs :=
  .tup fun Q q => ⟨_, hi, q a H (Ex.rfl' H) n ha⟩
/-- a name that holds a list or a tuple -/
theorem Src.nameS {i : Nat} {v : V} (hi : σ[i]? = some (some v)) (h : Kd p H v) (e : its H v = some xs) : Src p (iSeq K (tVar i) (tVar i)) σ H xs := fun R q => by
  obtain ⟨a, rfl, n, ha | ha⟩ := its_at h e
  · exact .inl (Src.nameL hi n ha R q)
  · exact .inr (Src.nameT hi n ha R q)
theorem Src.str {z : Str} (h : ∀ Q : VK, (∀ H1, Ex H H1 → Q (.str z) H1) → te σ H Q) : Src p (iStr te) σ H (z.cps.toList.map fun c => V.str ⟨#[c]⟩) := fun R q =>
  h _ fun H1 e => ⟨z, rfl, q _ H1 e (by
    rw [List.length_map, Array.length_toList]
    refine walk_str.mono (fun _ _ => trivial) fun i H x H' hi _ y => ⟨y.1, ?_⟩
    obtain ⟨c, hc, rfl⟩ := y.2
    rw [List.getElem?_map, Array.getElem?_toList, hc]; rfl)⟩
/-- 0, 1, .. below n -/
def ups (n : Int) : List V := (List.range n.toNat).map fun (i : Nat) => V.int (i : Int)
theorem ups_len (n : Int) : (ups n).length = n.toNat := by unfold ups; rw [List.length_map, List.length_range]
theorem ups_get {n : Int} {i : Nat} (h : i < n.toNat) : (ups n)[i]? = some (.int (i : Int)) := by
  unfold ups; rw [List.getElem?_map, List.getElem?_range h]; rfl
theorem Src.range {ta : TA} {n : Int} (hn : -1000000 ≤ n ∧ n ≤ 1000000) (h : ∀ Q : List V → Hp → Prop, (∀ H1, Ex H H1 → Q [.int n] H1) → ta σ H Q) : Src p (iRng1 ta) σ H (ups n) := fun R q =>
  h _ fun H1 e => ⟨n, rfl, by omega, by omega, q _ H1 e (by
    rw [ups_len]
    refine walk_range.mono (fun _ _ => trivial) fun i H x H' hi _ y => ⟨y.1, ?_⟩
    rw [ups_get hi, y.2]
    show some (V.int (i : Int)) = some (V.int (0 + (i : Int)))
    rw [Int.zero_add])⟩

/-- a comprehension whose parts change nothing: what is left of xs, each by f -/
theorem lc_pure {wi : TI} {tt : TT} {j : Nat} {Q : VK} (src : Src p wi σ H xs) (hz : xs.length ≤ 500000) (pd : V → Bool) (f : V → V)
    (ht : ∀ x, x ∈ xs → ∀ H1, Ex H H1 → ∀ Q1 : Bool → Hp → Prop, (∀ H2, Ex H1 H2 → Q1 (pd x) H2) → tt ((σ.set j none).set j (some x)) H1 Q1)
    (he : ∀ x, x ∈ xs → pd x = true → ∀ H1, Ex H H1 → ∀ Q1 : VK, (∀ H2, Ex H1 H2 → Q1 (f x) H2) → te ((σ.set j none).set j (some x)) H1 Q1)
    (q : ∀ D H2, H D = none → H2 D = some (.lst ((xs.filter pd).map f)) → Ex H H2 → Q (.ref D) H2) : tLc wi (gName j) tt te [j] σ H Q := by
  refine src _ fun J H1 e1 w D hD => ?_
  refine lc_it w (fun i H2 => H2 D = some (.lst (((xs.take i).filter pd).map f)) ∧ Ex H1 H2) ⟨upd_same, Ex.nw hD⟩ (fun i H2 _ g => Ex.kp g.2) ?_ fun H2 g => ?_
  · rintro i x H2 H3 hi ⟨g1, g2⟩ ⟨rfl, hx⟩
    have hm : x ∈ xs := List.mem_of_getElem? hx
    refine ⟨?_, ?_⟩
    · show ((σ.set j none).set j (some x)).set j none = σ.set j none
      rw [List.set_set, List.set_set]
    · refine ht x hm H3 (e1.tr g2) _ fun H4 e4 => ?_
      have g4 := e4 _ _ g1
      cases hp : pd x with
      | true =>
        refine iteT ?_
        refine he x hm hp H4 ((e1.tr g2).tr e4) _ fun H5 e5 => ⟨_, e5 _ _ g4, ?_, ?_, ((g2.tr e4).tr e5).up hD⟩
        · rw [List.length_map]
          have := List.length_filter_le pd (xs.take i)
          rw [List.length_take] at this
          exact sz_ok (by omega)
        · rw [take_step hx, List.filter_append, List.map_append, List.filter_cons_of_pos hp]
          exact upd_same
      | false =>
        refine iteF ⟨?_, g2.tr e4⟩
        rw [take_step hx, List.filter_append, List.filter_cons_of_neg (by rw [hp]; decide)]
        simpa using g4
  · have g1 := g.1
    rw [List.take_length] at g1
    exact q D H2 (e1.no hD) g1 (e1.tr g.2)
theorem yes_pd {x : V} {τ : L2.St} {H1 : Hp} {Q1 : Bool → Hp → Prop} (h : ∀ H2, Ex H1 H2 → Q1 ((fun _ : V => true) x) H2) : tYes τ H1 Q1 := h H1 (Ex.rfl' H1)
/-- without a test -/
theorem lc_map {wi : TI} {j : Nat} {Q : VK} (src : Src p wi σ H xs) (hz : xs.length ≤ 500000) (f : V → V)
    (he : ∀ x, x ∈ xs → ∀ H1, Ex H H1 → ∀ Q1 : VK, (∀ H2, Ex H1 H2 → Q1 (f x) H2) → te ((σ.set j none).set j (some x)) H1 Q1)
    (q : ∀ D H2, H D = none → H2 D = some (.lst (xs.map f)) → Ex H H2 → Q (.ref D) H2) : tLc wi (gName j) tYes te [j] σ H Q :=
  lc_pure src hz (fun _ => true) f (fun x _ H1 _ Q1 h => h H1 (Ex.rfl' H1)) (fun x hx _ => he x hx) fun D H2 n g e => q D H2 n (by rw [List.filter_eq_self.mpr (fun _ _ => rfl)] at g; exact g) e
/-- a loop over a source: Pv by the heap ahead, the turn, the slots, the heap -/
theorem for_src {wi : TI} {j : Nat} {tb : TS} {D : Ends} (src : Src p wi σ H xs) (Pv : Hp → Nat → L2.St → Hp → Prop) (h0 : ∀ H1, Ex H H1 → Pv H1 0 σ H1)
    (hk : ∀ H1 i σ' H2, Pv H1 i σ' H2 → Kp p H1 H2)
    (hs : ∀ H1 i x σ' H2, Ex H H1 → xs[i]? = some x → Pv H1 i σ' H2 → tb { D with nx := Pv H1 (i + 1), ct := Pv H1 (i + 1), bk := D.nx } (σ'.set j (some x)) H2)
    (hd : ∀ H1 σ' H2, Ex H H1 → Pv H1 xs.length σ' H2 → D.nx σ' H2) : tFor wi (gName j) tb D σ H :=
  src _ fun J H1 e1 w => for_it w (Pv H1) (h0 H1 e1) (fun i σ' H2 _ g => hk H1 i σ' H2 g) (fun i x σ' H2 H3 hi g y => by
    obtain ⟨rfl, hx⟩ := y
    exact hs H1 i x σ' H3 e1 hx g) fun σ' H2 g => hd H1 σ' H2 e1 g
end
end GL
namespace GL
open PySem PySem.Spec PyProof.Rows L2
/-- a value, the heap as it is -/
abbrev Va (te : TE) (σ : L2.St) (H : Hp) (v : V) : Prop := ∀ Q : VK, Q v H → te σ H Q
theorem va_var {i : Nat} {σ : L2.St} {H : Hp} {v : V} (h : σ[i]? = some (some v)) : Va (tVar i) σ H v := fun _ q => ⟨v, h, q⟩
theorem va_c {σ : L2.St} {H : Hp} {v : V} : Va (tC v) σ H v := fun _ q => q
theorem va_chain {p q : Int → Int → Bool} {ta tb tc : TE} {σ : L2.St} {H : Hp} {a b c : Int} (ha : Va ta σ H (.int a)) (hb : Va tb σ H (.int b)) (hc : Va tc σ H (.int c)) :
    Va (tChain (rI0 fun i j => .bl (p i j)) (rI0 fun i j => .bl (q i j)) ta tb tc) σ H (.bl (p a b && q b c)) := fun Q k =>
  ha _ (hb _ ⟨a, b, rfl, rfl, p a b, rfl, by
    cases e : p a b with
    | true => rw [e, Bool.true_and] at k; exact iteT (hc _ ⟨b, c, rfl, rfl, k⟩)
    | false => rw [e, Bool.false_and] at k; exact iteF k⟩)
end GL
namespace Mine
open PySem PySem.Spec PyProof.Rows L2 GL
def topS (i : Nat) : Stmt := PySem.Challenge.pw_priceblind_k01_what_any_value_is.main.body.getD i (.Pass ⟨0, 0, 0, 0⟩)
abbrev s_is_integer : Stmt := topS 3
abbrev N_is_integer : List Str := ["value"]
abbrev P_is_integer : List Str := ["value"]
theorem sc_is_integer : FnScope N_is_integer P_is_integer (defScope s_is_integer) := ⟨rfl, rfl, rfl, by decide +kernel, rfl, by decide +kernel, by decide +kernel⟩
abbrev s_is_within : Stmt := topS 4
abbrev N_is_within : List Str := ["value", "least", "most"]
abbrev P_is_within : List Str := ["value", "least", "most"]
theorem sc_is_within : FnScope N_is_within P_is_within (defScope s_is_within) := ⟨rfl, rfl, rfl, by decide +kernel, rfl, by decide +kernel, by decide +kernel⟩
abbrev s_are_integers : Stmt := topS 5
abbrev N_are_integers : List Str := ["value", "item"]
abbrev P_are_integers : List Str := ["value"]
theorem sc_are_integers : FnScope N_are_integers P_are_integers (defScope s_are_integers) := ⟨rfl, rfl, rfl, by decide +kernel, rfl, by decide +kernel, by decide +kernel⟩
abbrev s_is_lot : Stmt := topS 6
abbrev N_is_lot : List Str := ["value", "many", "least", "number"]
abbrev P_is_lot : List Str := ["value", "many"]
theorem sc_is_lot : FnScope N_is_lot P_is_lot (defScope s_is_lot) := ⟨rfl, rfl, rfl, by decide +kernel, rfl, by decide +kernel, by decide +kernel⟩
abbrev s_is_name : Stmt := topS 7
abbrev N_is_name : List Str := ["value", "letter"]
abbrev P_is_name : List Str := ["value"]
theorem sc_is_name : FnScope N_is_name P_is_name (defScope s_is_name) := ⟨rfl, rfl, rfl, by decide +kernel, rfl, by decide +kernel, by decide +kernel⟩
abbrev s_Lrack : Stmt := topS 9
abbrev N_Lrack : List Str := ["script", "cell"]
abbrev P_Lrack : List Str := ["script"]
theorem sc_Lrack : FnScope N_Lrack P_Lrack (defScope s_Lrack) := ⟨rfl, rfl, rfl, by decide +kernel, rfl, by decide +kernel, by decide +kernel⟩
abbrev s_Lturn_of : Stmt := topS 10
abbrev N_Lturn_of : List Str := ["rack", "many", "left", "turn", "cell", "mixed"]
abbrev P_Lturn_of : List Str := ["rack", "many"]
theorem sc_Lturn_of : FnScope N_Lturn_of P_Lturn_of (defScope s_Lturn_of) := ⟨rfl, rfl, rfl, by decide +kernel, rfl, by decide +kernel, by decide +kernel⟩
abbrev s_Lpick : Stmt := topS 11
abbrev N_Lpick : List Str := ["rack", "some"]
abbrev P_Lpick : List Str := ["rack", "some"]
theorem sc_Lpick : FnScope N_Lpick P_Lpick (defScope s_Lpick) := ⟨rfl, rfl, rfl, by decide +kernel, rfl, by decide +kernel, by decide +kernel⟩
abbrev s_Lwhole : Stmt := topS 12
abbrev N_Lwhole : List Str := ["value"]
abbrev P_Lwhole : List Str := ["value"]
theorem sc_Lwhole : FnScope N_Lwhole P_Lwhole (defScope s_Lwhole) := ⟨rfl, rfl, rfl, by decide +kernel, rfl, by decide +kernel, by decide +kernel⟩
abbrev s_Lodd : Stmt := topS 13
abbrev N_Lodd : List Str := ["rack"]
abbrev P_Lodd : List Str := ["rack"]
theorem sc_Lodd : FnScope N_Lodd P_Lodd (defScope s_Lodd) := ⟨rfl, rfl, rfl, by decide +kernel, rfl, by decide +kernel, by decide +kernel⟩
abbrev s_Lnumbers_right : Stmt := topS 14
abbrev N_Lnumbers_right : List Str := ["rack", "number", "odd", "low", "high", "told"]
abbrev P_Lnumbers_right : List Str := ["rack"]
theorem sc_Lnumbers_right : FnScope N_Lnumbers_right P_Lnumbers_right (defScope s_Lnumbers_right) := ⟨rfl, rfl, rfl, by decide +kernel, rfl, by decide +kernel, by decide +kernel⟩
abbrev s_Llists_right : Stmt := topS 15
abbrev N_Llists_right : List Str := ["rack", "row", "turn", "new", "at", "bent", "told", "due", "inner", "each"]
abbrev P_Llists_right : List Str := ["rack"]
theorem sc_Llists_right : FnScope N_Llists_right P_Llists_right (defScope s_Llists_right) := ⟨rfl, rfl, rfl, by decide +kernel, rfl, by decide +kernel, by decide +kernel⟩
abbrev s_Llots_right : Stmt := topS 16
abbrev N_Llots_right : List Str := ["rack", "many", "lot", "each", "at", "rows", "row", "due"]
abbrev P_Llots_right : List Str := ["rack"]
theorem sc_Llots_right : FnScope N_Llots_right P_Llots_right (defScope s_Llots_right) := ⟨rfl, rfl, rfl, by decide +kernel, rfl, by decide +kernel, by decide +kernel⟩
abbrev s_Lnames_right : Stmt := topS 17
abbrev N_Lnames_right : List Str := ["rack", "letters", "turn", "at", "sign", "bent", "odd"]
abbrev P_Lnames_right : List Str := ["rack"]
theorem sc_Lnames_right : FnScope N_Lnames_right P_Lnames_right (defScope s_Lnames_right) := ⟨rfl, rfl, rfl, by decide +kernel, rfl, by decide +kernel, by decide +kernel⟩
abbrev s_law : Stmt := topS 18
abbrev N_law : List Str := ["script", "rack", "turn"]
abbrev P_law : List Str := ["script"]
theorem sc_law : FnScope N_law P_law (defScope s_law) := ⟨rfl, rfl, rfl, by decide +kernel, rfl, by decide +kernel, by decide +kernel⟩
structure Txt (K : PySem.W.Frag) (mg : Str → Option Value) (fs : Nat → Addr) (fd : Nat → FuncData) (tk : Nat → Tok) : Prop where
  f_is_integer : Fun K "is_integer" "is_integer" s_is_integer (fs 0) (fd 0)
  m_is_integer : mg "is_integer" = some (.ref (fs 0))
  f_is_within : Fun K "is_within" "is_within" s_is_within (fs 1) (fd 1)
  m_is_within : mg "is_within" = some (.ref (fs 1))
  f_are_integers : Fun K "are_integers" "are_integers" s_are_integers (fs 2) (fd 2)
  m_are_integers : mg "are_integers" = some (.ref (fs 2))
  f_is_lot : Fun K "is_lot" "is_lot" s_is_lot (fs 3) (fd 3)
  m_is_lot : mg "is_lot" = some (.ref (fs 3))
  f_is_name : Fun K "is_name" "is_name" s_is_name (fs 4) (fd 4)
  m_is_name : mg "is_name" = some (.ref (fs 4))
  f_Lrack : Fun K "_law_rack" "_law_rack" s_Lrack (fs 5) (fd 5)
  m_Lrack : mg "_law_rack" = some (.ref (fs 5))
  f_Lturn_of : Fun K "_law_turn_of" "_law_turn_of" s_Lturn_of (fs 6) (fd 6)
  m_Lturn_of : mg "_law_turn_of" = some (.ref (fs 6))
  f_Lpick : Fun K "_law_pick" "_law_pick" s_Lpick (fs 7) (fd 7)
  m_Lpick : mg "_law_pick" = some (.ref (fs 7))
  f_Lwhole : Fun K "_law_whole" "_law_whole" s_Lwhole (fs 8) (fd 8)
  m_Lwhole : mg "_law_whole" = some (.ref (fs 8))
  f_Lodd : Fun K "_law_odd" "_law_odd" s_Lodd (fs 9) (fd 9)
  m_Lodd : mg "_law_odd" = some (.ref (fs 9))
  f_Lnumbers_right : Fun K "_law_numbers_right" "_law_numbers_right" s_Lnumbers_right (fs 10) (fd 10)
  m_Lnumbers_right : mg "_law_numbers_right" = some (.ref (fs 10))
  f_Llists_right : Fun K "_law_lists_right" "_law_lists_right" s_Llists_right (fs 11) (fd 11)
  m_Llists_right : mg "_law_lists_right" = some (.ref (fs 11))
  f_Llots_right : Fun K "_law_lots_right" "_law_lots_right" s_Llots_right (fs 12) (fd 12)
  m_Llots_right : mg "_law_lots_right" = some (.ref (fs 12))
  f_Lnames_right : Fun K "_law_names_right" "_law_names_right" s_Lnames_right (fs 13) (fd 13)
  m_Lnames_right : mg "_law_names_right" = some (.ref (fs 13))
  f_law : Fun K "law" "law" s_law (fs 14) (fd 14)
  m_law : mg "law" = some (.ref (fs 14))
  c_LETTERS : mg "LETTERS" = some (.str "abcdefghijklmnopqrstuvwxyz" (tk 0))
  c_LONGEST_NAME : mg "LONGEST_NAME" = some (.int 12 (tk 1))
  z_abs : mg "abs" = none
  z_all : mg "all" = none
  z_bool : mg "bool" = none
  z_int : mg "int" = none
  z_isinstance : mg "isinstance" = none
  z_len : mg "len" = none
  z_list : mg "list" = none
  z_range : mg "range" = none
  z_repr : mg "repr" = none
  z_str : mg "str" = none
  z_tuple : mg "tuple" = none
section
variable {K : PySem.W.Frag} {mg : Str → Option Value} {fs : Nat → Addr} {fd : Nat → FuncData} {tk : Nat → Tok}
theorem b_is_integer (T : Txt K mg fs fd tk) : Binds K (fd 0) P_is_integer [] := T.f_is_integer.binds fun _ _ _ _ _ _ us hl => match us, hl with | [_], _ => rfl
theorem b_is_within (T : Txt K mg fs fd tk) : Binds K (fd 1) P_is_within [] := T.f_is_within.binds fun _ _ _ _ _ _ us hl => match us, hl with | [_, _, _], _ => rfl
theorem b_are_integers (T : Txt K mg fs fd tk) : Binds K (fd 2) P_are_integers [] := T.f_are_integers.binds fun _ _ _ _ _ _ us hl => match us, hl with | [_], _ => rfl
theorem b_is_lot (T : Txt K mg fs fd tk) : Binds K (fd 3) P_is_lot [] := T.f_is_lot.binds fun _ _ _ _ _ _ us hl => match us, hl with | [_, _], _ => rfl
theorem b_is_name (T : Txt K mg fs fd tk) : Binds K (fd 4) P_is_name [] := T.f_is_name.binds fun _ _ _ _ _ _ us hl => match us, hl with | [_], _ => rfl
theorem b_Lrack (T : Txt K mg fs fd tk) : Binds K (fd 5) P_Lrack [] := T.f_Lrack.binds fun _ _ _ _ _ _ us hl => match us, hl with | [_], _ => rfl
theorem b_Lturn_of (T : Txt K mg fs fd tk) : Binds K (fd 6) P_Lturn_of [] := T.f_Lturn_of.binds fun _ _ _ _ _ _ us hl => match us, hl with | [_, _], _ => rfl
theorem b_Lpick (T : Txt K mg fs fd tk) : Binds K (fd 7) P_Lpick [] := T.f_Lpick.binds fun _ _ _ _ _ _ us hl => match us, hl with | [_, _], _ => rfl
theorem b_Lwhole (T : Txt K mg fs fd tk) : Binds K (fd 8) P_Lwhole [] := T.f_Lwhole.binds fun _ _ _ _ _ _ us hl => match us, hl with | [_], _ => rfl
theorem b_Lodd (T : Txt K mg fs fd tk) : Binds K (fd 9) P_Lodd [] := T.f_Lodd.binds fun _ _ _ _ _ _ us hl => match us, hl with | [_], _ => rfl
theorem b_Lnumbers_right (T : Txt K mg fs fd tk) : Binds K (fd 10) P_Lnumbers_right [] := T.f_Lnumbers_right.binds fun _ _ _ _ _ _ us hl => match us, hl with | [_], _ => rfl
theorem b_Llists_right (T : Txt K mg fs fd tk) : Binds K (fd 11) P_Llists_right [] := T.f_Llists_right.binds fun _ _ _ _ _ _ us hl => match us, hl with | [_], _ => rfl
theorem b_Llots_right (T : Txt K mg fs fd tk) : Binds K (fd 12) P_Llots_right [] := T.f_Llots_right.binds fun _ _ _ _ _ _ us hl => match us, hl with | [_], _ => rfl
theorem b_Lnames_right (T : Txt K mg fs fd tk) : Binds K (fd 13) P_Lnames_right [] := T.f_Lnames_right.binds fun _ _ _ _ _ _ us hl => match us, hl with | [_], _ => rfl
theorem b_law (T : Txt K mg fs fd tk) : Binds K (fd 14) P_law [] := T.f_law.binds fun _ _ _ _ _ _ us hl => match us, hl with | [_], _ => rfl
def g_kw_is_within_0_most_least_value {α : Type} (us ws : List α) : List α := match us, ws with
  | [], [w0, w1, w2] => [w2, w1, w0]
  | _, _ => []
theorem kw_is_within_0_most_least_value (T : Txt K mg fs fd tk) : KwB K (fd 1) P_is_within 0 ["most", "least", "value"] g_kw_is_within_0_most_least_value := by
  obtain ⟨oc, od, kV, doc, pm, an, cd, ct, osl, e, _⟩ := T.f_is_within.ex
  refine ⟨fun s us ws h1 h2 => ?_, fun {vs us zs ws} h1 h2 r1 r2 => ?_⟩
  · rw [e]
    exact match us, ws, h1, h2 with | [], [_, _, _], _, _ => .of_eq rfl
  · exact match vs, us, zs, ws, r1, r2, h1, h2 with | [], [], [_, _, _], [_, _, _], (.nil), (.cons rw0 (.cons rw1 (.cons rw2 (.nil)))), _, _ => .cons rw2 (.cons rw1 (.cons rw0 (.nil)))
def g_kw_is_integer_0_value {α : Type} (us ws : List α) : List α := match us, ws with
  | [], [w0] => [w0]
  | _, _ => []
theorem kw_is_integer_0_value (T : Txt K mg fs fd tk) : KwB K (fd 0) P_is_integer 0 ["value"] g_kw_is_integer_0_value := by
  obtain ⟨oc, od, kV, doc, pm, an, cd, ct, osl, e, _⟩ := T.f_is_integer.ex
  refine ⟨fun s us ws h1 h2 => ?_, fun {vs us zs ws} h1 h2 r1 r2 => ?_⟩
  · rw [e]
    exact match us, ws, h1, h2 with | [], [_], _, _ => .of_eq rfl
  · exact match vs, us, zs, ws, r1, r2, h1, h2 with | [], [], [_], [_], (.nil), (.cons rw0 (.nil)), _, _ => .cons rw0 (.nil)
def g_kw_are_integers_0_value {α : Type} (us ws : List α) : List α := match us, ws with
  | [], [w0] => [w0]
  | _, _ => []
theorem kw_are_integers_0_value (T : Txt K mg fs fd tk) : KwB K (fd 2) P_are_integers 0 ["value"] g_kw_are_integers_0_value := by
  obtain ⟨oc, od, kV, doc, pm, an, cd, ct, osl, e, _⟩ := T.f_are_integers.ex
  refine ⟨fun s us ws h1 h2 => ?_, fun {vs us zs ws} h1 h2 r1 r2 => ?_⟩
  · rw [e]
    exact match us, ws, h1, h2 with | [], [_], _, _ => .of_eq rfl
  · exact match vs, us, zs, ws, r1, r2, h1, h2 with | [], [], [_], [_], (.nil), (.cons rw0 (.nil)), _, _ => .cons rw0 (.nil)
def g_kw_is_lot_0_many_value {α : Type} (us ws : List α) : List α := match us, ws with
  | [], [w0, w1] => [w1, w0]
  | _, _ => []
theorem kw_is_lot_0_many_value (T : Txt K mg fs fd tk) : KwB K (fd 3) P_is_lot 0 ["many", "value"] g_kw_is_lot_0_many_value := by
  obtain ⟨oc, od, kV, doc, pm, an, cd, ct, osl, e, _⟩ := T.f_is_lot.ex
  refine ⟨fun s us ws h1 h2 => ?_, fun {vs us zs ws} h1 h2 r1 r2 => ?_⟩
  · rw [e]
    exact match us, ws, h1, h2 with | [], [_, _], _, _ => .of_eq rfl
  · exact match vs, us, zs, ws, r1, r2, h1, h2 with | [], [], [_, _], [_, _], (.nil), (.cons rw0 (.cons rw1 (.nil))), _, _ => .cons rw1 (.cons rw0 (.nil))
def g_kw_is_name_0_value {α : Type} (us ws : List α) : List α := match us, ws with
  | [], [w0] => [w0]
  | _, _ => []
theorem kw_is_name_0_value (T : Txt K mg fs fd tk) : KwB K (fd 4) P_is_name 0 ["value"] g_kw_is_name_0_value := by
  obtain ⟨oc, od, kV, doc, pm, an, cd, ct, osl, e, _⟩ := T.f_is_name.ex
  refine ⟨fun s us ws h1 h2 => ?_, fun {vs us zs ws} h1 h2 r1 r2 => ?_⟩
  · rw [e]
    exact match us, ws, h1, h2 with | [], [_], _, _ => .of_eq rfl
  · exact match vs, us, zs, ws, r1, r2, h1, h2 with | [], [], [_], [_], (.nil), (.cons rw0 (.nil)), _, _ => .cons rw0 (.nil)
end
def optV : Option Int → V
  | none => .non
  | some i => .int i
def within (v : V) (l m : Option Int) : Bool := match v with
  | .int i => (match l with | some j => decide (j ≤ i) | none => true) && (match m with | some j => decide (i ≤ j) | none => true)
  | _ => false
def areI (H : Hp) (v : V) : Bool := match its H v with
  | some xs => xs.all wh
  | none => false
def lotB (many : Int) : Int → List V → Bool
  | _, [] => true
  | least, .int i :: r => if i < least ∨ many ≤ i then false else lotB many (i + 1) r
  | _, _ :: _ => false
def isLot (H : Hp) (v : V) (many : Int) : Bool := match its H v with
  | some xs => xs.all wh && lotB many 0 xs
  | none => false
def LET : Str := "abcdefghijklmnopqrstuvwxyz"
def nameB (z : Str) : Bool := (decide (1 ≤ z.length) && decide (z.length ≤ 12)) && z.cps.toList.all fun c => decide (c ∈ LET.cps.toList)
def isNm : V → Bool
  | .str z => nameB z
  | _ => false
def spInt : Sp := fun vs H Q _ => ∃ (p : Addr) (v : V), vs = [v] ∧ Kd p H v ∧ ∀ H', Ex H H' → Q (.bl (wh v)) H'
def spWithin : Sp := fun vs H Q _ => ∃ (p : Addr) (v : V) (l m : Option Int), vs = [v, optV l, optV m] ∧ Kd p H v ∧ ∀ H', Ex H H' → Q (.bl (within v l m)) H'
def spAre : Sp := fun vs H Q _ => ∃ (p : Addr) (v : V), vs = [v] ∧ Kd p H v ∧ ∀ H', Ex H H' → Q (.bl (areI H v)) H'
def spLot : Sp := fun vs H Q _ => ∃ (p : Addr) (v : V) (many : Int), vs = [v, .int many] ∧ Kd p H v ∧ ∀ H', Ex H H' → Q (.bl (isLot H v many)) H'
def spName : Sp := fun vs H Q _ => ∃ (p : Addr) (v : V), vs = [v] ∧ Kd p H v ∧ (∀ z, v = .str z → z.length ≤ 100000) ∧ ∀ H', Ex H H' → Q (.bl (isNm v)) H'
def spOdd : Sp := fun vs H Q _ => ∃ (p c : Addr) (n : Nat), vs = [.ref p] ∧ Rk H p c n ∧ n < 99999 ∧ ∀ (v : V) (H' : Hp), Kd p H' v → wh v = false → Sh v → (∀ xs, its H' v = some xs → xs.all Fl = true) → Rk H' p c (n + 1) → Kp p H H' → Q v H'
def spPart : Sp := fun vs H Q _ => ∃ (p c : Addr) (n : Nat), vs = [.ref p] ∧ Rk H p c n ∧ n ≤ 90000 ∧ ∀ (H' : Hp), Rk H' p c (n + 100) → Q (.bl true) H'
def spLaw (K : PySem.W.Frag) : Sp := fun vs H Q _ => ∃ (a : Addr) (ns : List Int), vs = [.ref a] ∧ SqL K H a (ns.map V.int) ∧ ns.length ≤ 63 ∧ ∀ H', Q (.bl true) H'
theorem law_pre {K : PySem.W.Frag} {H : Hp} {a : Addr} {ns : List Int} (hl : ns.length ≤ 63) (hS : SqL K H a (ns.map V.int)) : spLaw K [.ref a] H (fun v _ => v = .bl true) fun _ _ _ => False := ⟨a, ns, rfl, hS, hl, fun _ => rfl⟩
end Mine
namespace Mine
open PySem PySem.Spec PyProof.Rows L2 GL
section
variable {P : Program} {w : World} {K : PySem.W.Frag} {mg : Str → Option Value} {base : Heap} {fs : Nat → Addr} {fd : Nat → FuncData} {tk : Nat → Tok}
theorem ok_is_integer (T : Txt K mg fs fd tk) : FnG P w K mg base CX0 1 (fs 0) (fd 0) P_is_integer spInt := by
  refine Fun.okG T.f_is_integer sc_is_integer (fun vs H Q E h => ?_) (fun cd A out s H vs Q E gd hr h => ?_)
  · obtain ⟨p, v, rfl, _⟩ := h
    rfl
  · obtain ⟨p, v, rfl, hv, k⟩ := h
    refine ⟨_, PSs.nox ((pss_one (ps_ret (pe_and (pe_callB call_isi (by rfl) T.z_isinstance (by decide +kernel) (pa_cons (pv 0) (pa_cons (pe_bltn (v := .ty "int") (u := .type "int") (by rfl) T.z_int (by decide +kernel) rfl) pa_nil))) (pe_one (pe_not (pe_callB call_isi (by rfl) T.z_isinstance (by decide +kernel) (pa_cons (pv 0) (pa_cons (pe_bltn (v := .ty "bool") (u := .type "bool") (by rfl) T.z_bool (by decide +kernel) rfl) pa_nil))))))))), ?_⟩
    refine rd_isi (c := "int") rfl hv (by decide) ?_
    have e := wh_ty hv
    cases c : isT (tyN H v) "int" with
    | true =>
      rw [c, Bool.true_and] at e
      refine ⟨true, rfl, iteT ?_⟩
      refine rd_isi (c := "bool") rfl hv (by decide) ⟨_, rfl, ?_⟩
      rw [← e]
      exact k H (Ex.rfl' H)
    | false =>
      rw [c, Bool.false_and] at e
      rw [e] at k
      exact ⟨false, rfl, iteF (k H (Ex.rfl' H))⟩
theorem ok_Lwhole (T : Txt K mg fs fd tk) : FnG P w K mg base CX0 1 (fs 8) (fd 8) P_Lwhole spInt := by
  refine Fun.okG T.f_Lwhole sc_Lwhole (fun vs H Q E h => ?_) (fun cd A out s H vs Q E gd hr h => ?_)
  · obtain ⟨p, v, rfl, _⟩ := h
    rfl
  · obtain ⟨p, v, rfl, hv, k⟩ := h
    refine ⟨_, PSs.nox ((pss_one (ps_ret (pe_and (pe_callB call_isi (by rfl) T.z_isinstance (by decide +kernel) (pa_cons (pv 0) (pa_cons (pe_bltn (v := .ty "int") (u := .type "int") (by rfl) T.z_int (by decide +kernel) rfl) pa_nil))) (pe_one (pe_not (pe_callB call_isi (by rfl) T.z_isinstance (by decide +kernel) (pa_cons (pv 0) (pa_cons (pe_bltn (v := .ty "bool") (u := .type "bool") (by rfl) T.z_bool (by decide +kernel) rfl) pa_nil))))))))), ?_⟩
    refine rd_isi (c := "int") rfl hv (by decide) ?_
    have e := wh_ty hv
    cases c : isT (tyN H v) "int" with
    | true =>
      rw [c, Bool.true_and] at e
      refine ⟨true, rfl, iteT ?_⟩
      refine rd_isi (c := "bool") rfl hv (by decide) ⟨_, rfl, ?_⟩
      rw [← e]
      exact k H (Ex.rfl' H)
    | false =>
      rw [c, Bool.false_and] at e
      rw [e] at k
      exact ⟨false, rfl, iteF (k H (Ex.rfl' H))⟩
theorem ok_is_within (T : Txt K mg fs fd tk) : FnG P w K mg base CX0 2 (fs 1) (fd 1) P_is_within spWithin := by
  refine Fun.okG T.f_is_within sc_is_within (fun vs H Q E h => ?_) (fun cd A out s H vs Q E gd hr h => ?_)
  · obtain ⟨p, v, l, m, rfl, _⟩ := h
    rfl
  · obtain ⟨p, v, l, m, rfl, hv, k⟩ := h
    refine ⟨_, PSs.nox ((pss_cons (ps_if (pt_not (pt_val (pg_call (ok_is_integer T) gd (hr.mono (by decide)) (by rfl) T.m_is_integer T.f_is_integer.kp (b_is_integer T) .nil pass0 (pa_cons (pv 0) pa_nil))))
        (pss_one (ps_ret (pe_bl)))
        pss_nil)
      (pss_cons (ps_if (PW.pt (pw_and (pt_cmpR op_notN (pv 1) (pe_non) (nomark _)) (pw_and1 (pt_cmpR op_lt (pv 0) (pv 1) (nomark _)))))
        (pss_one (ps_ret (pe_bl)))
        pss_nil)
      (pss_one (ps_ret (pe_or (pe_cmpR op_isN (pv 2) (pe_non) (nomark _)) (pe_one (pe_cmpR op_le (pv 0) (pv 2) (nomark _))))))))), ?_⟩
    refine ⟨v, rfl, p, v, rfl, hv, fun H1 e1 => ⟨wh v, rfl, ?_⟩⟩
    cases c : wh v with
    | false =>
      refine iteT ?_
      have e : within v l m = false := by cases v <;> first | rfl | cases c
      rw [e] at k
      exact k H1 e1
    | true =>
      obtain ⟨i, rfl⟩ := wh_int c
      refine iteF ?_
      have q := k H1 e1
      cases l with
      | none =>
        cases m with
        | none => simpa [tNext, tSeq, tIfS, tAnd, tOr, tNot, tTest, tB, tOp, tUn, tRet, tC, tVar, tOrV, tAndV, tNotV, tIf, rI0, rI, rU, rEq, rNe, L2.start, tCB, tCons, tNil, tAsg, gName, tLst, tTup, tChain, tKw, tCall, optV, within, scal] using q
        | some m => simpa [tNext, tSeq, tIfS, tAnd, tOr, tNot, tTest, tB, tOp, tUn, tRet, tC, tVar, tOrV, tAndV, tNotV, tIf, rI0, rI, rU, rEq, rNe, L2.start, tCB, tCons, tNil, tAsg, gName, tLst, tTup, tChain, tKw, tCall, optV, within, scal] using q
      | some l =>
        by_cases c1 : i < l
        · have c2 : ¬ l ≤ i := by omega
          cases m with
          | none => simpa [tNext, tSeq, tIfS, tAnd, tOr, tNot, tTest, tB, tOp, tUn, tRet, tC, tVar, tOrV, tAndV, tNotV, tIf, rI0, rI, rU, rEq, rNe, L2.start, tCB, tCons, tNil, tAsg, gName, tLst, tTup, tChain, tKw, tCall, optV, within, scal, c1, c2] using q
          | some m => simpa [tNext, tSeq, tIfS, tAnd, tOr, tNot, tTest, tB, tOp, tUn, tRet, tC, tVar, tOrV, tAndV, tNotV, tIf, rI0, rI, rU, rEq, rNe, L2.start, tCB, tCons, tNil, tAsg, gName, tLst, tTup, tChain, tKw, tCall, optV, within, scal, c1, c2] using q
        · have c2 : l ≤ i := by omega
          cases m with
          | none => simpa [tNext, tSeq, tIfS, tAnd, tOr, tNot, tTest, tB, tOp, tUn, tRet, tC, tVar, tOrV, tAndV, tNotV, tIf, rI0, rI, rU, rEq, rNe, L2.start, tCB, tCons, tNil, tAsg, gName, tLst, tTup, tChain, tKw, tCall, optV, within, scal, c1, c2] using q
          | some m => simpa [tNext, tSeq, tIfS, tAnd, tOr, tNot, tTest, tB, tOp, tUn, tRet, tC, tVar, tOrV, tAndV, tNotV, tIf, rI0, rI, rU, rEq, rNe, L2.start, tCB, tCons, tNil, tAsg, gName, tLst, tTup, tChain, tKw, tCall, optV, within, scal, c1, c2] using q
theorem ok_Lturn_of (T : Txt K mg fs fd tk) : FnG P w K mg base CX0 1 (fs 6) (fd 6) P_Lturn_of spDraw := by
  refine Fun.okG T.f_Lturn_of sc_Lturn_of (fun vs H Q E h => ?_) (fun cd A out s H vs Q E gd hr h => ?_)
  · obtain ⟨p, c, many, n, rfl, _⟩ := h
    rfl
  · obtain ⟨p, c, many, n, rfl, r, hn, m0, m1, k⟩ := h
    refine ⟨_, PSs.nox ((pss_cons (ps_if (pt_cmpR op_gt (pe_ix ix_list (pv 0) (pe_int) (fun _ _ => rfl)) (pe_int) (nomark _))
        (pss_cons (ps_set (i := 2) sc_Lturn_of.nd rfl (by first | exact Or.inl rfl | exact Or.inr rfl) (pe_ix ix_list (pv 0) (pe_int) (fun _ _ => rfl)))
        (pss_cons (ps_asg (pe_op op_fdiv (pe_callTy call_int1 (by rfl) T.z_int (by decide +kernel) (pa_cons (pv 2) pa_nil)) (pv 1)) (pg_sub (pv 0) (pe_int) set_list))
        (pss_one (ps_ret (pe_op op_mod (pe_callTy call_int1 (by rfl) T.z_int (by decide +kernel) (pa_cons (pv 2) pa_nil)) (pv 1))))))
        pss_nil)
      (pss_cons (ps_set (i := 3) sc_Lturn_of.nd rfl (by first | exact Or.inl rfl | exact Or.inr rfl) (pe_ix ix_list (pv 0) (pe_int) (fun _ _ => rfl)))
      (pss_cons (ps_asg (pe_op op_add (pv 3) (pe_int)) (pg_sub (pv 0) (pe_int) set_list))
      (pss_cons (ps_set (i := 4) sc_Lturn_of.nd rfl (by first | exact Or.inl rfl | exact Or.inr rfl) (pe_op op_add (pe_op op_mul (pe_int) (pv 3)) (pe_int)))
      (Evl.pss_cut (ps_if (pt_cmpR (op_neD hr.units) (pe_ix ix_list (pv 0) (pe_int) (fun _ _ => rfl)) (pe_lst pa_nil) (nomark _))
        (pss_one (ps_set (i := 4) sc_Lturn_of.nd rfl (by first | exact Or.inl rfl | exact Or.inr rfl) (pe_ix ix_list (pe_ix ix_list (pv 0) (pe_int) (fun _ _ => rfl)) (pe_op op_mod (pe_callTy call_int1 (by rfl) T.z_int (by decide +kernel) (pa_cons (pv 3) pa_nil)) (pe_callB call_len_seq (by rfl) T.z_len (by decide +kernel) (pa_cons (pe_ix ix_list (pv 0) (pe_int) (fun _ _ => rfl)) pa_nil))) (fun _ _ => rfl))))
        pss_nil)
      (Evl.pss_cut (ps_if (PW.pt (pw_and (pt_cmpR op_lt (pv 3) (pe_callB call_len_seq (by rfl) T.z_len (by decide +kernel) (pa_cons (pe_ix ix_list (pv 0) (pe_int) (fun _ _ => rfl)) pa_nil)) (nomark _)) (pw_and1 (pt_cmpR op_ge (pe_callB call_abs (by rfl) T.z_abs (by decide +kernel) (pa_cons (pv 4) pa_nil)) (pe_op op_pow (pe_int) (pe_int)) (nomark _)))))
        (pss_cons (ps_set (i := 2) sc_Lturn_of.nd rfl (by first | exact Or.inl rfl | exact Or.inr rfl) (pe_op op_add (pe_op op_mul (pe_int) (pe_op op_sub (pe_callB call_abs (by rfl) T.z_abs (by decide +kernel) (pa_cons (pv 4) pa_nil)) (pe_op op_pow (pe_int) (pe_int)))) (pe_callTy call_int1 (by rfl) T.z_int (by decide +kernel) (pa_cons (pe_cmpR op_lt (pv 4) (pe_int) (nomark _)) pa_nil))))
        (pss_cons (ps_asg (pe_op op_fdiv (pe_callTy call_int1 (by rfl) T.z_int (by decide +kernel) (pa_cons (pv 2) pa_nil)) (pv 1)) (pg_sub (pv 0) (pe_int) set_list))
        (pss_one (ps_ret (pe_op op_mod (pe_callTy call_int1 (by rfl) T.z_int (by decide +kernel) (pa_cons (pv 2) pa_nil)) (pv 1))))))
        pss_nil)
      (pss_cons (ps_set (i := 5) sc_Lturn_of.nd rfl (by first | exact Or.inl rfl | exact Or.inr rfl) (pe_op op_mod (pe_callTy call_int1 (by rfl) T.z_int (by decide +kernel) (pa_cons (pe_op op_pow (pe_op op_add (pe_op op_add (pe_op op_mod (pe_callTy call_int1 (by rfl) T.z_int (by decide +kernel) (pa_cons (pv 4) pa_nil)) (pe_int)) (pe_op op_mul (pe_int) (pv 3))) (pe_int)) (pe_int)) pa_nil)) (pe_int)))
      (pss_cons (ps_set (i := 5) sc_Lturn_of.nd rfl (by first | exact Or.inl rfl | exact Or.inr rfl) (pe_op op_mod (pe_callTy call_int1 (by rfl) T.z_int (by decide +kernel) (pa_cons (pe_op op_pow (pe_op op_add (pe_op op_add (pe_op op_mul (pv 5) (pe_op op_add (pe_op op_mul (pe_int) (pv 3)) (pe_int))) (pe_op op_mul (pe_op op_mul (pe_int) (pv 3)) (pv 3))) (pe_int)) (pe_int)) pa_nil)) (pe_int)))
      (pss_one (ps_ret (pe_op op_mod (pe_callTy call_int1 (by rfl) T.z_int (by decide +kernel) (pa_cons (pe_op op_fdiv (pv 5) (pe_int)) pa_nil)) (pv 1))))))))))))), ?_⟩
    obtain ⟨ns, t, l, h1, h2, hcp, hlen, t0, tn, l0⟩ := r.ex
    refine ⟨_, rfl, p, _, 2, .int l, rfl, rfl, SqL.of h1, rfl, l, 0, rfl, rfl, _, rfl, ?_⟩
    by_cases hl : 0 < l
    · rw [decide_eq_true hl]
      refine iteT ?_
      refine ⟨_, rfl, p, _, 2, .int l, rfl, rfl, SqL.of h1, rfl, ?_⟩
      refine ⟨_, rfl, .inl ⟨l, rfl, _, rfl, l, many, rfl, rfl, ⟨m0, m1⟩, ?_⟩⟩
      refine ⟨_, rfl, p, _, 2, 2, rfl, rfl, h1, rfl, ?_⟩
      refine ⟨_, rfl, .inl ⟨l, rfl, _, rfl, l, many, rfl, rfl, m0, ?_⟩⟩
      refine k _ _ (Int.emod_nonneg _ (by omega)) (Int.emod_lt_of_pos _ m0) ⟨⟨ns, t, l / many, upd_same, by rw [upd_ne hcp]; exact h2, hcp, hlen, t0, by omega, Int.ediv_nonneg l0 (by omega)⟩⟩ (Kp.up (Kp.rfl' H))
    · rw [decide_eq_false hl]
      refine iteF ?_
      -- turn = rack[1]; rack[1] = turn + 1
      refine ⟨_, rfl, p, _, 1, .int t, rfl, rfl, SqL.of h1, rfl, ?_⟩
      refine ⟨_, rfl, t, 1, rfl, rfl, ?_⟩
      refine ⟨_, rfl, p, _, 1, 1, rfl, rfl, h1, rfl, ?_⟩
      generalize hG : upd H p (.lst [V.ref c, .int (t + 1), .int l]) = G
      have g1 : G p = some (.lst [.ref c, .int (t + 1), .int l]) := by rw [← hG]; exact upd_same
      have g2 : G c = some (.lst (ns.map V.int)) := by rw [← hG, upd_ne hcp]; exact h2
      have g3 : Kp p H G := by rw [← hG]; exact Kp.up (Kp.rfl' H)
      have hG' : upd H p (.lst (List.set [V.ref c, .int t, .int l] 1 (.int (t + 1)))) = G := hG
      rw [hG']
      -- cell = 43787 * turn + 6151
      refine ⟨_, rfl, _, _, rfl, rfl, .inl ⟨by decide, by decide⟩, _, _, rfl, rfl, ?_⟩
      -- if rack[0] != []: cell = ..
      refine ⟨fun σ' G' => ∃ cell : Int, σ' = [some (.ref p), some (.int many), none, some (.int t), some (.int cell), none] ∧ Ex G G', ?_, ?_⟩
      · refine ⟨_, rfl, p, _, 0, .ref c, rfl, rfl, SqL.of g1, rfl, Nat.zero_le _, fun q hq => ?_⟩
        have e1 : Ex G (upd G q (.lst [])) := Ex.nw hq
        refine ⟨.list (ns.map PyData.int), .list [], .lst (SqL.of (e1 _ _ g2)) (dp_ints ns), .lst (SqL.of upd_same) .nil, shaped_ints ns, rfl, _, rfl, ?_⟩
        cases ns with
        | nil => exact iteF ⟨_, rfl, e1⟩
        | cons a r =>
          refine iteT ?_
          have hp : (0 : Int) < ((a :: r).length : Int) := by simp only [List.length_cons]; omega
          obtain ⟨j, hj⟩ : ∃ j : Nat, t % ((a :: r).length : Int) = (j : Int) := ⟨(t % ((a :: r).length : Int)).toNat, (Int.toNat_of_nonneg (Int.emod_nonneg _ (by omega))).symm⟩
          have hj2 : j < (a :: r).length := by have := Int.emod_lt_of_pos t hp; omega
          have hx : ((a :: r).map V.int)[j]? = some (.int ((a :: r)[j])) := by rw [List.getElem?_map, List.getElem?_eq_getElem hj2]; rfl
          have hy : atI ((a :: r).map V.int) (t % (((a :: r).map V.int).length : Int)) = some (.int ((a :: r)[j])) := by rw [List.length_map, hj]; exact atI_nat hx
          refine ⟨_, rfl, p, _, 0, .ref c, rfl, rfl, SqL.of (e1 _ _ g1), rfl, ?_⟩
          refine ⟨_, rfl, .inl ⟨t, rfl, ?_⟩⟩
          refine ⟨_, rfl, p, _, 0, .ref c, rfl, rfl, SqL.of (e1 _ _ g1), rfl, c, _, rfl, .inl (SqL.of (e1 _ _ g2)), t, _, rfl, rfl, (by simp only [List.length_map]; exact hp), ?_⟩
          refine ⟨c, _, _, _, rfl, rfl, SqL.of (e1 _ _ g2), hy, ?_⟩
          exact ⟨_, rfl, e1⟩
      · rintro σ' G' ⟨cell, rfl, e2⟩
        have f1 := e2 _ _ g1
        have f2 := e2 _ _ g2
        have f3 : Kp p H G' := g3.ex e2
        have pw : CPow 10 18 := ⟨by decide, by decide, by decide⟩
        refine ⟨fun σ2 G2 => σ2 = [some (.ref p), some (.int many), none, some (.int t), some (.int cell), none] ∧ G2 = G', ?_, ?_⟩
        · -- turn < len(rack[0]) and abs(cell) >= 10 ** 18
          refine ⟨_, rfl, _, rfl, p, _, 0, .ref c, rfl, rfl, SqL.of f1, rfl, c, _, rfl, .inl (SqL.of f2), t, _, rfl, rfl, _, rfl, ?_⟩
          by_cases c1 : t < ((ns.map V.int).length : Int)
          · rw [decide_eq_true c1]
            refine iteT ⟨_, rfl, cell, rfl, 10, 18, rfl, rfl, pw, _, _, rfl, rfl, _, rfl, ?_⟩
            by_cases c2 : (10 : Int) ^ (18 : Int).toNat ≤ (if cell < 0 then -cell else cell)
            · rw [decide_eq_true c2]
              refine iteT ?_
              refine ⟨_, rfl, cell, rfl, 10, 18, rfl, rfl, pw, _, _, rfl, rfl, 2, _, rfl, rfl, .inl ⟨by decide, by decide⟩, _, rfl, cell, 0, rfl, rfl, .inr ⟨_, rfl, _, _, rfl, rfl, ?_⟩⟩
              have hle : 0 ≤ 2 * ((if cell < 0 then -cell else cell) - (10 : Int) ^ (18 : Int).toNat) + (if decide (cell < 0) = true then (1 : Int) else 0) := by
                have : 0 ≤ (if decide (cell < 0) = true then (1 : Int) else 0) := by split <;> decide
                omega
              refine ⟨_, rfl, .inl ⟨_, rfl, _, rfl, _, many, rfl, rfl, ⟨m0, m1⟩, ?_⟩⟩
              refine ⟨_, rfl, p, _, 2, 2, rfl, rfl, f1, rfl, ?_⟩
              refine ⟨_, rfl, .inl ⟨_, rfl, _, rfl, _, many, rfl, rfl, m0, ?_⟩⟩
              exact k _ _ (Int.emod_nonneg _ (by omega)) (Int.emod_lt_of_pos _ m0) ⟨⟨ns, t + 1, _, upd_same, by rw [upd_ne hcp]; exact f2, hcp, hlen, by omega, by omega, Int.ediv_nonneg hle (by omega)⟩⟩ (Kp.up f3)
            · rw [decide_eq_false c2]
              exact iteF ⟨rfl, rfl⟩
          · rw [decide_eq_false c1]
            exact iteF (iteF ⟨rfl, rfl⟩)
        · rintro σ2 G2 ⟨rfl, rfl⟩
          have b1 : 0 ≤ cell % 2147483563 := Int.emod_nonneg _ (by decide)
          have b2 : cell % 2147483563 < 2147483563 := Int.emod_lt_of_pos _ (by decide)
          refine ⟨_, rfl, .inl ⟨cell, rfl, cell, _, rfl, rfl, (by show (0 : Int) < 2147483563; decide), _, rfl, _, t, rfl, rfl, .inl ⟨by decide, by decide⟩, _, _, rfl, rfl, _, _, rfl, rfl, _, 5, rfl, rfl, ⟨by decide, by decide, ?_⟩, .inl ⟨_, rfl, _, _, rfl, rfl, (by show (0 : Int) < 2147483587; decide), ?_⟩⟩⟩
          · show (cell % 2147483563 + 51199 * t + 6151).natAbs < 2 ^ 64
            omega
          have d1 : 0 ≤ (cell % 2147483563 + 51199 * t + 6151) ^ (5 : Int).toNat % 2147483587 := Int.emod_nonneg _ (by decide)
          have d2 : (cell % 2147483563 + 51199 * t + 6151) ^ (5 : Int).toNat % 2147483587 < 2147483587 := Int.emod_lt_of_pos _ (by decide)
          refine ⟨_, rfl, _, rfl, _, _, rfl, rfl, .inl ⟨by decide, by decide⟩, _, _, rfl, rfl, _, _, rfl, rfl, .inl ⟨?_, ?_⟩, _, rfl, _, _, rfl, rfl, .inl ⟨by decide, by decide⟩, _, rfl, _, _, rfl, rfl, .inr ⟨?_, ?_⟩, _, _, rfl, rfl, _, _, rfl, rfl, _, _, rfl, rfl, ⟨by decide, by decide, ?_⟩,
            .inl ⟨_, rfl, _, _, rfl, rfl, (by show (0 : Int) < 2147483549; decide), ?_⟩⟩
          · exact Int.lt_of_lt_of_le (by decide) d1
          · exact Int.lt_trans d2 (by decide)
          · show -(2 ^ 64) < t
            omega
          · show t < 2 ^ 64
            omega
          · exact mix_small d1 (Int.lt_trans d2 (by decide)) t0 (by omega) (by decide) (by decide) (by decide) (by decide) (by decide) (by decide)
          · refine ⟨_, rfl, _, _, rfl, rfl, ⟨by decide, by decide⟩, .inl ⟨_, rfl, _, rfl, _, many, rfl, rfl, m0, ?_⟩⟩
            exact k _ _ (Int.emod_nonneg _ (by omega)) (Int.emod_lt_of_pos _ m0) ⟨⟨ns, t + 1, l, f1, f2, hcp, hlen, by omega, by omega, l0⟩⟩ f3
end
end Mine
namespace Mine
open PySem PySem.Spec PyProof.Rows L2 GL
section
variable {P : Program} {w : World} {K : PySem.W.Frag} {mg : Str → Option Value} {base : Heap} {fs : Nat → Addr} {fd : Nat → FuncData} {tk : Nat → Tok}
theorem ok_Lpick (T : Txt K mg fs fd tk) : FnG P w K mg base CX0 2 (fs 7) (fd 7) P_Lpick spPick := by
  refine Fun.okG T.f_Lpick sc_Lpick (fun vs H Q E h => ?_) (fun cd A out s H vs Q E gd hr h => ?_)
  · obtain ⟨p, c, x, n, rfl, _⟩ := h
    rfl
  · obtain ⟨p, c, x, n, rfl, r, hn, h⟩ := h
    refine ⟨_, PSs.nox ((pss_one (ps_ret (pe_ix ix_seq (pv 1) (pg_call (ok_Lturn_of T) gd (hr.mono (by decide)) (by rfl) T.m_Lturn_of T.f_Lturn_of.kp (b_Lturn_of T) .nil pass0 (pa_cons (pv 0) (pa_cons (pe_callB call_len (by rfl) T.z_len (by decide +kernel) (pa_cons (pv 1) pa_nil)) pa_nil))) (fun _ _ => rfl))))), ?_⟩
    refine ⟨_, rfl, _, rfl, _, rfl, ?_⟩
    rcases h with ⟨a, xs, rfl, na, ha, ne, hl, k⟩ | ⟨z, rfl, z0, z1, k⟩
    · refine ⟨_, xs.length, rfl, .inl ⟨xs, SqL.of ha, rfl⟩, p, c, _, n, rfl, r, hn, ?_, by omega, fun i H' i0 i1 r' kp => ?_⟩
      · have := List.length_pos_iff.mpr ne; omega
      obtain ⟨j, rfl⟩ : ∃ j : Nat, i = (j : Int) := ⟨i.toNat, (Int.toNat_of_nonneg i0).symm⟩
      have hj : j < xs.length := by omega
      exact .inl ⟨a, xs, j, xs[j], rfl, rfl, SqL.of (kp _ _ na ha), atI_nat (List.getElem?_eq_getElem hj), k _ _ (List.getElem_mem hj) r' kp⟩
    · refine ⟨_, z.length, rfl, ⟨?_, rfl⟩, p, c, _, n, rfl, r, hn, by omega, by omega, fun i H' i0 i1 r' kp => ?_⟩
      · exact Nat.le_trans (Nat.le_of_lt z1) (by decide)
      obtain ⟨j, rfl⟩ : ∃ j : Nat, i = (j : Int) := ⟨i.toNat, (Int.toNat_of_nonneg i0).symm⟩
      have hj : j < z.cps.toList.length := by rw [Array.length_toList]; show j < z.length; omega
      exact .inr (.inr ⟨z, j, z.cps.toList[j], rfl, rfl, Nat.le_trans (Nat.le_of_lt z1) (by decide), atI_nat (List.getElem?_eq_getElem hj), k _ _ (List.getElem_mem hj) r' kp⟩)
theorem ok_Lrack (T : Txt K mg fs fd tk) : FnG P w K mg base CX0 1 (fs 5) (fd 5) P_Lrack (spRack K) := by
  refine Fun.okG T.f_Lrack sc_Lrack (fun vs H Q E h => ?_) (fun cd A out s H vs Q E gd hr h => ?_)
  · obtain ⟨a, ns, rfl, _⟩ := h
    rfl
  · obtain ⟨a, ns, rfl, hS, hl, k⟩ := h
    refine ⟨_, PSs.nox ((pss_one (ps_ret (pe_lst (pa_cons (pe_lc (own := [("cell", 1)]) (g := gName 1) (tt := tYes) rfl sc_Lrack.nd (pi_list (pe_slice sl_list (pv 0) po_none (po_some (pe_int)))) (blkOk_by (own := [("cell", 1)]) (N := N_Lrack) (sc := defScope s_Lrack) (by decide +kernel)) (fun _ _ _ _ _ => (pg_name (i := 1) sc_Lrack.nd rfl (Or.inl rfl))) (fun _ _ _ _ _ => pts_nil) (fun _ _ _ _ _ => pe_callTy call_int1 (by rfl) T.z_int (by decide +kernel) (pa_cons (pv 1) pa_nil))) (pa_cons (pe_int) (pa_cons (pe_int) pa_nil))))))), ?_⟩
    refine ⟨_, rfl, _, rfl, a, _, rfl, hS, fun q hq => ?_⟩
    obtain ⟨ms, em, lm, _⟩ := cut_ints ns none (some 56)
    have e0 : Ex H (upd H q (.lst (cutV (ns.map V.int) none (some 56)))) := Ex.nw hq
    have gq : (upd H q (.lst (cutV (ns.map V.int) none (some 56)))) q = some (.lst (ms.map V.int)) := by rw [em]; exact upd_same
    generalize upd H q (.lst (cutV (ns.map V.int) none (some 56))) = G at e0 gq
    refine ⟨q, rfl, ⟨_, SqL.of gq⟩, fun D hD => ?_⟩
    refine lc_list (K := K) (a := q) (xs := ms.map V.int) (fun i H' => H' D = some (.lst ((ms.take i).map V.int)) ∧ Ex G H') ⟨upd_same, Ex.nw hD⟩ (fun i H' _ p => SqL.of (p.2 _ _ gq)) ?_ ?_
    · rintro i x H' hx ⟨p1, p2⟩
      obtain ⟨z, hz, rfl⟩ := map_get hx
      have hi := lt_of_get hz
      refine ⟨rfl, ?_⟩
      refine ⟨_, rfl, .inl ⟨z, rfl, _, p1, ?_, ?_, p2.up hD⟩⟩
      · rw [List.length_map, List.length_take]; exact sz_ok (by omega)
      · rw [take_step hz, List.map_append]; exact upd_same
    · rintro H' ⟨p1, p2⟩
      rw [List.length_map, List.take_length] at p1
      refine ⟨(show 3 ≤ sizeLine by decide), fun p hp => ?_⟩
      have e3 : Ex H' (upd H' p (.lst [.ref D, .int 0, .int 0])) := Ex.nw hp
      exact k p D _ ((e0.tr p2).no hp) ⟨⟨ms, 0, 0, upd_same, e3 _ _ p1, ne_of_none p1 hp, by omega, by decide, by decide, by decide⟩⟩ ((e0.tr p2).tr e3)
theorem ok_Lodd (T : Txt K mg fs fd tk) : FnG P w K mg base CX0 3 (fs 9) (fd 9) P_Lodd spOdd := by
  refine Fun.okG T.f_Lodd sc_Lodd (fun vs H Q E h => ?_) (fun cd A out s H vs Q E gd hr h => ?_)
  · obtain ⟨p, c, n, rfl, _⟩ := h
    rfl
  · obtain ⟨p, c, n, rfl, r, hn, k⟩ := h
    refine ⟨_, PSs.nox ((pss_one (ps_ret (pg_call (ok_Lpick T) gd (hr.mono (by decide)) (by rfl) T.m_Lpick T.f_Lpick.kp (b_Lpick T) .nil pass0 (pa_cons (pv 0) (pa_cons (pe_lst (pa_cons (pe_non) (pa_cons (pe_bl) (pa_cons (pe_bl) (pa_cons (pe_str) (pa_cons (pe_str) (pa_cons (pe_lst (pa_cons (pe_int) pa_nil)) (pa_cons (pe_tup pa_nil) (pa_cons (pe_dnewK) (pa_cons (pe_disp (pps_cons (pe_int) (pe_int) pps_nil) (by rfl) (by rfl) (fun z => by cases z) (by decide)) (pa_cons (pe_str) (pa_cons (pe_lst (pa_cons (pe_non) pa_nil)) (pa_cons (pe_tup (pa_cons (pe_int) pa_nil)) pa_nil))))))))))))) pa_nil)))))), ?_⟩
    refine ⟨_, rfl, ?_⟩
    refine ⟨(show 1 ≤ sizeLine by decide), fun a1 h1 => ⟨(show 0 ≤ sizeLine by decide), fun a2 h2 a3 h3 => ?_⟩⟩
    have e1 : Ex H (upd H a1 (.lst [.int 3])) := Ex.nw h1
    have g1 : (upd H a1 (.lst [.int 3])) a1 = some (.lst [.int 3]) := upd_same
    generalize upd H a1 (.lst [.int 3]) = H1 at h2 h3 e1 g1 ⊢
    have e2 : Ex H1 (upd H1 a2 (.tup [])) := Ex.nw h2
    have g2 : (upd H1 a2 (.tup [])) a2 = some (.tup []) := upd_same
    generalize upd H1 a2 (.tup []) = H2 at h3 e2 g2 ⊢
    have e3 : Ex H2 (upd H2 a3 (.dK [])) := Ex.nw h3
    have g3 : (upd H2 a3 (.dK [])) a3 = some (.dK []) := upd_same
    generalize upd H2 a3 (.dK []) = H3 at e3 g3 ⊢
    intro a4 h4
    refine ⟨upd_same, [(.inl 1, .int 2)], rfl, by decide, ?_⟩
    rw [upd_upd]
    have e4 : Ex H3 (upd H3 a4 (.dK (mergeK [] [((.inl 1 : Key), V.int 2)]))) := Ex.nw h4
    have g4 : (upd H3 a4 (.dK (mergeK [] [((.inl 1 : Key), V.int 2)]))) a4 = some (.dK (mergeK [] [((.inl 1 : Key), V.int 2)])) := upd_same
    generalize upd H3 a4 (.dK (mergeK [] [((.inl 1 : Key), V.int 2)])) = H4 at e4 g4 ⊢
    refine ⟨(show 1 ≤ sizeLine by decide), fun a5 h5 => ?_⟩
    have e5 : Ex H4 (upd H4 a5 (.lst [.non])) := Ex.nw h5
    have g5 : (upd H4 a5 (.lst [.non])) a5 = some (.lst [.non]) := upd_same
    generalize upd H4 a5 (.lst [.non]) = H5 at e5 g5 ⊢
    refine ⟨(show 1 ≤ sizeLine by decide), fun a6 h6 => ?_⟩
    have e6 : Ex H5 (upd H5 a6 (.tup [.int 4])) := Ex.nw h6
    have g6 : (upd H5 a6 (.tup [.int 4])) a6 = some (.tup [.int 4]) := upd_same
    generalize upd H5 a6 (.tup [.int 4]) = H6 at e6 g6 ⊢
    refine ⟨(show 12 ≤ sizeLine by decide), fun a7 h7 => ?_⟩
    have e7 := Ex.nw (H := H6) (o := .lst [.non, .bl true, .bl false, .str "", .str "7", .ref a1, .ref a2, .ref a3, .ref a4, .str "a", .ref a5, .ref a6]) h7
    have g7 : (upd H6 a7 (.lst [.non, .bl true, .bl false, .str "", .str "7", .ref a1, .ref a2, .ref a3, .ref a4, .str "a", .ref a5, .ref a6])) a7 = some (.lst [.non, .bl true, .bl false, .str "", .str "7", .ref a1, .ref a2, .ref a3, .ref a4, .str "a", .ref a5, .ref a6]) := upd_same
    show spPick [.ref p, .ref a7] (upd H6 a7 (.lst [.non, .bl true, .bl false, .str "", .str "7", .ref a1, .ref a2, .ref a3, .ref a4, .str "a", .ref a5, .ref a6])) Q E0
    generalize upd H6 a7 (.lst [.non, .bl true, .bl false, .str "", .str "7", .ref a1, .ref a2, .ref a3, .ref a4, .str "a", .ref a5, .ref a6]) = H7 at e7 g7 ⊢
    have x1 := e1
    have x2 := x1.tr e2
    have x3 := x2.tr e3
    have x4 := x3.tr e4
    have x5 := x4.tr e5
    have x6 := x5.tr e6
    have x7 := x6.tr e7
    have n1 := r.ne h1
    have n2 := r.ne (x1.no h2)
    have n3 := r.ne (x2.no h3)
    have n4 := r.ne (x3.no h4)
    have n5 := r.ne (x4.no h5)
    have n6 := r.ne (x5.no h6)
    have n7 := r.ne (x6.no h7)
    have all : ∀ v : V, v ∈ [V.non, .bl true, .bl false, .str "", .str "7", .ref a1, .ref a2, .ref a3, .ref a4, .str "a", .ref a5, .ref a6] → Kd p H7 v ∧ wh v = false ∧ Sh v ∧ (∀ xs, its H7 v = some xs → xs.all Fl = true) := by
      intro v hv
      simp only [List.mem_cons, List.not_mem_nil, or_false] at hv
      rcases hv with rfl | rfl | rfl | rfl | rfl | rfl | rfl | rfl | rfl | rfl | rfl | rfl
      · exact ⟨.non, rfl, fun z e => (by cases e), fun xs e => by cases e⟩
      · exact ⟨.bl _, rfl, fun z e => (by cases e), fun xs e => by cases e⟩
      · exact ⟨.bl _, rfl, fun z e => (by cases e), fun xs e => by cases e⟩
      · exact ⟨.str _, rfl, fun z e => (by cases e; decide), fun xs e => by cases e⟩
      · exact ⟨.str _, rfl, fun z e => (by cases e; decide), fun xs e => by cases e⟩
      · exact ⟨Kd.l1 n1 (e7 _ _ (e6 _ _ (e5 _ _ (e4 _ _ (e3 _ _ (e2 _ _ g1)))))) (.int 3), rfl, fun z e => (by cases e), fun xs e => by rw [its_lst (e7 _ _ (e6 _ _ (e5 _ _ (e4 _ _ (e3 _ _ (e2 _ _ g1))))))] at e; cases e; rfl⟩
      · exact ⟨Kd.t0 n2 (e7 _ _ (e6 _ _ (e5 _ _ (e4 _ _ (e3 _ _ g2))))), rfl, fun z e => (by cases e), fun xs e => by rw [its_tup (e7 _ _ (e6 _ _ (e5 _ _ (e4 _ _ (e3 _ _ g2)))))] at e; cases e; rfl⟩
      · exact ⟨.dK n3 (e7 _ _ (e6 _ _ (e5 _ _ (e4 _ _ g3)))), rfl, fun z e => (by cases e), fun xs e => by rw [its_dK (e7 _ _ (e6 _ _ (e5 _ _ (e4 _ _ g3))))] at e; cases e⟩
      · exact ⟨.dK n4 (e7 _ _ (e6 _ _ (e5 _ _ g4))), rfl, fun z e => (by cases e), fun xs e => by rw [its_dK (e7 _ _ (e6 _ _ (e5 _ _ g4)))] at e; cases e⟩
      · exact ⟨.str _, rfl, fun z e => (by cases e; decide), fun xs e => by cases e⟩
      · exact ⟨Kd.l1 n5 (e7 _ _ (e6 _ _ g5)) .non, rfl, fun z e => (by cases e), fun xs e => by rw [its_lst (e7 _ _ (e6 _ _ g5))] at e; cases e; rfl⟩
      · exact ⟨Kd.t1 n6 (e7 _ _ g6) (.int 4), rfl, fun z e => (by cases e), fun xs e => by rw [its_tup (e7 _ _ g6)] at e; cases e; rfl⟩
    exact ⟨p, c, .ref a7, n, rfl, r.kp x7, by omega, .inl ⟨a7, _, rfl, n7, g7, by simp, by show 12 < 1000000; decide, fun v H' hv r' kp =>
      let ⟨kd, w0, sh, fl⟩ := all v hv
      k v H' (kd.kp kp) w0 sh (fun xs e => fl xs ((its_ex kp kd).symm.trans e)) r' (x7.kp.tr kp)⟩⟩
end
end Mine
namespace Mine
open PySem PySem.Spec PyProof.Rows L2 GL
section
variable {P : Program} {w : World} {K : PySem.W.Frag} {mg : Str → Option Value} {base : Heap} {fs : Nat → Addr} {fd : Nat → FuncData} {tk : Nat → Tok}
theorem ok_are_integers (T : Txt K mg fs fd tk) : FnG P w K mg base CX0 2 (fs 2) (fd 2) P_are_integers spAre := by
  refine Fun.okG T.f_are_integers sc_are_integers (fun vs H Q E h => ?_) (fun cd A out s H vs Q E gd hr h => ?_)
  · obtain ⟨p, v, rfl, _⟩ := h
    rfl
  · obtain ⟨p, v, rfl, hv, k⟩ := h
    refine ⟨_, PSs.nox ((pss_cons (ps_if (pt_not (pt_val (pe_callB call_isiT (by rfl) T.z_isinstance (by decide +kernel) (pa_cons (pv 0) (pa_cons (pe_tup (pa_cons (pe_bltn (v := .ty "list") (u := .type "list") (by rfl) T.z_list (by decide +kernel) rfl) (pa_cons (pe_bltn (v := .ty "tuple") (u := .type "tuple") (by rfl) T.z_tuple (by decide +kernel) rfl) pa_nil))) pa_nil)))))
        (pss_one (ps_ret (pe_bl)))
        pss_nil)
      (pss_one (ps_ret (pe_callB (cr_all rfl) (by rfl) T.z_all (by decide +kernel) (pa_cons (pe_lc (own := [("item", 1)]) (g := gName 1) (tt := tYes) rfl sc_are_integers.nd (pi_seq (pv 0) (pv 0)) (blkOk_by (own := [("item", 1)]) (N := N_are_integers) (sc := defScope s_are_integers) (by decide +kernel)) (fun _ _ _ _ _ => (pg_name (i := 1) sc_are_integers.nd rfl (Or.inl rfl))) (fun _ _ _ _ _ => pts_nil) (fun _ _ _ _ _ => pg_call (ok_is_integer T) gd (hr.mono (by decide)) (by rfl) T.m_is_integer T.f_is_integer.kp (b_is_integer T) .nil pass0 (pa_cons (pv 1) pa_nil))) pa_nil)))))), ?_⟩
    refine rd_isi2 (c := "list") (d := "tuple") rfl hv (by decide) (by decide) fun H1 e1 => ⟨_, rfl, ?_⟩
    rw [seq_ty hv]
    cases e : its H v with
    | none =>
      have ek : areI H v = false := by unfold areI; rw [e]
      rw [ek] at k
      exact iteT (k H1 e1)
    | some xs =>
      have ek : areI H v = xs.all wh := by unfold areI; rw [e]
      rw [ek] at k
      have hv1 := hv.ex e1
      have ei : its H1 v = some xs := (its_ex (Ex.kp e1) hv).trans e
      have kd := its_kd hv1 ei
      refine iteF ?_
      dsimp only [tNext, tSeq, tRet, tCB, tCons, tNil]
      refine lc_map (Src.nameS (p := p) (i := 0) (v := v) ?hi hv1 ei) (by have := its_len hv1 ei; omega) (fun x => V.bl (wh x)) (fun x hx H2 e2 Q1 q1 => ?_) fun D H2 _ hD e2 => ?_
      case hi => rfl
      · exact ⟨_, rfl, p, x, rfl, (kd x hx).ex e2, q1⟩
      · refine ⟨D, xs.map wh, rfl, SqL.of (by rw [hD, List.map_map]; rfl), ?_⟩
        have : (xs.map wh).all id = xs.all wh := by rw [List.all_map]; rfl
        rw [this]
        exact k H2 (e1.tr e2)
theorem ok_is_lot (T : Txt K mg fs fd tk) : FnG P w K mg base CX0 3 (fs 3) (fd 3) P_is_lot spLot := by
  refine Fun.okG T.f_is_lot sc_is_lot (fun vs H Q E h => ?_) (fun cd A out s H vs Q E gd hr h => ?_)
  · obtain ⟨p, v, many, rfl, _⟩ := h
    rfl
  · obtain ⟨p, v, many, rfl, hv, k⟩ := h
    refine ⟨_, PSs.nox ((pss_cons (ps_if (pt_not (pt_val (pg_call (ok_are_integers T) gd (hr.mono (by decide)) (by rfl) T.m_are_integers T.f_are_integers.kp (b_are_integers T) .nil pass0 (pa_cons (pv 0) pa_nil))))
        (pss_one (ps_ret (pe_bl)))
        pss_nil)
      (pss_cons (ps_set (i := 2) sc_is_lot.nd rfl (by first | exact Or.inl rfl | exact Or.inr rfl) (pe_int))
      (pss_cons (ps_for PassesOwn.never rfl (pi_seq (pv 0) (pv 0)) (pg_name (i := 3) sc_is_lot.nd rfl (by first | exact Or.inl rfl | exact Or.inr rfl))
        (pss_cons (ps_if (PW.pt (pw_or (pt_cmpR op_lt (pv 3) (pv 2) (nomark _)) (pw_or1 (pt_cmpR op_ge (pv 3) (pv 1) (nomark _)))))
          (pss_one (ps_ret (pe_bl)))
          pss_nil)
        (pss_one (ps_set (i := 2) sc_is_lot.nd rfl (by first | exact Or.inl rfl | exact Or.inr rfl) (pe_op op_add (pv 3) (pe_int))))))
      (pss_one (ps_ret (pe_bl))))))), ?_⟩
    refine ⟨_, rfl, p, v, rfl, hv, fun H1 e1 => ⟨_, rfl, ?_⟩⟩
    cases ea : areI H v with
    | false =>
      have ek : isLot H v many = false := by
        unfold isLot
        unfold areI at ea
        cases e : its H v with
        | none => rfl
        | some xs => rw [e] at ea; show (xs.all wh && lotB many 0 xs) = false; rw [show xs.all wh = false from ea]; rfl
      rw [ek] at k
      exact iteT (k H1 e1)
    | true =>
      refine iteF ?_
      have hv1 := hv.ex e1
      unfold areI at ea
      cases e : its H v with
      | none => rw [e] at ea; cases ea
      | some xs =>
        rw [e] at ea
        have ea : xs.all wh = true := ea
        have ek : isLot H v many = lotB many 0 xs := by unfold isLot; rw [e]; show (xs.all wh && lotB many 0 xs) = _; rw [ea]; rfl
        rw [ek] at k
        have ei : its H1 v = some xs := (its_ex (Ex.kp e1) hv).trans e
        refine for_src (Src.nameS (p := p) rfl hv1 ei) (fun H2 i σ' H3 => Ex H2 H3 ∧ ∃ (least : Int) (y : Option V), σ' = [some v, some (.int many), some (.int least), y] ∧ lotB many 0 xs = lotB many least (xs.drop i)) (fun H2 e2 => ⟨Ex.rfl' _, 0, none, rfl, rfl⟩) (fun H2 i σ' H3 g => Ex.kp g.1) ?_ ?_
        · rintro H2 i x σ' H3 e2 hx ⟨e3, least, y, rfl, el⟩
          have hw : wh x = true := List.all_eq_true.mp ea x (List.mem_of_getElem? hx)
          obtain ⟨z, rfl⟩ := wh_int hw
          have hd : xs.drop i = .int z :: xs.drop (i + 1) := by
            have hi := lt_of_get hx
            rw [List.drop_eq_getElem_cons hi]
            rw [List.getElem?_eq_getElem hi] at hx
            rw [Option.some.inj hx]
          rw [hd] at el
          -- if number < least or number >= many
          refine ⟨_, rfl, _, rfl, z, least, rfl, rfl, _, rfl, ?_⟩
          by_cases c1 : z < least
          · rw [decide_eq_true c1]
            have : lotB many least (V.int z :: xs.drop (i + 1)) = false := by show (if z < least ∨ many ≤ z then false else _) = false; rw [if_pos (.inl c1)]
            rw [el, this] at k
            exact iteT (iteT (k H3 (e1.tr (e2.tr e3))))
          · rw [decide_eq_false c1]
            refine iteF ⟨_, rfl, _, rfl, z, many, rfl, rfl, _, rfl, ?_⟩
            by_cases c2 : many ≤ z
            · rw [decide_eq_true c2]
              have : lotB many least (V.int z :: xs.drop (i + 1)) = false := by show (if z < least ∨ many ≤ z then false else _) = false; rw [if_pos (.inr c2)]
              rw [el, this] at k
              exact iteT (k H3 (e1.tr (e2.tr e3)))
            · rw [decide_eq_false c2]
              refine iteF ⟨_, rfl, z, 1, rfl, rfl, e3, z + 1, some (.int z), rfl, ?_⟩
              rw [el]
              show (if z < least ∨ many ≤ z then false else _) = _
              rw [if_neg (by omega)]
        · rintro H2 σ' H3 e2 ⟨e3, least, y, rfl, el⟩
          rw [List.drop_length] at el
          rw [el] at k
          exact k H3 (e1.tr (e2.tr e3))
def sign : V → Nat
  | .str y => y.cps.getD 0 0
  | _ => 0
theorem ok_is_name (T : Txt K mg fs fd tk) : FnG P w K mg base CX0 3 (fs 4) (fd 4) P_is_name spName := by
  refine Fun.okG T.f_is_name sc_is_name (fun vs H Q E h => ?_) (fun cd A out s H vs Q E gd hr h => ?_)
  · obtain ⟨p, v, rfl, _⟩ := h
    rfl
  · obtain ⟨p, v, rfl, hv, sh, k⟩ := h
    refine ⟨_, PSs.nox ((pss_cons (ps_if (PW.pt (pw_or (pt_not (pt_val (pe_callB call_isi (by rfl) T.z_isinstance (by decide +kernel) (pa_cons (pv 0) (pa_cons (pe_bltn (v := .ty "str") (u := .type "str") (by rfl) T.z_str (by decide +kernel) rfl) pa_nil))))) (pw_or1 (pt_not (pt_val (pg_call (ok_is_within T) gd (hr.mono (by decide)) (by rfl) T.m_is_within T.f_is_within.kp (b_is_within T) .nil pass0 (pa_cons (pe_callB call_len_str (by rfl) T.z_len (by decide +kernel) (pa_cons (pv 0) pa_nil)) (pa_cons (pe_int) (pa_cons (pe_glob (v := .int 12) (by rfl) T.c_LONGEST_NAME ⟨_, rfl⟩) pa_nil)))))))))
        (pss_one (ps_ret (pe_bl)))
        pss_nil)
      (pss_one (ps_ret (pe_callB (cr_all rfl) (by rfl) T.z_all (by decide +kernel) (pa_cons (pe_lc (own := [("letter", 1)]) (g := gName 1) (tt := tYes) rfl sc_is_name.nd (pi_str (pv 0)) (blkOk_by (own := [("letter", 1)]) (N := N_is_name) (sc := defScope s_is_name) (by decide +kernel)) (fun _ _ _ _ _ => (pg_name (i := 1) sc_is_name.nd rfl (Or.inl rfl))) (fun _ _ _ _ _ => pts_nil) (fun _ _ _ _ _ => pe_cmpR op_in_sign (pv 1) (pe_glob (v := .str "abcdefghijklmnopqrstuvwxyz") (by rfl) T.c_LETTERS ⟨_, rfl⟩) (by rfl))) pa_nil)))))), ?_⟩
    refine rd_isi (c := "str") rfl hv (by decide) ⟨_, rfl, ?_⟩
    by_cases c : ∃ z, v = .str z
    · obtain ⟨z, rfl⟩ := c
      have hz := sh z rfl
      refine iteF ?_
      refine ⟨_, rfl, z, rfl, sz_le (by omega), p, .int z.length, some 1, some 12, rfl, .int _, fun H1 e1 => ⟨_, rfl, ?_⟩⟩
      have hw : within (V.int (z.length : Int)) (some 1) (some 12) = (decide (1 ≤ z.length) && decide (z.length ≤ 12)) := by
        show (decide ((1 : Int) ≤ (z.length : Int)) && decide ((z.length : Int) ≤ 12)) = _
        congr 1 <;> (apply decide_eq_decide.mpr; omega)
      rw [hw]
      have ek : isNm (V.str z) = ((decide (1 ≤ z.length) && decide (z.length ≤ 12)) && z.cps.toList.all fun c => decide (c ∈ LET.cps.toList)) := rfl
      rw [ek] at k
      cases cw : (decide (1 ≤ z.length) && decide (z.length ≤ 12)) with
      | false =>
        rw [cw] at k
        exact iteT (k H1 e1)
      | true =>
        rw [cw, Bool.true_and] at k
        refine iteF ?_
        dsimp only [tNext, tSeq, tRet, tCB, tCons, tNil]
        refine lc_map (Src.str (p := p) (z := z) ?hi) ?hz (fun x => V.bl (decide (sign x ∈ LET.cps.toList))) (fun x hx H2 e2 Q1 q1 => ?_) fun D H2 _ hD e2 => ?_
        case hi => exact fun Q q => ⟨_, rfl, q H1 (Ex.rfl' H1)⟩
        case hz => rw [List.length_map, Array.length_toList]; show z.length ≤ _; omega
        · obtain ⟨c, _, rfl⟩ := List.mem_map.mp hx
          exact ⟨_, rfl, c, LET, rfl, rfl, q1 H2 (Ex.rfl' H2)⟩
        · refine ⟨D, z.cps.toList.map fun c => decide (c ∈ LET.cps.toList), rfl, SqL.of (by rw [hD, List.map_map, List.map_map]; rfl), ?_⟩
          have : (z.cps.toList.map fun c => decide (c ∈ LET.cps.toList)).all id = z.cps.toList.all fun c => decide (c ∈ LET.cps.toList) := by rw [List.all_map]; rfl
          rw [this]
          exact k H2 (e1.tr e2)
    · have h1 : isT (tyN H v) "str" = false := by
        cases hv with
        | non => show isT "NoneType" "str" = false; decide
        | bl b => show isT "bool" "str" = false; decide
        | int i => show isT "int" "str" = false; decide
        | str z => exact absurd ⟨z, rfl⟩ c
        | lst n e _ _ => rw [tyN_lst e]; decide
        | tup n e _ _ => rw [tyN_tup e]; decide
        | dK n e => rw [tyN_dK e]; decide
      have h2 : isNm v = false := by
        cases v <;> first | rfl | exact absurd ⟨_, rfl⟩ c
      rw [h1]
      rw [h2] at k
      exact iteT (iteT (k H (Ex.rfl' H)))
end
end Mine
namespace Mine
open PySem PySem.Spec PyProof.Rows L2 GL
section
variable {P : Program} {w : World} {K : PySem.W.Frag} {mg : Str → Option Value} {base : Heap} {fs : Nat → Addr} {fd : Nat → FuncData} {tk : Nat → Tok}
theorem ok_Lnumbers_right (T : Txt K mg fs fd tk) : FnG P w K mg base CX0 4 (fs 10) (fd 10) P_Lnumbers_right spPart := by
  refine Fun.okG T.f_Lnumbers_right sc_Lnumbers_right (fun vs H Q E h => ?_) (fun cd A out s H vs Q E gd hr h => ?_)
  · obtain ⟨p, c, n, rfl, _⟩ := h
    rfl
  · obtain ⟨p, c, n, rfl, r, hn, k⟩ := h
    refine ⟨_, PSs.nox ((pss_cons (ps_par (i := 1) (j := 2) (by rfl) sc_Lnumbers_right.nd rfl rfl (by decide) rfl rfl (pa_cons (pg_call (ok_Lpick T) gd (hr.mono (by decide)) (by rfl) T.m_Lpick T.f_Lpick.kp (b_Lpick T) .nil pass0 (pa_cons (pv 0) (pa_cons (pe_lst (pa_cons (pe_int) (pa_cons (pe_int) (pa_cons (pe_un un_neg (pe_int)) (pa_cons (pe_op op_pow (pe_int) (pe_int)) (pa_cons (pe_un un_neg (pe_op op_pow (pe_int) (pe_int))) (pa_cons (pe_op op_sub (pg_call (ok_Lturn_of T) gd (hr.mono (by decide)) (by rfl) T.m_Lturn_of T.f_Lturn_of.kp (b_Lturn_of T) .nil pass0 (pa_cons (pv 0) (pa_cons (pe_int) pa_nil))) (pe_int)) pa_nil))))))) pa_nil))) (pa_cons (pg_call (ok_Lodd T) gd (hr.mono (by decide)) (by rfl) T.m_Lodd T.f_Lodd.kp (b_Lodd T) .nil pass0 (pa_cons (pv 0) pa_nil)) pa_nil)) (by rfl))
      (pss_cons (ps_par (i := 3) (j := 4) (by rfl) sc_Lnumbers_right.nd rfl rfl (by decide) rfl rfl (pa_cons (pe_op op_add (pe_op op_sub (pv 1) (pe_int)) (pg_call (ok_Lturn_of T) gd (hr.mono (by decide)) (by rfl) T.m_Lturn_of T.f_Lturn_of.kp (b_Lturn_of T) .nil pass0 (pa_cons (pv 0) (pa_cons (pe_int) pa_nil)))) (pa_cons (pe_op op_add (pe_op op_sub (pv 1) (pe_int)) (pg_call (ok_Lturn_of T) gd (hr.mono (by decide)) (by rfl) T.m_Lturn_of T.f_Lturn_of.kp (b_Lturn_of T) .nil pass0 (pa_cons (pv 0) (pa_cons (pe_int) pa_nil)))) pa_nil)) (by rfl))
      (pss_cons (ps_set (i := 5) sc_Lnumbers_right.nd rfl (by first | exact Or.inl rfl | exact Or.inr rfl) (pe_lst (pa_cons (pg_call (ok_is_integer T) gd (hr.mono (by decide)) (by rfl) T.m_is_integer T.f_is_integer.kp (b_is_integer T) .nil pass0 (pa_cons (pv 1) pa_nil)) (pa_cons (pg_callK0 (ok_is_integer T) gd (hr.mono (by decide)) (by rfl) T.m_is_integer T.f_is_integer.kp (kw_is_integer_0_value T) pass0 (pk_cons (pv 2) pk_nil)) (pa_cons (pg_call (ok_is_within T) gd (hr.mono (by decide)) (by rfl) T.m_is_within T.f_is_within.kp (b_is_within T) .nil pass0 (pa_cons (pv 1) (pa_cons (pv 3) (pa_cons (pv 4) pa_nil)))) (pa_cons (pg_callK0 (ok_is_within T) gd (hr.mono (by decide)) (by rfl) T.m_is_within T.f_is_within.kp (kw_is_within_0_most_least_value T) pass0 (pk_cons (pv 4) (pk_cons (pe_non) (pk_cons (pv 1) pk_nil)))) pa_nil))))))
      (pss_cons (ps_set (i := 5) sc_Lnumbers_right.nd rfl (by first | exact Or.inl rfl | exact Or.inr rfl) (pe_op op_cat (pv 5) (pe_lst (pa_cons (pg_call (ok_is_within T) gd (hr.mono (by decide)) (by rfl) T.m_is_within T.f_is_within.kp (b_is_within T) .nil pass0 (pa_cons (pv 1) (pa_cons (pv 3) (pa_cons (pe_non) pa_nil)))) (pa_cons (pg_call (ok_is_within T) gd (hr.mono (by decide)) (by rfl) T.m_is_within T.f_is_within.kp (b_is_within T) .nil pass0 (pa_cons (pv 1) (pa_cons (pe_non) (pa_cons (pe_non) pa_nil)))) (pa_cons (pg_call (ok_is_within T) gd (hr.mono (by decide)) (by rfl) T.m_is_within T.f_is_within.kp (b_is_within T) .nil pass0 (pa_cons (pv 2) (pa_cons (pe_non) (pa_cons (pe_non) pa_nil)))) (pa_cons (pg_call (ok_is_within T) gd (hr.mono (by decide)) (by rfl) T.m_is_within T.f_is_within.kp (b_is_within T) .nil pass0 (pa_cons (pv 2) (pa_cons (pe_int) (pa_cons (pe_int) pa_nil)))) pa_nil)))))))
      (pss_one (ps_ret (pe_cmpR op_eq (pe_callB (call_reprX gd hr) (by rfl) T.z_repr (by decide +kernel) (pa_cons (pv 5) pa_nil)) (pe_callB (call_reprX gd hr) (by rfl) T.z_repr (by decide +kernel) (pa_cons (pe_lst (pa_cons (pe_bl) (pa_cons (pe_bl) (pa_cons (pe_chain op_le op_le (pv 3) (pv 1) (pv 4)) (pa_cons (pe_cmpR op_le (pv 1) (pv 4) (nomark _)) (pa_cons (pe_cmpR op_le (pv 3) (pv 1) (nomark _)) (pa_cons (pe_bl) (pa_cons (pe_bl) (pa_cons (pe_bl) pa_nil))))))))) pa_nil)) (nomark _))))))))), ?_⟩
    have cp : CPow 10 40 := ⟨by decide, by decide, by decide⟩
    -- number, odd
    refine ⟨_, rfl, 1, rfl, 10, 40, rfl, rfl, cp, 10, 40, rfl, rfl, cp, _, rfl, ?_⟩
    refine ⟨_, rfl, p, c, 300, n, rfl, r, by omega, by decide, by decide, fun r1 H1 _ _ k1 kp1 => ⟨_, _, rfl, rfl, (show 6 ≤ sizeLine by decide), fun a ha => ?_⟩⟩
    have e1 := Ex.nw (H := H1) (o := .lst [.int 0, .int 1, .int (-1), .int (10 ^ (40 : Int).toNat), .int (-(10 ^ (40 : Int).toNat)), .int (r1 - 150)]) ha
    have g1 : (upd H1 a (.lst [.int 0, .int 1, .int (-1), .int (10 ^ (40 : Int).toNat), .int (-(10 ^ (40 : Int).toNat)), .int (r1 - 150)])) a = some (.lst [.int 0, .int 1, .int (-1), .int (10 ^ (40 : Int).toNat), .int (-(10 ^ (40 : Int).toNat)), .int (r1 - 150)]) := upd_same
    refine ⟨p, c, .ref a, n + 1, rfl, k1.kp e1, by omega, .inl ⟨a, _, rfl, k1.ne ha, g1, by simp, by show 6 < 1000000; decide, fun v H2 hv k2 kp2 => ?_⟩⟩
    obtain ⟨i, rfl⟩ : ∃ i, v = .int i := by
      simp only [List.mem_cons, List.not_mem_nil, or_false] at hv
      rcases hv with rfl | rfl | rfl | rfl | rfl | rfl <;> exact ⟨_, rfl⟩
    refine ⟨_, rfl, p, c, n + 1 + 1, rfl, k2, by omega, fun odd H3 kd w0 _ _ k3 kp3 => ?_⟩
    refine ⟨_, _, rfl, ?_⟩
    -- low, high
    refine ⟨_, rfl, _, _, rfl, rfl, _, rfl, p, c, 5, _, rfl, k3, by omega, by decide, by decide, fun r2 H4 _ _ k4 kp4 => ⟨_, _, rfl, rfl, ?_⟩⟩
    refine ⟨_, rfl, _, _, rfl, rfl, _, rfl, p, c, 5, _, rfl, k4, by omega, by decide, by decide, fun r3 H5 _ _ k5 kp5 => ⟨_, _, rfl, rfl, _, _, rfl, ?_⟩⟩
    have kd5 : Kd p H5 odd := (kd.kp kp4).kp kp5
    -- told = [..]
    refine ⟨_, rfl, p, .int i, rfl, .int i, fun H6 e6 => ?_⟩
    refine ⟨_, rfl, rfl, rfl, p, odd, rfl, kd5.ex e6, fun H7 e7 => ?_⟩
    refine ⟨_, rfl, _, rfl, _, rfl, p, .int i, some (i - 2 + r2), some (i - 2 + r3), rfl, .int i, fun H8 e8 => ?_⟩
    refine ⟨_, rfl, _, rfl, rfl, rfl, p, .int i, none, some (i - 2 + r3), rfl, .int i, fun H9 e9 => ?_⟩
    refine ⟨(show 4 ≤ sizeLine by decide), fun b hb => ?_⟩
    have e10 := Ex.nw (H := H9) (o := .lst [.bl (wh (.int i)), .bl (wh odd), .bl (within (.int i) (some (i - 2 + r2)) (some (i - 2 + r3))), .bl (within (.int i) none (some (i - 2 + r3)))]) hb
    have g10 : (upd H9 b (.lst [.bl (wh (.int i)), .bl (wh odd), .bl (within (.int i) (some (i - 2 + r2)) (some (i - 2 + r3))), .bl (within (.int i) none (some (i - 2 + r3)))])) b = some (.lst [.bl (wh (.int i)), .bl (wh odd), .bl (within (.int i) (some (i - 2 + r2)) (some (i - 2 + r3))), .bl (within (.int i) none (some (i - 2 + r3)))]) := upd_same
    have x10 : Ex H5 _ := (((e6.tr e7).tr e8).tr e9).tr e10
    -- told = told + [..]
    refine ⟨_, rfl, _, rfl, _, rfl, p, .int i, some (i - 2 + r2), none, rfl, .int i, fun H11 e11 => ?_⟩
    refine ⟨_, rfl, p, .int i, none, none, rfl, .int i, fun H12 e12 => ?_⟩
    refine ⟨_, rfl, p, odd, none, none, rfl, ((kd5.ex x10).ex e11).ex e12, fun H13 e13 => ?_⟩
    refine ⟨_, rfl, p, odd, some 0, some 9, rfl, (((kd5.ex x10).ex e11).ex e12).ex e13, fun H14 e14 => ?_⟩
    refine ⟨(show 4 ≤ sizeLine by decide), fun c' hc => ?_⟩
    have e15 := Ex.nw (H := H14) (o := .lst [.bl (within (.int i) (some (i - 2 + r2)) none), .bl (within (.int i) none none), .bl (within odd none none), .bl (within odd (some 0) (some 9))]) hc
    have g15 : (upd H14 c' (.lst [.bl (within (.int i) (some (i - 2 + r2)) none), .bl (within (.int i) none none), .bl (within odd none none), .bl (within odd (some 0) (some 9))])) c' = some (.lst [.bl (within (.int i) (some (i - 2 + r2)) none), .bl (within (.int i) none none), .bl (within odd none none), .bl (within odd (some 0) (some 9))]) := upd_same
    have x15 := (((e11.tr e12).tr e13).tr e14).tr e15
    refine ⟨b, c', _, _, rfl, rfl, x15 _ _ g10, g15, (show 8 ≤ sizeLine by decide), fun d hd => ?_⟩
    have wo : ∀ l m, within odd l m = false := fun l m => by cases odd <;> first | rfl | cases w0
    have g16 := upd_same (H := upd H14 c' (.lst [.bl (within (.int i) (some (i - 2 + r2)) none), .bl (within (.int i) none none), .bl (within odd none none), .bl (within odd (some 0) (some 9))])) (a := d) (o := .lst (([true, wh odd, within (.int i) (some (i - 2 + r2)) (some (i - 2 + r3)), within (.int i) none (some (i - 2 + r3)), within (.int i) (some (i - 2 + r2)) none, within (.int i) none none, within odd none none, within odd (some 0) (some 9)] : List Bool).map V.bl))
    refine ⟨_, rfl, .inl ⟨d, _, rfl, g16, (show 8 ≤ 1000 by decide), ?_⟩⟩
    refine va_chain (va_var rfl) (va_var rfl) (va_var rfl) _ ?_
    refine ⟨_, rfl, _, rfl, _, _, rfl, rfl, _, rfl, _, rfl, _, _, rfl, rfl, (show 8 ≤ sizeLine by decide), fun f hf => ?_⟩
    have eb : ([true, wh odd, within (V.int i) (some (i - 2 + r2)) (some (i - 2 + r3)), within (V.int i) none (some (i - 2 + r3)), within (V.int i) (some (i - 2 + r2)) none, within (V.int i) none none, within odd none none, within odd (some 0) (some 9)] : List Bool) =
        [true, false, decide (i - 2 + r2 ≤ i) && decide (i ≤ i - 2 + r3), decide (i ≤ i - 2 + r3), decide (i - 2 + r2 ≤ i), true, false, false] := by
      rw [wo, wo, w0]
      simp [within]
    refine .inl ⟨f, [true, false, decide (i - 2 + r2 ≤ i) && decide (i ≤ i - 2 + r3), decide (i ≤ i - 2 + r3), decide (i - 2 + r2 ≤ i), true, false, false], rfl, upd_same, (show 8 ≤ 1000 by decide), rfl, ?_⟩
    rw [eb, decide_eq_true rfl]
    exact k _ ((((k5.kp x10).kp x15).kp (Ex.nw hd)).kp (Ex.nw hf) |>.more (by omega))
end
end Mine
namespace Mine
open PySem PySem.Spec PyProof.Rows L2 GL
theorem all_ints (ns : List Int) : (ns.map V.int).all wh = true := by
  rw [List.all_map]; exact List.all_eq_true.mpr fun _ _ => rfl
theorem kd_ints {p a : Addr} {H : Hp} {ns : List Int} (n : a ≠ p) (e : H a = some (.lst (ns.map V.int))) (z : ns.length ≤ 100000) : Kd p H (.ref a) :=
  .lst n e (by rw [List.length_map]; exact z) fun x hx => by obtain ⟨i, _, rfl⟩ := List.mem_map.mp hx; exact .int i
theorem areI_ex {p : Addr} {H H' : Hp} {v : V} (k : Kp p H H') (h : Kd p H v) : areI H' v = areI H v := by unfold areI; rw [its_ex k h]
theorem areI_l {H : Hp} {a : Addr} {xs : List V} (e : H a = some (.lst xs)) : areI H (.ref a) = xs.all wh := by unfold areI; rw [its_lst e]
theorem areI_t {H : Hp} {a : Addr} {xs : List V} (e : H a = some (.tup xs)) : areI H (.ref a) = xs.all wh := by unfold areI; rw [its_tup e]
section
variable {P : Program} {w : World} {K : PySem.W.Frag} {mg : Str → Option Value} {base : Heap} {fs : Nat → Addr} {fd : Nat → FuncData} {tk : Nat → Tok}
theorem ok_Llists_right (T : Txt K mg fs fd tk) : FnG P w K mg base CX0 4 (fs 11) (fd 11) P_Llists_right spPart := by
  refine Fun.okG T.f_Llists_right sc_Llists_right (fun vs H Q E h => ?_) (fun cd A out s H vs Q E gd hr h => ?_)
  · obtain ⟨p, c, n, rfl, _⟩ := h
    rfl
  · obtain ⟨p, c, n, rfl, r, hn, k⟩ := h
    refine ⟨_, PSs.nox ((pss_cons (ps_setLc (i := 1) (own := [("turn", 2)]) (g := gName 2) (tt := tYes) rfl sc_Llists_right.nd rfl rfl (sw_true rfl rfl rfl (by decide +kernel)) (pi_range1 (by rfl) T.z_range (pa_cons (pg_call (ok_Lturn_of T) gd (hr.mono (by decide)) (by rfl) T.m_Lturn_of T.f_Lturn_of.kp (b_Lturn_of T) .nil pass0 (pa_cons (pv 0) (pa_cons (pe_int) pa_nil))) pa_nil)) (blkOk_by (own := [("turn", 2)]) (N := N_Llists_right) (sc := defScope s_Llists_right) (by decide +kernel)) (fun _ _ _ _ _ => (pg_name (i := 2) sc_Llists_right.nd rfl (Or.inl rfl))) (fun _ _ _ _ _ => pts_nil) (fun _ _ _ _ _ => pg_call (ok_Lpick T) gd (hr.mono (by decide)) (by rfl) T.m_Lpick T.f_Lpick.kp (b_Lpick T) .nil pass0 (pa_cons (pv 0) (pa_cons (pe_lst (pa_cons (pe_int) (pa_cons (pe_un un_neg (pe_int)) (pa_cons (pe_int) (pa_cons (pe_op op_pow (pe_int) (pe_int)) (pa_cons (pg_call (ok_Lturn_of T) gd (hr.mono (by decide)) (by rfl) T.m_Lturn_of T.f_Lturn_of.kp (b_Lturn_of T) .nil pass0 (pa_cons (pv 0) (pa_cons (pe_int) pa_nil))) pa_nil)))))) pa_nil))))
      (pss_cons (ps_par (i := 3) (j := 4) (by rfl) sc_Llists_right.nd rfl rfl (by decide) rfl rfl (pa_cons (pg_call (ok_Lpick T) gd (hr.mono (by decide)) (by rfl) T.m_Lpick T.f_Lpick.kp (b_Lpick T) .nil pass0 (pa_cons (pv 0) (pa_cons (pe_lst (pa_cons (pg_call (ok_Lodd T) gd (hr.mono (by decide)) (by rfl) T.m_Lodd T.f_Lodd.kp (b_Lodd T) .nil pass0 (pa_cons (pv 0) pa_nil)) (pa_cons (pg_call (ok_Lodd T) gd (hr.mono (by decide)) (by rfl) T.m_Lodd T.f_Lodd.kp (b_Lodd T) .nil pass0 (pa_cons (pv 0) pa_nil)) (pa_cons (pe_int) pa_nil)))) pa_nil))) (pa_cons (pg_call (ok_Lturn_of T) gd (hr.mono (by decide)) (by rfl) T.m_Lturn_of T.f_Lturn_of.kp (b_Lturn_of T) .nil pass0 (pa_cons (pv 0) (pa_cons (pe_op op_add (pe_callB call_len_seq (by rfl) T.z_len (by decide +kernel) (pa_cons (pv 1) pa_nil)) (pe_int)) pa_nil))) pa_nil)) (by rfl))
      (pss_cons (ps_set (i := 5) sc_Llists_right.nd rfl (by first | exact Or.inl rfl | exact Or.inr rfl) (pe_op op_cat (pe_op op_cat (pe_slice sl_list (pv 1) po_none (po_some (pv 4))) (pe_lst (pa_cons (pv 3) pa_nil))) (pe_slice sl_list (pv 1) (po_some (pv 4)) po_none)))
      (pss_cons (ps_set (i := 6) sc_Llists_right.nd rfl (by first | exact Or.inl rfl | exact Or.inr rfl) (pe_lst (pa_cons (pg_call (ok_are_integers T) gd (hr.mono (by decide)) (by rfl) T.m_are_integers T.f_are_integers.kp (b_are_integers T) .nil pass0 (pa_cons (pv 1) pa_nil)) (pa_cons (pg_callK0 (ok_are_integers T) gd (hr.mono (by decide)) (by rfl) T.m_are_integers T.f_are_integers.kp (kw_are_integers_0_value T) pass0 (pk_cons (pe_callTy call_tuple_of (by rfl) T.z_tuple (by decide +kernel) (pa_cons (pv 1) pa_nil)) pk_nil)) (pa_cons (pg_call (ok_are_integers T) gd (hr.mono (by decide)) (by rfl) T.m_are_integers T.f_are_integers.kp (b_are_integers T) .nil pass0 (pa_cons (pv 5) pa_nil)) (pa_cons (pg_call (ok_are_integers T) gd (hr.mono (by decide)) (by rfl) T.m_are_integers T.f_are_integers.kp (b_are_integers T) .nil pass0 (pa_cons (pe_callTy call_tuple_of (by rfl) T.z_tuple (by decide +kernel) (pa_cons (pv 5) pa_nil)) pa_nil)) (pa_cons (pg_call (ok_are_integers T) gd (hr.mono (by decide)) (by rfl) T.m_are_integers T.f_are_integers.kp (b_are_integers T) .nil pass0 (pa_cons (pv 3) pa_nil)) pa_nil)))))))
      (pss_cons (ps_set (i := 7) sc_Llists_right.nd rfl (by first | exact Or.inl rfl | exact Or.inr rfl) (pe_lst (pa_cons (pe_bl) (pa_cons (pe_bl) (pa_cons (pg_call (ok_Lwhole T) gd (hr.mono (by decide)) (by rfl) T.m_Lwhole T.f_Lwhole.kp (b_Lwhole T) .nil pass0 (pa_cons (pv 3) pa_nil)) (pa_cons (pg_call (ok_Lwhole T) gd (hr.mono (by decide)) (by rfl) T.m_Lwhole T.f_Lwhole.kp (b_Lwhole T) .nil pass0 (pa_cons (pv 3) pa_nil)) pa_nil))))))
      (Evl.pss_cut (ps_set (i := 8) sc_Llists_right.nd rfl (by first | exact Or.inl rfl | exact Or.inr rfl) (pe_and (pe_callB call_isiT (by rfl) T.z_isinstance (by decide +kernel) (pa_cons (pv 3) (pa_cons (pe_tup (pa_cons (pe_bltn (v := .ty "list") (u := .type "list") (by rfl) T.z_list (by decide +kernel) rfl) (pa_cons (pe_bltn (v := .ty "tuple") (u := .type "tuple") (by rfl) T.z_tuple (by decide +kernel) rfl) pa_nil))) pa_nil))) (pe_one (pe_cmpR (op_eqX hr.units) (pe_lc (own := [("each", 9)]) (g := gName 9) rfl sc_Llists_right.nd (pi_seq (pv 3) (pv 3)) (blkOk_by (own := [("each", 9)]) (N := N_Llists_right) (sc := defScope s_Llists_right) (by decide +kernel)) (fun _ _ _ _ _ => (pg_name (i := 9) sc_Llists_right.nd rfl (Or.inl rfl))) (fun _ _ _ _ _ => (pts_one (pt_not (pt_val (pg_call (ok_Lwhole T) gd (hr.mono (by decide)) (by rfl) T.m_Lwhole T.f_Lwhole.kp (b_Lwhole T) .nil pass0 (pa_cons (pv 9) pa_nil)))))) (fun _ _ _ _ _ => pv 9)) (pe_lst pa_nil) (nomark _)))))
      (pss_one (ps_ret (pe_and (pe_cmpR op_eq (pe_callB (call_reprX gd hr) (by rfl) T.z_repr (by decide +kernel) (pa_cons (pv 6) pa_nil)) (pe_callB (call_reprX gd hr) (by rfl) T.z_repr (by decide +kernel) (pa_cons (pe_op op_cat (pv 7) (pe_lst (pa_cons (pv 8) pa_nil))) pa_nil)) (nomark _)) (pe_and (pe_cmpR op_isBl (pg_call (ok_are_integers T) gd (hr.mono (by decide)) (by rfl) T.m_are_integers T.f_are_integers.kp (b_are_integers T) .nil pass0 (pa_cons (pe_disp (pps_cons (pe_int) (pe_int) pps_nil) (by rfl) (by rfl) (fun z => by cases z) (by decide)) pa_nil)) (pe_bl) (nomark _)) (pe_one (pe_cmpR op_isBl (pg_call (ok_are_integers T) gd (hr.mono (by decide)) (by rfl) T.m_are_integers T.f_are_integers.kp (b_are_integers T) .nil pass0 (pa_cons (pe_str) pa_nil)) (pe_bl) (nomark _)))))))))))))), ?_⟩
    have cp : CPow 10 30 := ⟨by decide, by decide, by decide⟩
    -- row
    refine ⟨_, rfl, p, c, 6, n, rfl, r, by omega, by decide, by decide, fun m H1 m0 m1 k1 _ => ⟨m, rfl, by omega, by omega, fun D hD => ?_⟩⟩
    have nD := k1.ne hD
    have cD := k1.nc hD
    refine lc_range (lo := 0) (n := m.toNat) (fun i H' => ∃ ns : List Int, H' D = some (.lst (ns.map V.int)) ∧ ns.length = i ∧ Rk H' p c (n + 1 + 2 * i)) ⟨[], upd_same, rfl, k1.kp (Ex.nw hD)⟩ ?_ ?_
    · rintro i H2 hi ⟨ns, g2, hl, k2⟩
      refine ⟨rfl, ?_⟩
      refine ⟨_, rfl, 1, rfl, 10, 30, rfl, rfl, cp, _, rfl, p, c, 40, _, rfl, k2, by omega, by decide, by decide, fun r3 H3 _ _ k3 kp3 => ⟨(show 5 ≤ sizeLine by decide), fun a ha => ?_⟩⟩
      have e4 := Ex.nw (H := H3) (o := .lst [.int 0, .int (-1), .int 5, .int (10 ^ (30 : Int).toNat), .int r3]) ha
      have g4 : (upd H3 a (.lst [.int 0, .int (-1), .int 5, .int (10 ^ (30 : Int).toNat), .int r3])) a = some (.lst [.int 0, .int (-1), .int 5, .int (10 ^ (30 : Int).toNat), .int r3]) := upd_same
      refine ⟨p, c, .ref a, _, rfl, k3.kp e4, by omega, .inl ⟨a, _, rfl, k3.ne ha, g4, by simp, by show 5 < 1000000; decide, fun v H5 hv k5 kp5 => ?_⟩⟩
      obtain ⟨j, rfl⟩ : ∃ j, v = .int j := by
        simp only [List.mem_cons, List.not_mem_nil, or_false] at hv
        rcases hv with rfl | rfl | rfl | rfl | rfl <;> exact ⟨_, rfl⟩
      have g5 : H5 D = some (.lst (ns.map V.int)) := kp5 _ _ nD (e4 _ _ (kp3 _ _ nD g2))
      refine ⟨_, g5, (by rw [List.length_map]; exact sz_ok (by omega)), ns ++ [j], ?_, ?_, ?_⟩
      · rw [List.map_append]; exact upd_same
      · rw [List.length_append, hl]; rfl
      · exact k5.up nD cD
    · rintro H2 ⟨ns, g2, hl, k2⟩
      -- new, at
      refine ⟨_, rfl, _, rfl, p, c, _, rfl, k2, by omega, fun o1 H3 kd1 w1 s1 f1 k3 kp3 => ?_⟩
      refine ⟨_, rfl, p, c, _, rfl, k3, by omega, fun o2 H4 kd2 w2 s2 f2 k4 kp4 => ⟨(show 3 ≤ sizeLine by decide), fun a ha => ?_⟩⟩
      have e5 := Ex.nw (H := H4) (o := .lst [o1, o2, .int 8]) ha
      have g5 : (upd H4 a (.lst [o1, o2, .int 8])) a = some (.lst [o1, o2, .int 8]) := upd_same
      refine ⟨p, c, .ref a, _, rfl, k4.kp e5, by omega, .inl ⟨a, _, rfl, k4.ne ha, g5, by simp, by show 3 < 1000000; decide, fun v H5 hv k5 kp5 => ?_⟩⟩
      have gD5 : H5 D = some (.lst (ns.map V.int)) := kp5 _ _ nD (e5 _ _ (kp4 _ _ nD (kp3 _ _ nD g2)))
      have hv5 : Kd p H5 v ∧ (∀ xs, its H5 v = some xs → xs.all Fl = true) := by
        have kd1' := ((kd1.kp kp4).ex e5)
        have kd2' := kd2.ex e5
        simp only [List.mem_cons, List.not_mem_nil, or_false] at hv
        rcases hv with rfl | rfl | rfl
        · refine ⟨kd1'.kp kp5, fun xs e => f1 xs ?_⟩
          rw [its_ex kp5 kd1', its_ex (Ex.kp e5) (kd1.kp kp4), its_ex kp4 kd1] at e
          exact e
        · refine ⟨kd2'.kp kp5, fun xs e => f2 xs ?_⟩
          rw [its_ex kp5 kd2', its_ex (Ex.kp e5) kd2] at e
          exact e
        · exact ⟨.int 8, fun xs e => by cases e⟩
      refine ⟨_, rfl, _, rfl, D, _, rfl, .inl (SqL.of gD5), _, _, rfl, rfl, p, c, _, _, rfl, k5, by omega, ?_, ?_, fun at' H6 a0 a1 k6 kp6 => ⟨_, _, rfl, ?_⟩⟩
      · show (0 : Int) < ((ns.map V.int).length : Int) + 1
        omega
      · show ((ns.map V.int).length : Int) + 1 < 1073741824
        rw [List.length_map]; omega
      have gD6 := kp6 _ _ nD gD5
      have kd6 := hv5.1.kp kp6
      have fl6 : ∀ xs, its H6 v = some xs → xs.all Fl = true := fun xs e => hv5.2 xs (by rw [its_ex kp6 hv5.1] at e; exact e)
      clear kd1 w1 s1 f1 kd2 w2 s2 f2 hv e5 g5 kp3 kp4 kp5 kp6 k3 k4 k5 hv5 gD5 g2 k2 ha
      -- bent
      obtain ⟨x1, ex1, lx1, _⟩ := cut_ints ns none (some at')
      obtain ⟨x2, ex2, lx2, _⟩ := cut_ints ns (some at') none
      refine ⟨_, rfl, _, rfl, at', rfl, D, _, rfl, SqL.of gD6, fun b1 hb1 => ⟨_, rfl, (show 1 ≤ sizeLine by decide), fun b2 hb2 => ?_⟩⟩
      rw [ex1] at hb2 ⊢
      have y1 := Ex.nw (H := H6) (o := .lst (x1.map V.int)) hb1
      have y2 := Ex.nw (o := .lst [v]) hb2
      refine ⟨b1, b2, _, _, rfl, rfl, y2 _ _ upd_same, upd_same, ?_, fun b3 hb3 => ?_⟩
      · rw [List.length_map]; show x1.length + 1 ≤ _; exact sz_le (by omega)
      have y3 := Ex.nw (o := .lst (x1.map V.int ++ [v])) hb3
      have z3 := (y1.tr y2).tr y3
      refine ⟨_, rfl, _, rfl, at', rfl, D, _, rfl, SqL.of (z3 _ _ gD6), fun b4 hb4 => ?_⟩
      rw [ex2] at ⊢
      have y4 := Ex.nw (o := .lst (x2.map V.int)) hb4
      refine ⟨b3, b4, _, _, rfl, rfl, y4 _ _ upd_same, upd_same, ?_, fun b5 hb5 => ?_⟩
      · rw [List.length_append, List.length_map, List.length_map]; show x1.length + 1 + x2.length ≤ _; exact sz_le (by omega)
      have y5 := Ex.nw (o := .lst (x1.map V.int ++ [v] ++ x2.map V.int)) hb5
      have g5 := upd_same (H := upd (upd (upd (upd H6 b1 (.lst (x1.map V.int))) b2 (.lst [v])) b3 (.lst (x1.map V.int ++ [v]))) b4 (.lst (x2.map V.int))) (a := b5) (o := .lst (x1.map V.int ++ [v] ++ x2.map V.int))
      have n5 := k6.ne ((z3.tr y4).no hb5)
      have z5 := (z3.tr y4).tr y5
      have kd7 := kd6.ex z5
      have fl7 : ∀ xs, its _ v = some xs → xs.all Fl = true := fun xs e => fl6 xs (by rw [its_ex (Ex.kp z5) kd6] at e; exact e)
      have gD7 := z5 _ _ gD6
      have k7 := k6.kp z5
      generalize upd (upd (upd (upd (upd H6 b1 (.lst (x1.map V.int))) b2 (.lst [v])) b3 (.lst (x1.map V.int ++ [v]))) b4 (.lst (x2.map V.int))) b5 (.lst (x1.map V.int ++ [v] ++ x2.map V.int)) = H7 at g5 kd7 fl7 gD7 k7 ⊢
      clear y1 y2 y3 y4 y5 z3 z5 hb1 hb2 hb3 hb4 hb5
      -- told
      have kdD : Kd p H7 (.ref D) := kd_ints nD gD7 (by omega)
      have lall : ∀ x, x ∈ x1.map V.int ++ [v] ++ x2.map V.int → Kd p H7 x := by
        intro x hx
        rcases List.mem_append.mp hx with hx | hx
        · rcases List.mem_append.mp hx with hx | hx
          · obtain ⟨i, _, rfl⟩ := List.mem_map.mp hx; exact .int i
          · rw [List.mem_singleton.mp hx]; exact kd7
        · obtain ⟨i, _, rfl⟩ := List.mem_map.mp hx; exact .int i
      have llen : (x1.map V.int ++ [v] ++ x2.map V.int).length ≤ 100000 := by
        rw [List.length_append, List.length_append, List.length_map, List.length_map]; show x1.length + 1 + x2.length ≤ _; omega
      have lwh : (x1.map V.int ++ [v] ++ x2.map V.int).all wh = wh v := by
        rw [List.all_append, List.all_append, all_ints, all_ints]; simp
      have kdB : Kd p H7 (.ref b5) := .lst n5 g5 llen lall
      refine ⟨_, rfl, p, .ref D, rfl, kdD, fun H8 e8 => ?_⟩
      refine ⟨_, rfl, D, _, rfl, .inl ⟨SqL.of (e8 _ _ gD7), fun t1 ht1 => ?_⟩⟩
      have e9 := Ex.nw (o := .tup (ns.map V.int)) ht1
      have m1' := (k7.kp e8).ne ht1
      have q1 : areI (upd H8 t1 (.tup (ns.map V.int))) (.ref t1) = true := by rw [areI_t upd_same, all_ints]
      refine ⟨rfl, rfl, p, .ref t1, rfl, .tup m1' upd_same (by rw [List.length_map]; omega) (fun x hx => by obtain ⟨i, _, rfl⟩ := List.mem_map.mp hx; exact .int i), fun H10 e10 => ?_⟩
      have x10 := (e8.tr e9).tr e10
      refine ⟨_, rfl, p, .ref b5, rfl, kdB.ex x10, fun H11 e11 => ?_⟩
      have x11 := x10.tr e11
      refine ⟨_, rfl, b5, _, rfl, .inl ⟨SqL.of (x11 _ _ g5), fun t2 ht2 => ?_⟩⟩
      have e12 := Ex.nw (o := .tup (x1.map V.int ++ [v] ++ x2.map V.int)) ht2
      have m2' := (k7.kp x11).ne ht2
      have q2 : areI (upd H11 t2 (.tup (x1.map V.int ++ [v] ++ x2.map V.int))) (.ref t2) = wh v := by rw [areI_t upd_same, lwh]
      have x12 := x11.tr e12
      refine ⟨p, .ref t2, rfl, .tup m2' upd_same llen (fun x hx => (lall x hx).ex x12), fun H13 e13 => ?_⟩
      have x13 := x12.tr e13
      refine ⟨_, rfl, p, v, rfl, kd7.ex x13, fun H14 e14 => ⟨(show 5 ≤ sizeLine by decide), fun d hd => ?_⟩⟩
      rw [areI_ex (Ex.kp x13) kd7, areI_ex (Ex.kp x10) kdB, q1, q2, areI_l g5, areI_l gD7, lwh, all_ints]
      have x14 := x13.tr e14
      have e15 := Ex.nw (o := .lst [.bl true, .bl true, .bl (wh v), .bl (wh v), .bl (areI H7 v)]) hd
      have g15 := upd_same (H := H14) (a := d) (o := .lst [.bl true, .bl true, .bl (wh v), .bl (wh v), .bl (areI H7 v)])
      have x15 := x14.tr e15
      generalize upd H14 d (.lst [.bl true, .bl true, .bl (wh v), .bl (wh v), .bl (areI H7 v)]) = H15 at e15 g15 x15 ⊢
      -- due
      refine ⟨_, rfl, p, v, rfl, kd7.ex x15, fun H16 e16 => ⟨_, rfl, p, v, rfl, (kd7.ex x15).ex e16, fun H17 e17 => ⟨(show 4 ≤ sizeLine by decide), fun f hf => ?_⟩⟩⟩
      have e18 := Ex.nw (o := .lst [.bl true, .bl true, .bl (wh v), .bl (wh v)]) hf
      have g18 := upd_same (H := H17) (a := f) (o := .lst [.bl true, .bl true, .bl (wh v), .bl (wh v)])
      have x18 := ((x15.tr e16).tr e17).tr e18
      have g18d := e18 _ _ (e17 _ _ (e16 _ _ g15))
      generalize upd H17 f (.lst [.bl true, .bl true, .bl (wh v), .bl (wh v)]) = H18 at e18 g18 x18 g18d ⊢
      clear hd hf e8 e9 e10 e11 e12 e13 e14 e15 e16 e17 e18 x10 x11 x12 x13 x14 x15 ht1 ht2 q1 q2
      have kd18 := kd7.ex x18
      have hI : areI H18 v = areI H7 v := areI_ex (Ex.kp x18) kd7
      -- inner
      refine ⟨fun σ' H' => σ' = [some (.ref p), some (.ref D), none, some v, some (.int at'), some (.ref b5), some (.ref d), some (.ref f), some (.bl (areI H7 v)), none] ∧ Ex H18 H', ?_, ?_⟩
      · refine rd_isi2 (c := "list") (d := "tuple") (i := 3) rfl kd18 (by decide) (by decide) fun H19 e19 => ⟨_, rfl, ?_⟩
        rw [seq_ty kd18]
        cases e : its H18 v with
        | none =>
          have hf : areI H7 v = false := by rw [← hI]; unfold areI; rw [e]
          rw [hf]
          exact iteF ⟨rfl, e19⟩
        | some xs =>
          have hf : areI H7 v = xs.all wh := by rw [← hI]; unfold areI; rw [e]
          have kd19 := kd18.ex e19
          have ei : its H19 v = some xs := (its_ex (Ex.kp e19) kd18).trans e
          have hfl : xs.all Fl = true := fl7 xs (by rw [its_ex (Ex.kp x18) kd7] at e; exact e)
          refine iteT ?_
          dsimp only [tOp]
          refine lc_pure (Src.nameS (p := p) (i := 3) (v := v) ?hi kd19 ei) (by have := its_len kd19 ei; omega) (fun x => !wh x) (fun x => x) (fun x hx H2 e2 Q1 q1 => ?_) (fun x hx _ H2 e2 Q1 q1 => ⟨_, rfl, q1 H2 (Ex.rfl' H2)⟩) fun D' H20 hD' gD' e20 => ?_
          case hi => rfl
          · exact ⟨_, rfl, p, x, rfl, (its_kd kd19 ei x hx).ex e2, fun H3 e3 => ⟨_, rfl, q1 H3 e3⟩⟩
          · refine ⟨Nat.zero_le _, fun b hb => ?_⟩
            have e21 := Ex.nw (o := .lst []) hb
            refine .inl ⟨D', b, _, rfl, rfl, e21 _ _ gD', upd_same, ?_⟩
            · have : (List.map (fun x => x) (xs.filter fun x => !wh x)).isEmpty = areI H7 v := by
                rw [List.map_id', hf]
                clear e ei hf hfl gD'
                induction xs with
                | nil => rfl
                | cons x r ih =>
                  cases hw : wh x with
                  | true =>
                    rw [List.filter_cons_of_neg (by rw [hw]; decide), List.all_cons, hw, Bool.true_and]
                    exact ih
                  | false =>
                    rw [List.filter_cons_of_pos (by rw [hw]; rfl), List.all_cons, hw]
                    rfl
              rw [this]
              exact ⟨rfl, (e19.tr e20).tr e21⟩
      · rintro σ' H19 ⟨rfl, e19⟩
        refine ⟨_, rfl, .inl ⟨d, [true, true, wh v, wh v, areI H7 v], rfl, e19 _ _ g18d, (show 5 ≤ 1000 by decide), _, rfl, _, rfl, (show 1 ≤ sizeLine by decide), fun b hb => ?_⟩⟩
        have e20 := Ex.nw (o := .lst [.bl (areI H7 v)]) hb
        refine ⟨f, b, _, _, rfl, rfl, e20 _ _ (e19 _ _ g18), upd_same, (show 5 ≤ sizeLine by decide), fun g hg => ?_⟩
        have e21 := Ex.nw (o := .lst [.bl true, .bl true, .bl (wh v), .bl (wh v), .bl (areI H7 v)]) hg
        refine .inl ⟨g, [true, true, wh v, wh v, areI H7 v], rfl, upd_same, (show 5 ≤ 1000 by decide), rfl, _, rfl, ?_⟩
        rw [decide_eq_true rfl]
        refine iteT ?_
        intro q hq
        refine ⟨upd_same, [(.inl 3, .int 4)], rfl, (show 1 ≤ 15 by decide), ?_⟩
        have x22 := (((x18.tr e19).tr e20).tr e21)
        have nq := (k7.kp x22).ne hq
        rw [upd_upd]
        have e22 := Ex.nw (o := .dK (mergeK [] [((.inl 3 : Key), V.int 4)])) hq
        have qd : ∀ H : Hp, areI (upd H q (.dK (mergeK [] [((.inl 3 : Key), V.int 4)]))) (.ref q) = false := fun H => by unfold areI; rw [its_dK upd_same]
        refine ⟨p, .ref q, rfl, .dK nq upd_same, fun H23 e23 => ⟨_, _, rfl, rfl, _, rfl, ?_⟩⟩
        rw [qd, decide_eq_true rfl]
        refine iteT ?_
        refine ⟨p, .str "12", rfl, .str _, fun H24 e24 => ⟨_, _, rfl, rfl, ?_⟩⟩
        exact k _ (((k7.kp x22).kp ((e22.tr e23).tr e24)).more (by omega))
end
end Mine
namespace Mine
open PySem PySem.Spec PyProof.Rows L2 GL
/-! ### lots: the mathematics -/
theorem lot_iff (many : Int) : ∀ (ns : List Int) (l : Int), lotB many l (ns.map V.int) = true ↔ (ns.Pairwise (· < ·) ∧ ∀ x, x ∈ ns → l ≤ x ∧ x < many)
  | [], l => by simp [lotB]
  | n :: r, l => by
    show (if n < l ∨ many ≤ n then false else lotB many (n + 1) (r.map V.int)) = true ↔ _
    have ih := lot_iff many r (n + 1)
    by_cases c : n < l ∨ many ≤ n
    · rw [if_pos c]
      refine ⟨fun h => (by cases h), fun ⟨_, h⟩ => ?_⟩
      have := h n List.mem_cons_self
      omega
    · rw [if_neg c, ih, List.pairwise_cons]
      constructor
      · rintro ⟨h1, h2⟩
        refine ⟨⟨fun x hx => by have := h2 x hx; omega, h1⟩, fun x hx => ?_⟩
        rcases List.mem_cons.mp hx with rfl | hx
        · omega
        · have := h2 x hx; omega
      · rintro ⟨⟨h1, h2⟩, h3⟩
        exact ⟨h2, fun x hx => ⟨by have := h1 x hx; omega, (h3 x (List.mem_cons_of_mem _ hx)).2⟩⟩
theorem asc_unique : ∀ (xs ys : List Int), xs.Pairwise (· < ·) → ys.Pairwise (· < ·) → (∀ x, x ∈ xs ↔ x ∈ ys) → xs = ys
  | [], [], _, _, _ => rfl
  | [], y :: ys, _, _, h => by have := (h y).mpr List.mem_cons_self; cases this
  | x :: xs, [], _, _, h => by have := (h x).mp List.mem_cons_self; cases this
  | x :: xs, y :: ys, h1, h2, h => by
    rw [List.pairwise_cons] at h1 h2
    have e : x = y := by
      rcases List.mem_cons.mp ((h x).mp List.mem_cons_self) with e | e
      · exact e
      · rcases List.mem_cons.mp ((h y).mpr List.mem_cons_self) with e' | e'
        · exact e'.symm
        · have := h1.1 y e'; have := h2.1 x e; omega
    subst e
    refine congrArg (x :: ·) (asc_unique xs ys h1.2 h2.2 fun z => ⟨fun hz => ?_, fun hz => ?_⟩)
    · rcases List.mem_cons.mp ((h z).mp (List.mem_cons_of_mem _ hz)) with e | e
      · have := h1.1 z hz; omega
      · exact e
    · rcases List.mem_cons.mp ((h z).mpr (List.mem_cons_of_mem _ hz)) with e | e
      · have := h2.1 z hz; omega
      · exact e
def upI (many : Int) : List Int := (List.range many.toNat).map fun (i : Nat) => (i : Int)
theorem ups_eq (many : Int) : ups many = (upI many).map V.int := by unfold ups upI; rw [List.map_map]; rfl
theorem upI_mem {many x : Int} : x ∈ upI many ↔ 0 ≤ x ∧ x < many := by
  unfold upI
  rw [List.mem_map]
  constructor
  · rintro ⟨i, hi, rfl⟩
    rw [List.mem_range] at hi
    omega
  · rintro ⟨h1, h2⟩
    exact ⟨x.toNat, by rw [List.mem_range]; omega, by omega⟩
theorem upI_asc (many : Int) : (upI many).Pairwise (· < ·) := by
  unfold upI
  rw [List.pairwise_map]
  exact List.pairwise_lt_range.imp fun h => by omega
theorem lot_eq (many : Int) (ns : List Int) : lotB many 0 (ns.map V.int) = decide (ns = (upI many).filter fun x => decide (x ∈ ns)) := by
  apply Bool.eq_iff_iff.mpr
  rw [lot_iff, decide_eq_true_iff]
  constructor
  · rintro ⟨h1, h2⟩
    refine asc_unique _ _ h1 ((upI_asc many).sublist List.filter_sublist) fun x => ?_
    rw [List.mem_filter, upI_mem, decide_eq_true_iff]
    exact ⟨fun hx => ⟨h2 x hx, hx⟩, fun hx => hx.2⟩
  · intro h
    refine ⟨?_, fun x hx => ?_⟩
    · rw [h]; exact (upI_asc many).sublist List.filter_sublist
    · rw [h] at hx
      exact upI_mem.mp (List.mem_filter.mp hx).1
theorem inV_ints (ns : List Int) (i : Int) : inV (.int i) (ns.map V.int) = decide (i ∈ ns) := by
  unfold inV
  rw [List.any_map]
  apply Bool.eq_iff_iff.mpr
  rw [List.any_eq_true, decide_eq_true_iff]
  constructor
  · rintro ⟨x, hx, e⟩
    have : x = i := by simpa [eqV] using e
    rw [← this]; exact hx
  · intro h
    exact ⟨i, h, by simp [eqV]⟩
theorem flat_ints (ns : List Int) : (ns.map V.int).all flatV = true := by rw [List.all_map]; exact List.all_eq_true.mpr fun _ _ => rfl
theorem ints_of : ∀ xs : List V, xs.all wh = true → ∃ ns : List Int, xs = ns.map V.int
  | [], _ => ⟨[], rfl⟩
  | x :: r, h => by
    rw [List.all_cons, Bool.and_eq_true] at h
    obtain ⟨ns, rfl⟩ := ints_of r h.2
    obtain ⟨i, rfl⟩ := wh_int h.1
    exact ⟨i :: ns, rfl⟩
theorem filter_no (xs : List V) : (xs.filter fun x => !wh x).isEmpty = xs.all wh := by
  induction xs with
  | nil => rfl
  | cons x r ih =>
    cases hw : wh x with
    | true =>
      rw [List.filter_cons_of_neg (by rw [hw]; decide), List.all_cons, hw, Bool.true_and]
      exact ih
    | false =>
      rw [List.filter_cons_of_pos (by rw [hw]; rfl), List.all_cons, hw]
      rfl
/-! ### rows -/
def RowOk (p : Addr) (H : Hp) (b : Nat) (v : V) : Prop := ∃ a xs, v = .ref a ∧ a ≠ p ∧ H a = some (.lst xs) ∧ xs.length ≤ b ∧ ∀ x, x ∈ xs → Kd p H x
theorem RowOk.kp {p : Addr} {H H' : Hp} {b : Nat} {v : V} (k : Kp p H H') (h : RowOk p H b v) : RowOk p H' b v := by
  obtain ⟨a, xs, e, n, g, l, al⟩ := h
  exact ⟨a, xs, e, n, k _ _ n g, l, fun x hx => (al x hx).kp k⟩
theorem RowOk.le {p : Addr} {H : Hp} {b d : Nat} {v : V} (h : RowOk p H b v) (hb : b ≤ d) : RowOk p H d v := by
  obtain ⟨a, xs, e, n, g, l, al⟩ := h
  exact ⟨a, xs, e, n, g, by omega, al⟩
section
variable {K : PySem.W.Frag} {p c D : Addr} {ns : List Int} {σ : L2.St}
/-- e gives a row; the draws made on the way -/
def RowE (p c D : Addr) (ns : List Int) (σ : L2.St) (n m b : Nat) (te : TE) : Prop := ∀ (H : Hp) (Q : VK), Rk H p c n → H D = some (.lst (ns.map V.int)) →
  (∀ v H', RowOk p H' b v → Rk H' p c m → Kp p H H' → Q v H') → te σ H Q
/-- e gives data -/
def DatE (p c D : Addr) (ns : List Int) (σ : L2.St) (n m : Nat) (te : TE) : Prop := ∀ (H : Hp) (Q : VK), Rk H p c n → H D = some (.lst (ns.map V.int)) →
  (∀ v H', Kd p H' v → Rk H' p c m → Kp p H H' → Q v H') → te σ H Q
theorem RowE.cat {n m l b d : Nat} {ta tb : TE} (nD : D ≠ p) (h1 : RowE p c D ns σ n m b ta) (h2 : RowE p c D ns σ m l d tb) (hb : b + d ≤ 100000) : RowE p c D ns σ n l (b + d) (tOp rCat ta tb) := by
  intro H Q r g k
  refine h1 H _ r g fun v H1 o1 r1 k1 => ?_
  refine h2 H1 _ r1 (k1 _ _ nD g) fun w H2 o2 r2 k2 => ?_
  obtain ⟨a, xs, rfl, na, ga, la, ala⟩ := o1.kp k2
  obtain ⟨a', ys, rfl, na', ga', la', ala'⟩ := o2
  refine ⟨a, a', xs, ys, rfl, rfl, ga, ga', sz_le (by omega), fun q hq => ?_⟩
  have e := Ex.nw (o := .lst (xs ++ ys)) hq
  refine k _ _ ⟨q, _, rfl, r2.ne hq, upd_same, by rw [List.length_append]; omega, fun x hx => ?_⟩ (r2.kp e) ((k1.tr k2).tr e.kp)
  rcases List.mem_append.mp hx with hx | hx
  · exact (ala x hx).ex e
  · exact (ala' x hx).ex e
theorem RowE.one {n m : Nat} {te : TE} (h : DatE p c D ns σ n m te) : RowE p c D ns σ n m 1 (tLst (tCons te tNil)) := by
  intro H Q r g k
  refine h H _ r g fun v H1 o1 r1 k1 => ⟨(show 1 ≤ sizeLine by decide), fun q hq => ?_⟩
  have e := Ex.nw (o := .lst [v]) hq
  exact k _ _ ⟨q, _, rfl, r1.ne hq, upd_same, Nat.le_refl _, fun x hx => by rw [List.mem_singleton.mp hx]; exact o1.ex e⟩ (r1.kp e) (k1.tr e.kp)
theorem DatE.va {n : Nat} {te : TE} {v : V} (h : ∀ H, Va te σ H v) (kd : ∀ H, Kd p H v) : DatE p c D ns σ n n te := fun H Q r _ k => h H Q (k v H (kd H) r (Kp.rfl' H))
/-- the lot itself -/
theorem RowE.lot {n b : Nat} {i : Nat} (nD : D ≠ p) (hi : σ[i]? = some (some (.ref D))) (hl : ns.length ≤ b) : RowE p c D ns σ n n b (tVar i) := fun H Q r g k =>
  ⟨_, hi, k _ H ⟨D, _, rfl, nD, g, by rw [List.length_map]; exact hl, fun x hx => by obtain ⟨j, _, rfl⟩ := List.mem_map.mp hx; exact .int j⟩ r (Kp.rfl' H)⟩
theorem RowE.rev {n b : Nat} {i : Nat} (hi : σ[i]? = some (some (.ref D))) (hl : ns.length ≤ b) : RowE p c D ns σ n n b (tRevL K (tVar i)) := fun H Q r g k =>
  ⟨_, hi, D, _, rfl, SqL.of g, fun q hq => by
    have e := Ex.nw (o := .lst (ns.map V.int).reverse) hq
    exact k _ _ ⟨q, _, rfl, r.ne hq, upd_same, by rw [List.length_reverse, List.length_map]; exact hl, fun x hx => by
      obtain ⟨j, _, rfl⟩ := List.mem_map.mp (List.mem_reverse.mp hx); exact .int j⟩ (r.kp e) e.kp⟩
theorem RowE.cut {n b : Nat} {i : Nat} {tl th : TO} {lo hi' : Option Int} (hi : σ[i]? = some (some (.ref D))) (hl : ns.length ≤ b)
    (h1 : ∀ (H : Hp) (Q : Option Int → Hp → Prop), Q lo H → tl σ H Q) (h2 : ∀ (H : Hp) (Q : Option Int → Hp → Prop), Q hi' H → th σ H Q) : RowE p c D ns σ n n b (tSl (rSlL K) (tVar i) tl th) := fun H Q r g k => by
  obtain ⟨ms, em, lm, _⟩ := cut_ints ns lo hi'
  refine ⟨_, hi, h1 H _ (h2 H _ ⟨D, _, rfl, SqL.of g, fun q hq => ?_⟩)⟩
  have e := Ex.nw (o := .lst (cutV (ns.map V.int) lo hi')) hq
  refine k _ _ ⟨q, _, rfl, r.ne hq, upd_same, ?_, fun x hx => ?_⟩ (r.kp e) e.kp
  · rw [em, List.length_map]; omega
  · rw [em] at hx; obtain ⟨j, _, rfl⟩ := List.mem_map.mp hx; exact .int j
/-- rows in a row -/
def RowsE (p c D : Addr) (ns : List Int) (σ : L2.St) (n m b k : Nat) (ta : TA) : Prop := ∀ (H : Hp) (Q : List V → Hp → Prop), Rk H p c n → H D = some (.lst (ns.map V.int)) →
  (∀ vs H', vs.length = k → (∀ v, v ∈ vs → RowOk p H' b v) → Rk H' p c m → Kp p H H' → Q vs H') → ta σ H Q
theorem RowsE.nil {n b : Nat} : RowsE p c D ns σ n n b 0 tNil := fun H Q r _ k => k [] H rfl (fun v h => by cases h) r (Kp.rfl' H)
theorem RowsE.cons {n m l b j : Nat} {te : TE} {ta : TA} (nD : D ≠ p) (h1 : RowE p c D ns σ n m b te) (h2 : RowsE p c D ns σ m l b j ta) : RowsE p c D ns σ n l b (j + 1) (tCons te ta) := by
  intro H Q r g k
  refine h1 H _ r g fun v H1 o1 r1 k1 => ?_
  refine h2 H1 _ r1 (k1 _ _ nD g) fun vs H2 hl o2 r2 k2 => ?_
  refine k (v :: vs) H2 (by rw [List.length_cons, hl]) (fun x hx => ?_) r2 (k1.tr k2)
  rcases List.mem_cons.mp hx with rfl | hx
  · exact o1.kp k2
  · exact o2 x hx
theorem RowE.to {n m b d : Nat} {te : TE} (h : RowE p c D ns σ n m b te) (hb : b ≤ d) : RowE p c D ns σ n m d te := fun H Q r g k => h H Q r g fun v H' o => k v H' (o.le hb)
end
end Mine
namespace Mine
open PySem PySem.Spec PyProof.Rows L2 GL
section
variable {K : PySem.W.Frag} {p c D : Addr} {ns : List Int} {σ : L2.St} {t : Int} {q b : Nat}
theorem RowsE.lst {n m b k : Nat} {ta : TA} (hk : k ≤ 1000) (h : RowsE p c D ns σ n m b k ta) (H : Hp) (Q : VK) (r : Rk H p c n) (g : H D = some (.lst (ns.map V.int)))
    (q : ∀ a vs H', a ≠ p → H' a = some (.lst vs) → vs.length = k → (∀ v, v ∈ vs → RowOk p H' b v) → Rk H' p c m → Kp p H H' → Q (.ref a) H') : tLst ta σ H Q := by
  refine h H _ r g fun vs H1 hl o r1 k1 => ⟨sz_le (by omega), fun a ha => ?_⟩
  have e := Ex.nw (o := .lst vs) ha
  exact q a vs _ (r1.ne ha) upd_same hl (fun v hv => (o v hv).kp e.kp) (r1.kp e) (k1.tr e.kp)
theorem cutA (h2 : σ[2]? = some (some (.ref D))) (h4 : σ[4]? = some (some (.int t))) (hl : ns.length ≤ b) : RowE p c D ns σ q q b (tSl (rSlL K) (tVar 2) tNoPart (tPart (tVar 4))) :=
  RowE.cut (lo := none) (hi' := some t) h2 hl (fun H Q q => q) fun H Q q => ⟨_, h4, _, rfl, q⟩
theorem cutB (h2 : σ[2]? = some (some (.ref D))) (h4 : σ[4]? = some (some (.int t))) (hl : ns.length ≤ b) : RowE p c D ns σ q q b (tSl (rSlL K) (tVar 2) (tPart (tVar 4)) tNoPart) :=
  RowE.cut (lo := some t) (hi' := none) h2 hl (fun H Q q => ⟨_, h4, _, rfl, q⟩) fun H Q q => q
theorem cutC (h2 : σ[2]? = some (some (.ref D))) (hl : ns.length ≤ b) : RowE p c D ns σ q q b (tSl (rSlL K) (tVar 2) (tPart (tUn (rU fun i => .int (-i)) (tC (.int 1)))) tNoPart) :=
  RowE.cut (lo := some (-1)) (hi' := none) h2 hl (fun H Q q => ⟨1, rfl, _, rfl, q⟩) fun H Q q => q
theorem cutD (h2 : σ[2]? = some (some (.ref D))) (h4 : σ[4]? = some (some (.int t))) (hl : ns.length ≤ b) : RowE p c D ns σ q q b (tSl (rSlL K) (tVar 2) (tPart (tOp (rI0 fun i j => .int (i + j)) (tVar 4) (tC (.int 1)))) tNoPart) :=
  RowE.cut (lo := some (t + 1)) (hi' := none) h2 hl (fun H Q q => ⟨_, h4, _, _, rfl, rfl, _, rfl, q⟩) fun H Q q => q
theorem cutE (h2 : σ[2]? = some (some (.ref D))) (hl : ns.length ≤ b) : RowE p c D ns σ q q b (tSl (rSlL K) (tVar 2) tNoPart (tPart (tC (.int 1)))) :=
  RowE.cut (lo := none) (hi' := some 1) h2 hl (fun H Q q => q) fun H Q q => ⟨_, rfl, q⟩
theorem cutF (h2 : σ[2]? = some (some (.ref D))) (hl : ns.length ≤ b) : RowE p c D ns σ q q b (tSl (rSlL K) (tVar 2) (tPart (tC (.int 1))) tNoPart) :=
  RowE.cut (lo := some 1) (hi' := none) h2 hl (fun H Q q => ⟨_, rfl, q⟩) fun H Q q => q
theorem datVar {i : Nat} {z : Int} (h : σ[i]? = some (some (.int z))) : DatE p c D ns σ q q (tVar i) := DatE.va (v := .int z) (fun H Q k => ⟨_, h, k⟩) fun H => .int z
theorem datInt {z : Int} : DatE p c D ns σ q q (tC (.int z)) := DatE.va (v := .int z) (fun H Q k => k) fun H => .int z
theorem datBl {z : Bool} : DatE p c D ns σ q q (tC (.bl z)) := DatE.va (v := .bl z) (fun H Q k => k) fun H => .bl z
theorem datNeg {z : Int} : DatE p c D ns σ q q (tUn (rU fun i => .int (-i)) (tC (.int z))) := DatE.va (v := .int (-z)) (fun H Q k => ⟨z, rfl, k⟩) fun H => .int (-z)
theorem datSub {i : Nat} {z y : Int} (h : σ[i]? = some (some (.int z))) : DatE p c D ns σ q q (tOp (rI0 fun i j => .int (i - j)) (tVar i) (tC (.int y))) := DatE.va (v := .int (z - y)) (fun H Q k => ⟨_, h, z, y, rfl, rfl, k⟩) fun H => .int (z - y)
theorem datOdd (h : σ[0]? = some (some (.ref p))) (hq : q < 99999) : DatE p c D ns σ q (q + 1) (tCall spOdd [] E0 (tCons (tVar 0) tNil)) := fun H Q r g k => ⟨_, h, p, c, q, rfl, r, hq, fun v H' kd _ _ _ r' kp => k v H' kd r' kp⟩
theorem RowE.rng {i : Nat} {m : Int} (h : σ[i]? = some (some (.int m))) (m0 : 0 ≤ m) (m1 : m ≤ 10) : RowE p c D ns σ q q 10 (tLstRg (tRg1 (tVar i))) := fun H Q r g k =>
  ⟨_, h, m, rfl, RgOk.of_le (by decide) (by omega) (by decide) m0, fun a ha => by
    have e := Ex.nw (o := .lst (rgV 0 m)) ha
    refine k _ _ ⟨a, _, rfl, r.ne ha, upd_same, by rw [rgV_length]; omega, fun x hx => ?_⟩ (r.kp e) e.kp
    unfold rgV at hx
    obtain ⟨j, _, rfl⟩ := List.mem_map.mp hx
    exact .int _⟩
theorem RowE.emp : RowE p c D ns σ q q 0 (tLst tNil) := fun H Q r g k => ⟨Nat.zero_le _, fun a ha => by
  have e := Ex.nw (o := .lst []) ha
  exact k _ _ ⟨a, _, rfl, r.ne ha, upd_same, Nat.le_refl _, fun x hx => by cases hx⟩ (r.kp e) e.kp⟩
end
theorem due_ok {K : PySem.W.Frag} {p a : Addr} {H : Hp} {xs : List V} {m : Int} {σ : L2.St} {Q : VK} (h6 : σ[6]? = some (some (.ref a))) (h1 : σ[1]? = some (some (.int m)))
    (s6 : ∀ y, ((σ.set 3 none).set 3 (some y))[6]? = some (some (.ref a))) (s3 : ∀ y, ((σ.set 3 none).set 3 (some y))[3]? = some (some y))
    (na : a ≠ p) (ga : H a = some (.lst xs)) (la : xs.length ≤ 100) (ala : ∀ x, x ∈ xs → Kd p H x) (m0 : 0 ≤ m) (m1 : m ≤ 10)
    (q : ∀ H', Ex H H' → Q (.bl (xs.all wh && lotB m 0 xs)) H') :
    tAndV (tOp (rEqX K) (tLc (iList K (tVar 6)) (gName 3) (tNot (tB (tCall spInt [] E0 (tCons (tVar 3) tNil)))) (tVar 3) [3]) (tLst tNil))
      (tOp (rEqX K) (tVar 6) (tLc (iRng1 (tCons (tVar 1) tNil)) (gName 3) (tTest (tOp (rIn K false) (tVar 3) (tVar 6))) (tVar 3) [3])) σ H Q := by
  dsimp only [tAndV, tOp]
  refine lc_pure (p := p) (Src.nameL (i := 6) h6 na ga) (by omega) (fun x => !wh x) (fun x => x) (fun x hx H2 e2 Q1 q1 => ?_) (fun x hx _ H2 e2 Q1 q1 => ⟨_, s3 x, q1 H2 (Ex.rfl' H2)⟩) fun D' H20 hD' gD' e20 => ?_
  · exact ⟨_, s3 x, p, x, rfl, (ala x hx).ex e2, fun H3 e3 => ⟨_, rfl, q1 H3 e3⟩⟩
  · refine ⟨Nat.zero_le _, fun b hb => ?_⟩
    have e21 := Ex.nw (o := .lst []) hb
    refine .inl ⟨D', b, _, rfl, rfl, e21 _ _ gD', upd_same, _, rfl, ?_⟩
    rw [List.map_id', filter_no]
    have x21 := e20.tr e21
    cases hw : xs.all wh with
    | false => rw [hw] at q; exact iteF (q _ x21)
    | true =>
      rw [hw, Bool.true_and] at q
      obtain ⟨ns, rfl⟩ := ints_of xs hw
      refine iteT ?_
      refine ⟨_, h6, ?_⟩
      refine lc_pure (p := p) (xs := ups m) (Src.range ⟨by omega, by omega⟩ fun Q2 q2 => ⟨_, h1, q2 _ (Ex.rfl' _)⟩) (by rw [ups_len]; omega) (fun x => inV x (ns.map V.int)) (fun x => x) (fun x hx H2 e2 Q1 q1 => ?_) (fun x hx _ H2 e2 Q1 q1 => ⟨_, s3 x, q1 H2 (Ex.rfl' H2)⟩) fun D2 H22 hD2 gD2 e22 => ?_
      · refine ⟨_, s3 x, _, s6 x, a, _, rfl, .inl (SqL.of (e2 _ _ (x21 _ _ ga))), ?_, flat_ints ns, _, rfl, q1 _ (Ex.rfl' _)⟩
        rw [ups_eq] at hx
        obtain ⟨i, _, rfl⟩ := List.mem_map.mp hx
        rfl
      · rw [List.map_id', ups_eq, List.filter_map] at gD2
        refine .inr ⟨.list (ns.map PyData.int), .list (((upI m).filter ((fun x => inV x (ns.map V.int)) ∘ V.int)).map PyData.int), .lst (SqL.of (e22 _ _ (x21 _ _ ga))) (dp_ints _), .lst (SqL.of gD2) (dp_ints _), shaped_ints _, shaped_ints _, ?_⟩
        have e : PyData.eqv (.list (ns.map PyData.int)) (.list (((upI m).filter ((fun x => inV x (ns.map V.int)) ∘ V.int)).map PyData.int)) = lotB m 0 (ns.map V.int) := by
          rw [lot_eq]
          simp only [PyData.eqv]
          rw [eqv_ints]
          have : ((fun x => inV x (ns.map V.int)) ∘ V.int) = fun x => decide (x ∈ ns) := by funext x; exact inV_ints ns x
          rw [this]
        rw [e]
        exact q _ (x21.tr e22)
theorem isLot_at {H : Hp} {v : V} {xs : List V} {m : Int} (e : its H v = some xs) : isLot H v m = (xs.all wh && lotB m 0 xs) := by unfold isLot; rw [e]
section
variable {P : Program} {w : World} {K : PySem.W.Frag} {mg : Str → Option Value} {base : Heap} {fs : Nat → Addr} {fd : Nat → FuncData} {tk : Nat → Tok}
theorem ok_Llots_right (T : Txt K mg fs fd tk) : FnG P w K mg base CX0 4 (fs 12) (fd 12) P_Llots_right spPart := by
  refine Fun.okG T.f_Llots_right sc_Llots_right (fun vs H Q E h => ?_) (fun cd A out s H vs Q E gd hr h => ?_)
  · obtain ⟨p, c, n, rfl, _⟩ := h
    rfl
  · obtain ⟨p, c, n, rfl, r, hn, k⟩ := h
    refine ⟨_, PSs.nox ((pss_cons (ps_set (i := 1) sc_Llots_right.nd rfl (by first | exact Or.inl rfl | exact Or.inr rfl) (pg_call (ok_Lturn_of T) gd (hr.mono (by decide)) (by rfl) T.m_Lturn_of T.f_Lturn_of.kp (b_Lturn_of T) .nil pass0 (pa_cons (pv 0) (pa_cons (pe_int) pa_nil))))
      (pss_cons (ps_setLc (i := 2) (own := [("each", 3)]) (g := gName 3) rfl sc_Llots_right.nd rfl rfl (sw_true rfl rfl rfl (by decide +kernel)) (pi_range1 (by rfl) T.z_range (pa_cons (pv 1) pa_nil)) (blkOk_by (own := [("each", 3)]) (N := N_Llots_right) (sc := defScope s_Llots_right) (by decide +kernel)) (fun _ _ _ _ _ => (pg_name (i := 3) sc_Llots_right.nd rfl (Or.inl rfl))) (fun _ _ _ _ _ => (pts_one (pt_cmpR op_eq (pg_call (ok_Lturn_of T) gd (hr.mono (by decide)) (by rfl) T.m_Lturn_of T.f_Lturn_of.kp (b_Lturn_of T) .nil pass0 (pa_cons (pv 0) (pa_cons (pe_int) pa_nil))) (pe_int) (nomark _)))) (fun _ _ _ _ _ => pv 3))
      (pss_cons (ps_set (i := 4) sc_Llots_right.nd rfl (by first | exact Or.inl rfl | exact Or.inr rfl) (pg_call (ok_Lturn_of T) gd (hr.mono (by decide)) (by rfl) T.m_Lturn_of T.f_Lturn_of.kp (b_Lturn_of T) .nil pass0 (pa_cons (pv 0) (pa_cons (pe_op op_add (pe_callB call_len_seq (by rfl) T.z_len (by decide +kernel) (pa_cons (pv 2) pa_nil)) (pe_int)) pa_nil))))
      (pss_cons (ps_set (i := 5) sc_Llots_right.nd rfl (by first | exact Or.inl rfl | exact Or.inr rfl) (pe_lst (pa_cons (pv 2) (pa_cons (pe_revL (pv 2)) (pa_cons (pe_op op_cat (pv 2) (pe_lst (pa_cons (pv 1) pa_nil))) (pa_cons (pe_op op_cat (pe_lst (pa_cons (pe_un un_neg (pe_int)) pa_nil)) (pv 2)) (pa_cons (pe_op op_cat (pe_op op_cat (pe_slice sl_list (pv 2) po_none (po_some (pv 4))) (pe_lst (pa_cons (pg_call (ok_Lodd T) gd (hr.mono (by decide)) (by rfl) T.m_Lodd T.f_Lodd.kp (b_Lodd T) .nil pass0 (pa_cons (pv 0) pa_nil)) pa_nil))) (pe_slice sl_list (pv 2) (po_some (pv 4)) po_none)) (pa_cons (pe_listRg rfl (by rfl) T.z_list (prg_1 (by rfl) T.z_range (pv 1))) (pa_cons (pe_lst pa_nil) (pa_cons (pe_op op_cat (pv 2) (pe_slice sl_list (pv 2) (po_some (pe_un un_neg (pe_int))) po_none)) (pa_cons (pe_op op_cat (pe_slice sl_list (pv 2) po_none (po_some (pv 4))) (pe_slice sl_list (pv 2) (po_some (pe_op op_add (pv 4) (pe_int))) po_none)) pa_nil)))))))))))
      (pss_cons (ps_set (i := 5) sc_Llots_right.nd rfl (by first | exact Or.inl rfl | exact Or.inr rfl) (pe_op op_cat (pv 5) (pe_lst (pa_cons (pe_op op_cat (pe_op op_cat (pe_slice sl_list (pv 2) po_none (po_some (pv 4))) (pe_lst (pa_cons (pe_op op_sub (pv 1) (pe_int)) pa_nil))) (pe_slice sl_list (pv 2) (po_some (pv 4)) po_none)) (pa_cons (pe_op op_cat (pe_op op_cat (pe_slice sl_list (pv 2) po_none (po_some (pv 4))) (pe_slice sl_list (pv 2) po_none (po_some (pe_int)))) (pe_slice sl_list (pv 2) (po_some (pv 4)) po_none)) (pa_cons (pe_op op_cat (pe_lst (pa_cons (pe_bl) pa_nil)) (pv 2)) (pa_cons (pe_op op_cat (pe_lst (pa_cons (pe_bl) pa_nil)) (pe_slice sl_list (pv 2) (po_some (pe_int)) po_none)) pa_nil)))))))
      (pss_cons (ps_for PassesOwn.never rfl (pi_list (pv 5)) (pg_name (i := 6) sc_Llots_right.nd rfl (by first | exact Or.inl rfl | exact Or.inr rfl))
        (pss_cons (ps_set (i := 7) sc_Llots_right.nd rfl (by first | exact Or.inl rfl | exact Or.inr rfl) (pe_and (pe_cmpR (op_eqX hr.units) (pe_lc (own := [("each", 3)]) (g := gName 3) rfl sc_Llots_right.nd (pi_list (pv 6)) (blkOk_by (own := [("each", 3)]) (N := N_Llots_right) (sc := defScope s_Llots_right) (by decide +kernel)) (fun _ _ _ _ _ => (pg_name (i := 3) sc_Llots_right.nd rfl (Or.inl rfl))) (fun _ _ _ _ _ => (pts_one (pt_not (pt_val (pg_call (ok_Lwhole T) gd (hr.mono (by decide)) (by rfl) T.m_Lwhole T.f_Lwhole.kp (b_Lwhole T) .nil pass0 (pa_cons (pv 3) pa_nil)))))) (fun _ _ _ _ _ => pv 3)) (pe_lst pa_nil) (nomark _)) (pe_one (pe_cmpR (op_eqX hr.units) (pv 6) (pe_lc (own := [("each", 3)]) (g := gName 3) rfl sc_Llots_right.nd (pi_range1 (by rfl) T.z_range (pa_cons (pv 1) pa_nil)) (blkOk_by (own := [("each", 3)]) (N := N_Llots_right) (sc := defScope s_Llots_right) (by decide +kernel)) (fun _ _ _ _ _ => (pg_name (i := 3) sc_Llots_right.nd rfl (Or.inl rfl))) (fun _ _ _ _ _ => (pts_one (pt_cmpR (show OpR _ (compareOp .In) (rIn K false) from op_in_seq) (pv 3) (pv 6) (by rfl)))) (fun _ _ _ _ _ => pv 3)) (nomark _)))))
        (pss_one (ps_if (pt_cmpR op_ne (pe_callB (call_reprX gd hr) (by rfl) T.z_repr (by decide +kernel) (pa_cons (pe_lst (pa_cons (pg_call (ok_is_lot T) gd (hr.mono (by decide)) (by rfl) T.m_is_lot T.f_is_lot.kp (b_is_lot T) .nil pass0 (pa_cons (pv 6) (pa_cons (pv 1) pa_nil))) (pa_cons (pg_callK0 (ok_is_lot T) gd (hr.mono (by decide)) (by rfl) T.m_is_lot T.f_is_lot.kp (kw_is_lot_0_many_value T) pass0 (pk_cons (pv 1) (pk_cons (pe_callTy call_tuple_of (by rfl) T.z_tuple (by decide +kernel) (pa_cons (pv 6) pa_nil)) pk_nil))) pa_nil))) pa_nil)) (pe_callB (call_reprX gd hr) (by rfl) T.z_repr (by decide +kernel) (pa_cons (pe_lst (pa_cons (pv 7) (pa_cons (pv 7) pa_nil))) pa_nil)) (nomark _))
          (pss_one (ps_ret (pe_bl)))
          pss_nil))))
      (pss_one (ps_ret (pe_cmpR op_isBl (pg_call (ok_is_lot T) gd (hr.mono (by decide)) (by rfl) T.m_is_lot T.f_is_lot.kp (b_is_lot T) .nil pass0 (pa_cons (pg_call (ok_Lpick T) gd (hr.mono (by decide)) (by rfl) T.m_Lpick T.f_Lpick.kp (b_Lpick T) .nil pass0 (pa_cons (pv 0) (pa_cons (pe_lst (pa_cons (pe_non) (pa_cons (pe_int) (pa_cons (pe_str) (pa_cons (pe_dnewK) (pa_cons (pe_disp (pps_cons (pe_int) (pe_int) pps_nil) (by rfl) (by rfl) (fun z => by cases z) (by decide)) (pa_cons (pe_str) (pa_cons (pe_bl) pa_nil)))))))) pa_nil))) (pa_cons (pv 1) pa_nil))) (pe_bl) (nomark _))))))))))), ?_⟩
    -- many, lot
    refine ⟨_, rfl, p, c, 10, n, rfl, r, by omega, by decide, by decide, fun m H1 m0 m1 k1 _ => ?_⟩
    refine ⟨_, rfl, m, rfl, by omega, by omega, fun D hD => ?_⟩
    have nD := k1.ne hD
    have cD := k1.nc hD
    refine lc_range (lo := 0) (n := m.toNat) (fun i H' => ∃ ns : List Int, H' D = some (.lst (ns.map V.int)) ∧ ns.length ≤ i ∧ Rk H' p c (n + 1 + i)) ⟨[], upd_same, Nat.le_refl _, k1.kp (Ex.nw hD)⟩ ?_ ?_
    · rintro i H2 hi ⟨ns, g2, hl, k2⟩
      refine ⟨rfl, ?_⟩
      refine ⟨_, rfl, p, c, 2, _, rfl, k2, by omega, by decide, by decide, fun r3 H3 _ _ k3 kp3 => ⟨rfl, _, rfl, ?_⟩⟩
      have g3 : H3 D = some (.lst (ns.map V.int)) := kp3 _ _ nD g2
      by_cases c0 : V.int r3 = V.int 0
      · rw [decide_eq_true c0]
        refine iteT ⟨_, rfl, _, g3, (by rw [List.length_map]; exact sz_ok (by omega)), ns ++ [0 + (i : Int)], ?_, ?_, ?_⟩
        · rw [List.map_append]; exact upd_same
        · rw [List.length_append]; show ns.length + 1 ≤ i + 1; omega
        · exact k3.up nD cD
      · rw [decide_eq_false c0]
        exact iteF ⟨ns, g3, by omega, k3⟩
    · rintro H2 ⟨ns, g2, hl, k2⟩
      have hl : ns.length ≤ 10 := by omega
      -- at
      refine ⟨_, rfl, _, rfl, D, _, rfl, .inl (SqL.of g2), _, _, rfl, rfl, p, c, _, _, rfl, k2, by omega, ?_, ?_, fun at' H3 a0 a1 k3 kp3 => ?_⟩
      · show (0 : Int) < ((ns.map V.int).length : Int) + 1
        omega
      · show ((ns.map V.int).length : Int) + 1 < 1073741824
        rw [List.length_map]; omega
      have g3 := kp3 _ _ nD g2
      -- rows
      dsimp only [gName, tSeq, tAsg]
      refine RowsE.lst (σ := [some (.ref p), some (.int m), some (.ref D), none, some (.int at'), none, none, none]) (b := 100) (k := 9) (m := n + 1 + m.toNat + 1 + 1) (by decide)
        (.cons nD (.to (RowE.lot nD rfl hl) (by decide))
        (.cons nD (.to (RowE.rev rfl hl) (by decide))
        (.cons nD (.to (.cat nD (RowE.lot nD rfl hl) (.one (datVar (z := m) rfl)) (by decide)) (by decide))
        (.cons nD (.to (.cat nD (.one datNeg) (RowE.lot nD rfl hl) (by decide)) (by decide))
        (.cons nD (.to (.cat nD (.cat nD (cutA (t := at') rfl rfl hl) (.one (datOdd rfl (by omega))) (by decide)) (cutB (t := at') rfl rfl hl) (by decide)) (by decide))
        (.cons nD (.to (RowE.rng (m := m) rfl m0 (by omega)) (by decide))
        (.cons nD (.to RowE.emp (by decide))
        (.cons nD (.to (.cat nD (RowE.lot nD rfl hl) (cutC rfl hl) (by decide)) (by decide))
        (.cons nD (.to (.cat nD (cutA (t := at') rfl rfl hl) (cutD (t := at') rfl rfl hl) (by decide)) (by decide)) .nil))))))))) H3 _ k3 g3 fun R vs1 H4 nR gR lR oR k4 kp4 => ?_
      have g4 := kp4 _ _ nD g3
      refine ⟨_, rfl, ?_⟩
      refine RowsE.lst (σ := [some (.ref p), some (.int m), some (.ref D), none, some (.int at'), some (.ref R), none, none]) (b := 100) (k := 4) (m := n + 1 + m.toNat + 1 + 1) (by decide)
        (.cons nD (.to (.cat nD (.cat nD (cutA (t := at') rfl rfl hl) (.one (datSub (z := m) rfl)) (by decide)) (cutB (t := at') rfl rfl hl) (by decide)) (by decide))
        (.cons nD (.to (.cat nD (.cat nD (cutA (t := at') rfl rfl hl) (cutE rfl hl) (by decide)) (cutB (t := at') rfl rfl hl) (by decide)) (by decide))
        (.cons nD (.to (.cat nD (.one datBl) (RowE.lot nD rfl hl) (by decide)) (by decide))
        (.cons nD (.to (.cat nD (.one datBl) (cutF rfl hl) (by decide)) (by decide)) .nil)))) H4 _ k4 g4 fun R2 vs2 H5 nR2 gR2 lR2 oR2 k5 kp5 => ?_
      refine ⟨R, R2, _, _, rfl, rfl, kp5 _ _ nR gR, gR2, sz_le (by omega), fun R3 hR3 => ?_⟩
      have g6 : ∀ {a : Addr} {o : HO}, H5 a = some o → (upd H5 R3 (.lst (vs1 ++ vs2))) a = some o := fun h => Ex.nw hR3 _ _ h
      have oA : ∀ v, v ∈ vs1 ++ vs2 → RowOk p (upd H5 R3 (.lst (vs1 ++ vs2))) 100 v := fun v hv => by
        rcases List.mem_append.mp hv with hv | hv
        · exact ((oR v hv).kp kp5).kp (Ex.kp (Ex.nw hR3))
        · exact (oR2 v hv).kp (Ex.kp (Ex.nw hR3))
      have k6 := k5.kp (Ex.nw (o := .lst (vs1 ++ vs2)) hR3)
      have gR6 : (upd H5 R3 (.lst (vs1 ++ vs2))) R3 = some (.lst (vs1 ++ vs2)) := upd_same
      have lA : (vs1 ++ vs2).length ≤ 1000 := by rw [List.length_append]; omega
      have nR3 := k5.ne hR3
      generalize upd H5 R3 (.lst (vs1 ++ vs2)) = H6 at g6 oA k6 gR6 ⊢
      generalize vs1 ++ vs2 = vs at oA gR6 lA
      clear g6 oR oR2 gR gR2 k5 kp5 k4 kp4
      refine for_src (p := p) (σ := [some (.ref p), some (.int m), some (.ref D), none, some (.int at'), some (.ref R3), none, none]) (Src.nameL (i := 5) rfl nR3 gR6) (fun H1 i σ' H2 => Ex H1 H2 ∧ ∃ y z, σ' = [some (.ref p), some (.int m), some (.ref D), none, some (.int at'), some (.ref R3), y, z]) (fun H1 _ => ⟨Ex.rfl' H1, _, _, rfl⟩) (fun H1 i σ' H2 h => Ex.kp h.1) ?_ ?_
      · rintro Ha i row σ' H7 ea hrow ⟨e7, y, z, rfl⟩
        obtain ⟨a, xs, rfl, na, ga, la, ala⟩ := (oA row (List.mem_of_getElem? hrow)).kp (Ex.kp (ea.tr e7))
        have k7 := k6.kp (ea.tr e7)
        refine due_ok (p := p) (a := a) (m := m) rfl rfl (fun y => rfl) (fun y => rfl) na ga la ala m0 (by omega) fun H8 e8 => ?_
        have g8 := e8 _ _ ga
        have kd8 : Kd p H8 (.ref a) := .lst na g8 (by omega) fun x hx => (ala x hx).ex e8
        refine ⟨_, rfl, _, rfl, p, .ref a, m, rfl, kd8, fun H9 e9 => ?_⟩
        rw [isLot_at (its_lst g8)]
        refine ⟨_, rfl, _, rfl, a, xs, rfl, .inl ⟨SqL.of (e9 _ _ g8), fun t ht => ?_⟩⟩
        have e10 := Ex.nw (o := .tup xs) ht
        have nt := (k7.kp (e8.tr e9)).ne ht
        refine ⟨rfl, rfl, p, .ref t, m, rfl, .tup nt upd_same (by omega) fun x hx => (ala x hx).ex ((e8.tr e9).tr e10), fun H11 e11 => ?_⟩
        rw [isLot_at (its_tup upd_same)]
        refine ⟨(show 2 ≤ sizeLine by decide), fun u hu => ?_⟩
        have e12 := Ex.nw (o := .lst [.bl (xs.all wh && lotB m 0 xs), .bl (xs.all wh && lotB m 0 xs)]) hu
        refine .inl ⟨u, [xs.all wh && lotB m 0 xs, xs.all wh && lotB m 0 xs], rfl, upd_same, (show 2 ≤ 1000 by decide), _, rfl, _, rfl, (show 2 ≤ sizeLine by decide), fun u2 hu2 => ?_⟩
        have e13 := Ex.nw (o := .lst [.bl (xs.all wh && lotB m 0 xs), .bl (xs.all wh && lotB m 0 xs)]) hu2
        refine .inl ⟨u2, [xs.all wh && lotB m 0 xs, xs.all wh && lotB m 0 xs], rfl, upd_same, (show 2 ≤ 1000 by decide), rfl, _, rfl, ?_⟩
        rw [decide_eq_true rfl]
        refine iteF ⟨((((e7.tr e8).tr e9).tr e10).tr e11).tr (e12.tr e13), _, _, rfl⟩
      · rintro Ha σ' H7 ea ⟨e7, y, z, rfl⟩
        have k7 := k6.kp (ea.tr e7)
        refine ⟨_, rfl, ?_⟩
        intro q1 hq1
        have y1 := Ex.nw (o := .dK []) hq1
        intro q2 hq2
        refine ⟨upd_same, [(.inl 0, .int 1)], rfl, (show 1 ≤ 15 by decide), ?_⟩
        rw [upd_upd]
        have y2 := Ex.nw (o := .dK (mergeK [] [((.inl 0 : Key), V.int 1)])) hq2
        have nq1 := k7.ne hq1
        have nq2 := (k7.kp y1).ne hq2
        refine ⟨(show 7 ≤ sizeLine by decide), fun u hu => ?_⟩
        have y3 := Ex.nw (o := .lst [.non, .int 0, .str (Str.ofString ""), .ref q1, .ref q2, .str (Str.ofString "01"), .bl true]) hu
        have k8 := k7.kp ((y1.tr y2).tr y3)
        have n8 := (k7.kp (y1.tr y2)).ne hu
        refine ⟨p, c, .ref u, _, rfl, k8, by omega, .inl ⟨u, _, rfl, n8, upd_same, by simp, by show 7 < 1000000; decide, fun v H9 hv k9 kp9 => ?_⟩⟩
        have gq1 := kp9 _ _ nq1 (y3 _ _ (y2 _ _ (upd_same (H := H7) (a := q1) (o := .dK []))))
        have gq2 := kp9 _ _ nq2 (y3 _ _ (upd_same (H := upd H7 q1 (.dK [])) (a := q2) (o := .dK (mergeK [] [((.inl 0 : Key), V.int 1)]))))
        have hv' : Kd p H9 v ∧ its H9 v = none := by
          simp only [List.mem_cons, List.not_mem_nil, or_false] at hv
          rcases hv with rfl | rfl | rfl | rfl | rfl | rfl | rfl
          · exact ⟨.non, rfl⟩
          · exact ⟨.int 0, rfl⟩
          · exact ⟨.str _, rfl⟩
          · exact ⟨.dK nq1 gq1, its_dK gq1⟩
          · exact ⟨.dK nq2 gq2, its_dK gq2⟩
          · exact ⟨.str _, rfl⟩
          · exact ⟨.bl true, rfl⟩
        refine ⟨_, rfl, p, v, m, rfl, hv'.1, fun H10 e10 => ⟨_, _, rfl, rfl, ?_⟩⟩
        have : isLot H9 v m = false := by unfold isLot; rw [hv'.2]
        rw [this, decide_eq_true rfl]
        exact k _ ((k9.kp e10).more (by omega))
end
end Mine
namespace Mine
open PySem PySem.Spec PyProof.Rows L2 GL HT TL
def inL (c : Nat) : Bool := decide (c ∈ LET.cps.toList)
theorem join_signs : ∀ cs : List Nat, (Txt.join (Str.ofString "") (cs.map fun c => (⟨#[c]⟩ : Str))).cps.toList = cs := by
  intro cs
  rw [join_eq]
  show tl _ = _
  rw [tl_join, List.map_map]
  have e : tl (Str.ofString "") = [] := by rw [tl_ofString]; rfl
  rw [e]
  induction cs with
  | nil => rfl
  | cons c r ih =>
    cases r with
    | nil => rfl
    | cons d r' =>
      show tl (⟨#[c]⟩ : Str) ++ ([] ++ joinL [] _) = _
      rw [List.nil_append]
      show c :: joinL [] _ = _
      exact congrArg (c :: ·) ih
theorem sum_signs (cs : List Nat) : ((cs.map fun c => (⟨#[c]⟩ : Str)).map (·.length)).sum = cs.length := by
  induction cs with
  | nil => rfl
  | cons c r ih =>
    rw [List.map_cons, List.map_cons, List.sum_cons, ih, List.length_cons]
    show 1 + r.length = _
    omega
theorem nameB_bent (L s : List Nat) (a b : List Nat) (hL : a ++ b = L) (al : ∀ c, c ∈ L → inL c = true) (hs : s = [] ∨ ∃ c, c ∈ s ∧ inL c = false) (z : Str) (hz : z.cps.toList = a ++ s ++ b) :
    nameB z = (decide (s = []) && (decide (1 ≤ L.length) && decide (L.length ≤ 12))) := by
  have hlen : z.length = (a ++ s ++ b).length := by rw [← hz, Array.length_toList]; rfl
  unfold nameB
  rw [hz, hlen]
  rcases hs with rfl | ⟨c, hc, hn⟩
  · rw [List.append_nil, hL]
    have : (L.all fun c => decide (c ∈ LET.cps.toList)) = true := List.all_eq_true.mpr al
    rw [this, Bool.and_true, decide_eq_true rfl, Bool.true_and]
  · have : ((a ++ s ++ b).all fun c => decide (c ∈ LET.cps.toList)) = false := by
      rw [List.all_append, List.all_append]
      have : (s.all fun c => decide (c ∈ LET.cps.toList)) = false := by
        rw [Bool.eq_false_iff]
        intro h
        have := List.all_eq_true.mp h c hc
        unfold inL at hn
        rw [hn] at this
        cases this
      rw [this]; simp
    have h2 : s ≠ [] := by intro e; subst e; cases hc
    rw [this, Bool.and_false, decide_eq_false h2, Bool.false_and]
theorem cut_two (z : Str) (t : Int) (h0 : 0 ≤ t) : tl (cutS z none (some t)) ++ tl (cutS z (some t) none) = tl z := by
  have e : t = (t.toNat : Int) := by omega
  rw [e]
  unfold cutS
  rw [tl_mk, tl_mk, sIx_none, sIx_none, sIx_nat, sIx_nat, len_tl]
  show (List.drop 0 (tl z)).take _ ++ ((tl z).drop _).take _ = _
  rw [List.drop_zero, Nat.sub_zero]
  generalize hk : min t.toNat (tl z).length = k
  have : ((tl z).drop k).take ((tl z).length - k) = (tl z).drop k := List.take_of_length_le (by rw [List.length_drop] <;> omega)
  rw [this, List.take_append_drop]
theorem isNm_no {v : V} (h : ∀ z, v ≠ .str z) : isNm v = false := by cases v <;> first | rfl | exact absurd rfl (h _)
theorem va_and {ta tb : TE} {σ : L2.St} {H : Hp} {a b : Bool} (ha : Va ta σ H (.bl a)) (hb : Va tb σ H (.bl b)) : Va (tAndV ta tb) σ H (.bl (a && b)) := fun Q q =>
  ha _ ⟨a, rfl, by cases a with
    | true => exact iteT (hb _ q)
    | false => exact iteF q⟩
theorem lc_none {p : Addr} {σ : L2.St} {H : Hp} {te : TE} {wi : TI} {tt : TT} {j : Nat} {Q : VK} (Pr : List V → Hp → Prop)
    (src : ∀ R : It → Hp → Prop, (∀ J H1 xs, Ex H H1 → Pr xs H1 → Walk J xs.length (fun H2 => Kp p H1 H2) (YAt xs) → R J H1) → wi σ H R)
    (ht : ∀ xs H1, Ex H H1 → Pr xs H1 → ∀ x, x ∈ xs → ∀ H2, Ex H1 H2 → ∀ Q1 : Bool → Hp → Prop, (∀ H3, Ex H2 H3 → Q1 false H3) → tt ((σ.set j none).set j (some x)) H2 Q1)
    (q : ∀ D H2, H D = none → H2 D = some (.lst []) → Ex H H2 → Q (.ref D) H2) : tLc wi (gName j) tt te [j] σ H Q := by
  refine src _ fun J H1 xs e1 pr w D hD => ?_
  refine lc_it w (fun i H2 => H2 D = some (.lst []) ∧ Ex H1 H2) ⟨upd_same, Ex.nw hD⟩ (fun i H2 _ g => Ex.kp g.2) ?_ fun H2 g => ?_
  · rintro i x H2 H3 hi ⟨g1, g2⟩ ⟨rfl, hx⟩
    have hm : x ∈ xs := List.mem_of_getElem? hx
    refine ⟨?_, ?_⟩
    · show ((σ.set j none).set j (some x)).set j none = σ.set j none
      rw [List.set_set, List.set_set]
    · exact ht xs H1 e1 pr x hm H3 g2 _ fun H4 e4 => iteF ⟨e4 _ _ g1, g2.tr e4⟩
  · exact q D H2 (e1.no hD) g.1 (e1.tr g.2)
section
variable {P : Program} {w : World} {K : PySem.W.Frag} {mg : Str → Option Value} {base : Heap} {fs : Nat → Addr} {fd : Nat → FuncData} {tk : Nat → Tok}
theorem ok_Lnames_right (T : Txt K mg fs fd tk) : FnG P w K mg base CX0 4 (fs 13) (fd 13) P_Lnames_right spPart := by
  refine Fun.okG T.f_Lnames_right sc_Lnames_right (fun vs H Q E h => ?_) (fun cd A out s H vs Q E gd hr h => ?_)
  · obtain ⟨p, c, n, rfl, _⟩ := h
    rfl
  · obtain ⟨p, c, n, rfl, r, hn, k⟩ := h
    refine ⟨_, PSs.nox ((pss_cons (ps_set (i := 1) sc_Lnames_right.nd rfl (by first | exact Or.inl rfl | exact Or.inr rfl) (pe_join (pe_str) (pe_lc (own := [("turn", 2)]) (g := gName 2) (tt := tYes) rfl sc_Lnames_right.nd (pi_range1 (by rfl) T.z_range (pa_cons (pg_call (ok_Lturn_of T) gd (hr.mono (by decide)) (by rfl) T.m_Lturn_of T.f_Lturn_of.kp (b_Lturn_of T) .nil pass0 (pa_cons (pv 0) (pa_cons (pe_int) pa_nil))) pa_nil)) (blkOk_by (own := [("turn", 2)]) (N := N_Lnames_right) (sc := defScope s_Lnames_right) (by decide +kernel)) (fun _ _ _ _ _ => (pg_name (i := 2) sc_Lnames_right.nd rfl (Or.inl rfl))) (fun _ _ _ _ _ => pts_nil) (fun _ _ _ _ _ => pg_call (ok_Lpick T) gd (hr.mono (by decide)) (by rfl) T.m_Lpick T.f_Lpick.kp (b_Lpick T) .nil pass0 (pa_cons (pv 0) (pa_cons (pe_str) pa_nil))))))
      (pss_cons (ps_par (i := 3) (j := 4) (by rfl) sc_Lnames_right.nd rfl rfl (by decide) rfl rfl (pa_cons (pg_call (ok_Lturn_of T) gd (hr.mono (by decide)) (by rfl) T.m_Lturn_of T.f_Lturn_of.kp (b_Lturn_of T) .nil pass0 (pa_cons (pv 0) (pa_cons (pe_op op_add (pe_callB call_len_str (by rfl) T.z_len (by decide +kernel) (pa_cons (pv 1) pa_nil)) (pe_int)) pa_nil))) (pa_cons (pg_call (ok_Lpick T) gd (hr.mono (by decide)) (by rfl) T.m_Lpick T.f_Lpick.kp (b_Lpick T) .nil pass0 (pa_cons (pv 0) (pa_cons (pe_lst (pa_cons (pe_str) (pa_cons (pe_str) (pa_cons (pe_str) (pa_cons (pe_str) (pa_cons (pe_str) (pa_cons (pe_str) (pa_cons (pe_str) (pa_cons (pe_str) (pa_cons (pe_str) (pa_cons (pe_str) (pa_cons (pe_str) (pa_cons (pe_str) (pa_cons (pe_str) (pa_cons (pe_str) pa_nil))))))))))))))) pa_nil))) pa_nil)) (by rfl))
      (pss_cons (ps_set (i := 5) sc_Lnames_right.nd rfl (by first | exact Or.inl rfl | exact Or.inr rfl) (pe_op op_add_str (pe_op op_add_str (pe_slice sl_str (pv 1) po_none (po_some (pv 3))) (pv 4)) (pe_slice sl_str (pv 1) (po_some (pv 3)) po_none)))
      (pss_cons (ps_if (pt_cmpR op_ne (pe_callB (call_reprX gd hr) (by rfl) T.z_repr (by decide +kernel) (pa_cons (pe_lst (pa_cons (pg_call (ok_is_name T) gd (hr.mono (by decide)) (by rfl) T.m_is_name T.f_is_name.kp (b_is_name T) .nil pass0 (pa_cons (pv 1) pa_nil)) (pa_cons (pg_callK0 (ok_is_name T) gd (hr.mono (by decide)) (by rfl) T.m_is_name T.f_is_name.kp (kw_is_name_0_value T) pass0 (pk_cons (pv 5) pk_nil)) pa_nil))) pa_nil)) (pe_callB (call_reprX gd hr) (by rfl) T.z_repr (by decide +kernel) (pa_cons (pe_lst (pa_cons (pe_chain op_le op_le (pe_int) (pe_callB call_len_str (by rfl) T.z_len (by decide +kernel) (pa_cons (pv 1) pa_nil)) (pe_int)) (pa_cons (pe_and (pe_cmpR op_eq (pv 4) (pe_str) (nomark _)) (pe_one (pe_chain op_le op_le (pe_int) (pe_callB call_len_str (by rfl) T.z_len (by decide +kernel) (pa_cons (pv 1) pa_nil)) (pe_int)))) pa_nil))) pa_nil)) (nomark _))
        (pss_one (ps_ret (pe_bl)))
        pss_nil)
      (pss_one (ps_ret (pe_cmpR (op_eqX hr.units) (pe_lc (own := [("odd", 6)]) (g := gName 6) rfl sc_Lnames_right.nd (pi_tup (pe_tup (pa_cons (pe_non) (pa_cons (pe_bl) (pa_cons (pe_int) (pa_cons (pe_lst (pa_cons (pv 1) pa_nil)) (pa_cons (pe_tup (pa_cons (pv 1) pa_nil)) (pa_cons (pe_dnewK) (pa_cons (pe_lst (pa_cons (pe_str) pa_nil)) (pa_cons (pe_tup (pa_cons (pe_str) (pa_cons (pe_str) pa_nil))) pa_nil)))))))))) (blkOk_by (own := [("odd", 6)]) (N := N_Lnames_right) (sc := defScope s_Lnames_right) (by decide +kernel)) (fun _ _ _ _ _ => (pg_name (i := 6) sc_Lnames_right.nd rfl (Or.inl rfl))) (fun _ _ _ _ _ => (pts_one (pt_cmpR op_notBl (pg_call (ok_is_name T) gd (hr.mono (by decide)) (by rfl) T.m_is_name T.f_is_name.kp (b_is_name T) .nil pass0 (pa_cons (pv 6) pa_nil)) (pe_bl) (nomark _)))) (fun _ _ _ _ _ => pv 6)) (pe_lst pa_nil) (nomark _))))))))), ?_⟩
    -- letters
    refine ⟨⟨_, rfl⟩, _, rfl, p, c, 15, n, rfl, r, by omega, by decide, by decide, fun m H1 m0 m1 k1 _ => ?_⟩
    refine ⟨m, rfl, by omega, by omega, fun D hD => ?_⟩
    have nD := k1.ne hD
    have cD := k1.nc hD
    refine lc_range (lo := 0) (n := m.toNat) (fun i H' => ∃ cs : List Nat, H' D = some (.lst ((cs.map fun c => (⟨#[c]⟩ : Str)).map V.str)) ∧ cs.length = i ∧ (∀ c, c ∈ cs → inL c = true) ∧ Rk H' p c (n + 1 + i)) ⟨[], upd_same, rfl, fun c hc => (by cases hc), k1.kp (Ex.nw hD)⟩ ?_ ?_
    · rintro i H2 hi ⟨cs, g2, hl, al, k2⟩
      refine ⟨rfl, ?_⟩
      refine ⟨_, rfl, p, c, _, _, rfl, k2, by omega, .inr ⟨LET, rfl, by decide +kernel, by decide +kernel, fun s H3 hs k3 kp3 => ?_⟩⟩
      refine ⟨_, kp3 _ _ nD g2, (by rw [List.length_map, List.length_map]; exact sz_ok (by omega)), cs ++ [s], ?_, ?_, fun c hc => ?_, ?_⟩
      · rw [List.map_append, List.map_append]; exact upd_same
      · rw [List.length_append, hl]; rfl
      · rcases List.mem_append.mp hc with hc | hc
        · exact al c hc
        · rw [List.mem_singleton.mp hc]; exact decide_eq_true hs
      · exact k3.up nD cD
    · rintro H2 ⟨cs, g2, hl, al, k2⟩
      refine ⟨_, D, cs.map fun c => (⟨#[c]⟩ : Str), rfl, rfl, .inl (SqL.of g2), ?_, ?_⟩
      · rw [sum_signs, List.length_map]
        show cs.length + cs.length * 0 ≤ 16777216
        omega
      have hz := join_signs cs
      generalize Txt.join (Str.ofString "") (cs.map fun c => (⟨#[c]⟩ : Str)) = z at hz ⊢
      have lz : z.length = cs.length := by rw [← hz, Array.length_toList]; rfl
      have lz14 : z.length ≤ 14 := by omega
      -- at, sign
      refine ⟨_, rfl, _, rfl, z, rfl, sz_le (by omega), _, _, rfl, rfl, p, c, _, _, rfl, k2, by omega, by omega, by omega, fun at' H3 a0 a1 k3 kp3 => ?_⟩
      refine ⟨_, rfl, (show 14 ≤ sizeLine by decide), fun u hu => ?_⟩
      have y3 := Ex.nw (o := .lst ((["A", "Z", "0", "9", " ", "-", "_", "\n", ".", "/", "{", "`", "\t", ""].map Str.ofString).map V.str)) hu
      refine ⟨p, c, .ref u, _, rfl, k3.kp y3, by omega, .inl ⟨u, _, rfl, k3.ne hu, upd_same, by simp, by show 14 < 1000000; decide, fun v H4 hv k4 kp4 => ?_⟩⟩
      have hv' : ∃ y : Str, v = .str y ∧ y.length ≤ 1 ∧ (tl y = [] ∨ ∃ c, c ∈ tl y ∧ inL c = false) ∧ (decide (V.str y = V.str (Str.ofString "")) = decide (tl y = [])) := by
        have hd : ∀ y : Str, (decide (V.str y = V.str (Str.ofString "")) = decide (tl y = [])) := fun y => decide_eq_decide.mpr ⟨fun e => by cases e; decide +kernel, fun e => by rw [ext_tl (x := y) (y := Str.ofString "") (e.trans (by decide +kernel))]⟩
        have : v ∈ (["A", "Z", "0", "9", " ", "-", "_", "\n", ".", "/", "{", "`", "\t", ""].map Str.ofString).map V.str := hv
        obtain ⟨y, hy, rfl⟩ := List.mem_map.mp this
        refine ⟨y, rfl, ?_, ?_, hd y⟩
        · revert y; decide +kernel
        · revert y; decide +kernel
      obtain ⟨y, rfl, ly, ys, hdy⟩ := hv'
      clear hv y3 kp3 kp4 hu g2 k2 k3
      refine ⟨_, _, rfl, ?_⟩
      -- bent
      have hcut := cut_two z at' a0
      have lenA : (cutS z none (some at')).length + (cutS z (some at') none).length = z.length := by
        rw [len_tl, len_tl, len_tl, ← hcut, List.length_append]
      refine ⟨_, rfl, _, rfl, at', rfl, z, rfl, sz_le (by omega), _, rfl, _, _, rfl, rfl, sz_le (by omega), _, rfl, _, rfl, at', rfl, z, rfl, sz_le (by omega), _, _, rfl, rfl, ?_, ?_⟩
      · rw [len_tl, tl_append, List.length_append, ← len_tl, ← len_tl]; exact sz_le (by omega)
      have hbt : (cutS z none (some at') ++ y ++ cutS z (some at') none).cps.toList = tl (cutS z none (some at')) ++ tl y ++ tl (cutS z (some at') none) := by
        show tl _ = _
        rw [tl_append, tl_append]
      have lbt : (cutS z none (some at') ++ y ++ cutS z (some at') none).length ≤ 100000 := by
        rw [len_tl, tl_append, tl_append, List.length_append, List.length_append, ← len_tl, ← len_tl, ← len_tl]; omega
      have nbt := nameB_bent (tl z) (tl y) _ _ hcut (fun c hc => al c (by rw [← hz]; exact hc)) ys _ hbt
      have nz := nameB_bent (tl z) [] (tl z) [] (List.append_nil _) (fun c hc => al c (by rw [← hz]; exact hc)) (.inl rfl) z (by rw [List.append_nil, List.append_nil])
      rw [decide_eq_true rfl, Bool.true_and, ← len_tl] at nz
      rw [← len_tl] at nbt
      have cz : (decide ((1 : Int) ≤ (z.length : Int)) && decide ((z.length : Int) ≤ 12)) = (decide (1 ≤ z.length) && decide (z.length ≤ 12)) := by
        congr 1 <;> (apply decide_eq_decide.mpr; omega)
      generalize cutS z none (some at') ++ y ++ cutS z (some at') none = bt at hbt lbt nbt ⊢
      generalize hB : (decide (1 ≤ z.length) && decide (z.length ≤ 12)) = B at nz nbt cz
      -- the check
      refine ⟨_, rfl, p, .str z, rfl, .str z, (fun z' e => by cases e; omega), fun H5 e5 => ⟨_, rfl, rfl, rfl, p, .str bt, rfl, .str bt, (fun z' e => by cases e; omega), fun H6 e6 => ⟨(show 2 ≤ sizeLine by decide), fun d hd => ?_⟩⟩⟩
      have hN1 : isNm (.str z) = B := nz
      have hN2 : isNm (.str bt) = (decide (tl y = []) && B) := nbt
      rw [hN1, hN2]
      have y7 := Ex.nw (o := .lst [.bl B, .bl (decide (tl y = []) && B)]) hd
      refine .inl ⟨d, [B, decide (tl y = []) && B], rfl, upd_same, (show 2 ≤ 1000 by decide), ?_⟩
      dsimp only [tNext, tSeq, tRet, tCB, tCons, tNil]
      refine va_chain (a := 1) (b := (z.length : Int)) (c := 12) va_c (fun Q q => ⟨_, rfl, z, rfl, sz_le (by omega), q⟩) va_c _ ?_
      refine va_and (a := decide (V.str y = V.str (Str.ofString ""))) (fun Q q => ⟨_, rfl, rfl, q⟩) (va_chain (a := 1) (b := (z.length : Int)) (c := 12) va_c (fun Q q => ⟨_, rfl, z, rfl, sz_le (by omega), q⟩) va_c) _ ?_
      rw [cz, hdy]
      refine ⟨(show 2 ≤ sizeLine by decide), fun d2 hd2 => ?_⟩
      have y8 := Ex.nw (o := .lst [.bl B, .bl (decide (tl y = []) && B)]) hd2
      refine .inl ⟨d2, [B, decide (tl y = []) && B], rfl, upd_same, (show 2 ≤ 1000 by decide), rfl, _, rfl, ?_⟩
      rw [decide_eq_true rfl]
      refine iteF ?_
      have x9 := (((e5.tr e6).tr y7).tr y8)
      generalize upd (upd H6 d (.lst [.bl B, .bl (decide (tl y = []) && B)])) d2 (.lst [.bl B, .bl (decide (tl y = []) && B)]) = H9 at x9 ⊢
      have k9 := k4.kp x9
      dsimp only [tOp]
      refine lc_none (p := p) (fun xs H1 => ∀ x, x ∈ xs → Kd p H1 x ∧ ∀ z, x ≠ .str z) ?_ ?_ ?_
      · intro R hR
        refine ⟨_, rfl, (show 1 ≤ sizeLine by decide), fun l1 hl1 => ?_⟩
        refine ⟨_, rfl, (show 1 ≤ sizeLine by decide), fun l2 hl2 => ?_⟩
        intro l3 hl3
        refine ⟨(show 1 ≤ sizeLine by decide), fun l4 hl4 => ?_⟩
        refine ⟨(show 2 ≤ sizeLine by decide), fun l5 hl5 => ?_⟩
        refine ⟨(show 8 ≤ sizeLine by decide), fun l6 hl6 => ?_⟩
        have w1 := Ex.nw (o := .lst [.str z]) hl1
        have w2 := Ex.nw (o := .tup [.str z]) hl2
        have w3 := Ex.nw (o := .dK []) hl3
        have w4 := Ex.nw (o := .lst [.str (Str.ofString "a")]) hl4
        have w5 := Ex.nw (o := .tup [.str (Str.ofString "a"), .str (Str.ofString "b")]) hl5
        have w6 := Ex.nw (o := .tup [.non, .bl true, .int 5, .ref l1, .ref l2, .ref l3, .ref l4, .ref l5]) hl6
        have n1 := k9.ne hl1
        have n2 := (k9.kp w1).ne hl2
        have n3 := (k9.kp (w1.tr w2)).ne hl3
        have n4 := (k9.kp ((w1.tr w2).tr w3)).ne hl4
        have n5 := (k9.kp (((w1.tr w2).tr w3).tr w4)).ne hl5
        have n6 := (k9.kp ((((w1.tr w2).tr w3).tr w4).tr w5)).ne hl6
        refine ⟨l6, rfl, ⟨_, SqT.of upd_same⟩, hR _ _ [.non, .bl true, .int 5, .ref l1, .ref l2, .ref l3, .ref l4, .ref l5] (((((w1.tr w2).tr w3).tr w4).tr w5).tr w6) ?_ (walk_tup.mono (fun H2 k => SqT.of (k _ _ n6 upd_same)) fun _ _ _ _ _ _ y => y)⟩
        intro x hx
        simp only [List.mem_cons, List.not_mem_nil, or_false] at hx
        rcases hx with rfl | rfl | rfl | rfl | rfl | rfl | rfl | rfl
        · exact ⟨.non, fun z e => by cases e⟩
        · exact ⟨.bl true, fun z e => by cases e⟩
        · exact ⟨.int 5, fun z e => by cases e⟩
        · exact ⟨.l1 n1 (w6 _ _ (w5 _ _ (w4 _ _ (w3 _ _ (w2 _ _ upd_same))))) (.str z), fun z e => by cases e⟩
        · exact ⟨.t1 n2 (w6 _ _ (w5 _ _ (w4 _ _ (w3 _ _ upd_same)))) (.str z), fun z e => by cases e⟩
        · exact ⟨.dK n3 (w6 _ _ (w5 _ _ (w4 _ _ upd_same))), fun z e => by cases e⟩
        · exact ⟨.l1 n4 (w6 _ _ (w5 _ _ upd_same)) (.str _), fun z e => by cases e⟩
        · exact ⟨.t2 n5 (w6 _ _ upd_same) (.str _) (.str _), fun z e => by cases e⟩
      · intro xs H10 e10 pr x hx H11 e11 Q1 q1
        refine ⟨_, rfl, p, x, rfl, (pr x hx).1.ex e11, (fun z' e => absurd e ((pr x hx).2 z')), fun H12 e12 => ⟨_, _, rfl, rfl, _, rfl, ?_⟩⟩
        rw [isNm_no (pr x hx).2]
        exact q1 _ e12
      · intro D' H10 hD' g10 e10
        refine ⟨Nat.zero_le _, fun b hb => ?_⟩
        have e21 := Ex.nw (o := .lst []) hb
        exact .inl ⟨D', b, _, rfl, rfl, e21 _ _ g10, upd_same, k _ ((k9.kp (e10.tr e21)).more (by omega))⟩
end
end Mine
namespace Mine
open PySem PySem.Spec PyProof.Rows L2 GL
section
variable {P : Program} {w : World} {K : PySem.W.Frag} {mg : Str → Option Value} {base : Heap} {fs : Nat → Addr} {fd : Nat → FuncData} {tk : Nat → Tok}
theorem ok_law (T : Txt K mg fs fd tk) : FnG P w K mg base CX0 5 (fs 14) (fd 14) P_law (spLaw K) := by
  refine Fun.okG T.f_law sc_law (fun vs H Q E h => ?_) (fun cd A out s H vs Q E gd hr h => ?_)
  · obtain ⟨a, ns, rfl, _⟩ := h
    rfl
  · obtain ⟨a, ns, rfl, hS, hl, k⟩ := h
    refine ⟨_, PSs.nox ((pss_cons (ps_set (i := 1) sc_law.nd rfl (by first | exact Or.inl rfl | exact Or.inr rfl) (pg_call (ok_Lrack T) gd (hr.mono (by decide)) (by rfl) T.m_Lrack T.f_Lrack.kp (b_Lrack T) .nil pass0 (pa_cons (pv 0) pa_nil)))
      (pss_cons (ps_for PassesOwn.never rfl (pi_range1 (by rfl) T.z_range (pa_cons (pe_int) pa_nil)) (pg_name (i := 2) sc_law.nd rfl (by first | exact Or.inl rfl | exact Or.inr rfl))
        (pss_one (ps_if (PW.pt (pw_or (pt_not (pt_val (pg_call (ok_Lnumbers_right T) gd (hr.mono (by decide)) (by rfl) T.m_Lnumbers_right T.f_Lnumbers_right.kp (b_Lnumbers_right T) .nil pass0 (pa_cons (pv 1) pa_nil)))) (pw_or (pt_not (pt_val (pg_call (ok_Llists_right T) gd (hr.mono (by decide)) (by rfl) T.m_Llists_right T.f_Llists_right.kp (b_Llists_right T) .nil pass0 (pa_cons (pv 1) pa_nil)))) (pw_or (pt_not (pt_val (pg_call (ok_Llots_right T) gd (hr.mono (by decide)) (by rfl) T.m_Llots_right T.f_Llots_right.kp (b_Llots_right T) .nil pass0 (pa_cons (pv 1) pa_nil)))) (pw_or1 (pt_not (pt_val (pg_call (ok_Lnames_right T) gd (hr.mono (by decide)) (by rfl) T.m_Lnames_right T.f_Lnames_right.kp (b_Lnames_right T) .nil pass0 (pa_cons (pv 1) pa_nil)))))))))
          (pss_one (ps_ret (pe_bl)))
          pss_nil)))
      (pss_one (ps_ret (pe_bl)))))), ?_⟩
    refine ⟨_, rfl, a, ns, rfl, hS, hl, fun p c H1 hp r e1 => ?_⟩
    dsimp only [gName, tSeq]
    refine ⟨4, rfl, by decide, by decide, ?_⟩
    refine for_range (lo := 0) (n := 4) (fun i σ' H' => (∃ y, σ' = [some (.ref a), some (.ref p), y]) ∧ Rk H' p c (400 * i)) ⟨⟨_, rfl⟩, r⟩ ?_ ?_
    · rintro i σ' H2 hi ⟨⟨y, rfl⟩, r2⟩
      refine ⟨_, rfl, p, c, _, rfl, r2, by omega, fun H3 r3 => ⟨_, rfl, iteF ?_⟩⟩
      refine ⟨_, rfl, p, c, _, rfl, r3, by omega, fun H4 r4 => ⟨_, rfl, iteF ?_⟩⟩
      refine ⟨_, rfl, p, c, _, rfl, r4, by omega, fun H5 r5 => ⟨_, rfl, iteF ?_⟩⟩
      refine ⟨_, rfl, p, c, _, rfl, r5, by omega, fun H6 r6 => ⟨_, rfl, iteF ?_⟩⟩
      exact ⟨⟨_, rfl⟩, r6.more (by omega)⟩
    · rintro σ' H2 ⟨⟨y, rfl⟩, r2⟩
      exact k H2
end
end Mine
namespace Mine
open PySem PySem.Spec PyProof.Rows L2 GL
theorem all_mk {l : PySem.W.OpenLaw} {w : World} {K : PySem.W.Frag} {h : Heap} {mg : Str → Option Value} {fa : Addr} (X : K.In h) (G : h.Ns mainGlobals mg) (hfa : mg "law" = some (.ref fa))
    {f0 f1 f2 f3 f4 f5 f6 f7 f8 f9 f10 f11 f12 f13 f14 : Addr} {od0 od1 od2 od3 od4 od5 od6 od7 od8 od9 od10 od11 od12 od13 od14 an0 an1 an2 an3 an4 an5 an6 an7 an8 an9 an10 an11 an12 an13 an14 : Option Addr} {sl0 sl1 sl2 sl3 sl4 sl5 sl6 sl7 sl8 sl9 sl10 sl11 sl12 sl13 sl14 : Array (Option Value)}
    {oc0 kV0 dc0 pm0 cd0 ct0 oc1 kV1 dc1 pm1 cd1 ct1 oc2 kV2 dc2 pm2 cd2 ct2 oc3 kV3 dc3 pm3 cd3 ct3 oc4 kV4 dc4 pm4 cd4 ct4 oc5 kV5 dc5 pm5 cd5 ct5 oc6 kV6 dc6 pm6 cd6 ct6 oc7 kV7 dc7 pm7 cd7 ct7 oc8 kV8 dc8 pm8 cd8 ct8 oc9 kV9 dc9 pm9 cd9 ct9 oc10 kV10 dc10 pm10 cd10 ct10 oc11 kV11 dc11 pm11 cd11 ct11 oc12 kV12 dc12 pm12 cd12 ct12 oc13 kV13 dc13 pm13 cd13 ct13 oc14 kV14 dc14 pm14 cd14 ct14 : Value}
    {t0 t1 : Tok}
    (a0 : PySem.W.nsIn K mainGlobals "is_integer" = some (some (.ref f0))) (l0 : K.lookup f0 = some ⟨oc0, od0, .func (PySem.W.fnOf "is_integer" "is_integer" (defArgs s_is_integer) (defBody s_is_integer) (defScope s_is_integer) .none kV0 dc0 pm0 an0 cd0 ct0), sl0⟩) (c0 : PySem.W.codeIn K cd0 "is_integer" = true) (k0 : PySem.W.keepIn K (.ref f0) = true)
    (a1 : PySem.W.nsIn K mainGlobals "is_within" = some (some (.ref f1))) (l1 : K.lookup f1 = some ⟨oc1, od1, .func (PySem.W.fnOf "is_within" "is_within" (defArgs s_is_within) (defBody s_is_within) (defScope s_is_within) .none kV1 dc1 pm1 an1 cd1 ct1), sl1⟩) (c1 : PySem.W.codeIn K cd1 "is_within" = true) (k1 : PySem.W.keepIn K (.ref f1) = true)
    (a2 : PySem.W.nsIn K mainGlobals "are_integers" = some (some (.ref f2))) (l2 : K.lookup f2 = some ⟨oc2, od2, .func (PySem.W.fnOf "are_integers" "are_integers" (defArgs s_are_integers) (defBody s_are_integers) (defScope s_are_integers) .none kV2 dc2 pm2 an2 cd2 ct2), sl2⟩) (c2 : PySem.W.codeIn K cd2 "are_integers" = true) (k2 : PySem.W.keepIn K (.ref f2) = true)
    (a3 : PySem.W.nsIn K mainGlobals "is_lot" = some (some (.ref f3))) (l3 : K.lookup f3 = some ⟨oc3, od3, .func (PySem.W.fnOf "is_lot" "is_lot" (defArgs s_is_lot) (defBody s_is_lot) (defScope s_is_lot) .none kV3 dc3 pm3 an3 cd3 ct3), sl3⟩) (c3 : PySem.W.codeIn K cd3 "is_lot" = true) (k3 : PySem.W.keepIn K (.ref f3) = true)
    (a4 : PySem.W.nsIn K mainGlobals "is_name" = some (some (.ref f4))) (l4 : K.lookup f4 = some ⟨oc4, od4, .func (PySem.W.fnOf "is_name" "is_name" (defArgs s_is_name) (defBody s_is_name) (defScope s_is_name) .none kV4 dc4 pm4 an4 cd4 ct4), sl4⟩) (c4 : PySem.W.codeIn K cd4 "is_name" = true) (k4 : PySem.W.keepIn K (.ref f4) = true)
    (a5 : PySem.W.nsIn K mainGlobals "_law_rack" = some (some (.ref f5))) (l5 : K.lookup f5 = some ⟨oc5, od5, .func (PySem.W.fnOf "_law_rack" "_law_rack" (defArgs s_Lrack) (defBody s_Lrack) (defScope s_Lrack) .none kV5 dc5 pm5 an5 cd5 ct5), sl5⟩) (c5 : PySem.W.codeIn K cd5 "_law_rack" = true) (k5 : PySem.W.keepIn K (.ref f5) = true)
    (a6 : PySem.W.nsIn K mainGlobals "_law_turn_of" = some (some (.ref f6))) (l6 : K.lookup f6 = some ⟨oc6, od6, .func (PySem.W.fnOf "_law_turn_of" "_law_turn_of" (defArgs s_Lturn_of) (defBody s_Lturn_of) (defScope s_Lturn_of) .none kV6 dc6 pm6 an6 cd6 ct6), sl6⟩) (c6 : PySem.W.codeIn K cd6 "_law_turn_of" = true) (k6 : PySem.W.keepIn K (.ref f6) = true)
    (a7 : PySem.W.nsIn K mainGlobals "_law_pick" = some (some (.ref f7))) (l7 : K.lookup f7 = some ⟨oc7, od7, .func (PySem.W.fnOf "_law_pick" "_law_pick" (defArgs s_Lpick) (defBody s_Lpick) (defScope s_Lpick) .none kV7 dc7 pm7 an7 cd7 ct7), sl7⟩) (c7 : PySem.W.codeIn K cd7 "_law_pick" = true) (k7 : PySem.W.keepIn K (.ref f7) = true)
    (a8 : PySem.W.nsIn K mainGlobals "_law_whole" = some (some (.ref f8))) (l8 : K.lookup f8 = some ⟨oc8, od8, .func (PySem.W.fnOf "_law_whole" "_law_whole" (defArgs s_Lwhole) (defBody s_Lwhole) (defScope s_Lwhole) .none kV8 dc8 pm8 an8 cd8 ct8), sl8⟩) (c8 : PySem.W.codeIn K cd8 "_law_whole" = true) (k8 : PySem.W.keepIn K (.ref f8) = true)
    (a9 : PySem.W.nsIn K mainGlobals "_law_odd" = some (some (.ref f9))) (l9 : K.lookup f9 = some ⟨oc9, od9, .func (PySem.W.fnOf "_law_odd" "_law_odd" (defArgs s_Lodd) (defBody s_Lodd) (defScope s_Lodd) .none kV9 dc9 pm9 an9 cd9 ct9), sl9⟩) (c9 : PySem.W.codeIn K cd9 "_law_odd" = true) (k9 : PySem.W.keepIn K (.ref f9) = true)
    (a10 : PySem.W.nsIn K mainGlobals "_law_numbers_right" = some (some (.ref f10))) (l10 : K.lookup f10 = some ⟨oc10, od10, .func (PySem.W.fnOf "_law_numbers_right" "_law_numbers_right" (defArgs s_Lnumbers_right) (defBody s_Lnumbers_right) (defScope s_Lnumbers_right) .none kV10 dc10 pm10 an10 cd10 ct10), sl10⟩) (c10 : PySem.W.codeIn K cd10 "_law_numbers_right" = true) (k10 : PySem.W.keepIn K (.ref f10) = true)
    (a11 : PySem.W.nsIn K mainGlobals "_law_lists_right" = some (some (.ref f11))) (l11 : K.lookup f11 = some ⟨oc11, od11, .func (PySem.W.fnOf "_law_lists_right" "_law_lists_right" (defArgs s_Llists_right) (defBody s_Llists_right) (defScope s_Llists_right) .none kV11 dc11 pm11 an11 cd11 ct11), sl11⟩) (c11 : PySem.W.codeIn K cd11 "_law_lists_right" = true) (k11 : PySem.W.keepIn K (.ref f11) = true)
    (a12 : PySem.W.nsIn K mainGlobals "_law_lots_right" = some (some (.ref f12))) (l12 : K.lookup f12 = some ⟨oc12, od12, .func (PySem.W.fnOf "_law_lots_right" "_law_lots_right" (defArgs s_Llots_right) (defBody s_Llots_right) (defScope s_Llots_right) .none kV12 dc12 pm12 an12 cd12 ct12), sl12⟩) (c12 : PySem.W.codeIn K cd12 "_law_lots_right" = true) (k12 : PySem.W.keepIn K (.ref f12) = true)
    (a13 : PySem.W.nsIn K mainGlobals "_law_names_right" = some (some (.ref f13))) (l13 : K.lookup f13 = some ⟨oc13, od13, .func (PySem.W.fnOf "_law_names_right" "_law_names_right" (defArgs s_Lnames_right) (defBody s_Lnames_right) (defScope s_Lnames_right) .none kV13 dc13 pm13 an13 cd13 ct13), sl13⟩) (c13 : PySem.W.codeIn K cd13 "_law_names_right" = true) (k13 : PySem.W.keepIn K (.ref f13) = true)
    (a14 : PySem.W.nsIn K mainGlobals "law" = some (some (.ref f14))) (l14 : K.lookup f14 = some ⟨oc14, od14, .func (PySem.W.fnOf "law" "law" (defArgs s_law) (defBody s_law) (defScope s_law) .none kV14 dc14 pm14 an14 cd14 ct14), sl14⟩) (c14 : PySem.W.codeIn K cd14 "law" = true) (k14 : PySem.W.keepIn K (.ref f14) = true)
    (v0 : PySem.W.nsIn K mainGlobals "LETTERS" = some (some (.str "abcdefghijklmnopqrstuvwxyz" t0)))
    (v1 : PySem.W.nsIn K mainGlobals "LONGEST_NAME" = some (some (.int 12 t1)))
    (z0 : PySem.W.nsIn K mainGlobals "abs" = some none)
    (z1 : PySem.W.nsIn K mainGlobals "all" = some none)
    (z2 : PySem.W.nsIn K mainGlobals "bool" = some none)
    (z3 : PySem.W.nsIn K mainGlobals "int" = some none)
    (z4 : PySem.W.nsIn K mainGlobals "isinstance" = some none)
    (z5 : PySem.W.nsIn K mainGlobals "len" = some none)
    (z6 : PySem.W.nsIn K mainGlobals "list" = some none)
    (z7 : PySem.W.nsIn K mainGlobals "range" = some none)
    (z8 : PySem.W.nsIn K mainGlobals "repr" = some none)
    (z9 : PySem.W.nsIn K mainGlobals "str" = some none)
    (z10 : PySem.W.nsIn K mainGlobals "tuple" = some none)
    : ∃ fd : FuncData, (∀ (s : Shared) (v : Value), BindsTo s fd ⟨[v], []⟩ [(P_law.head!, v)]) ∧ ∀ base : Heap, K.In base → base.Ns mainGlobals mg → FnG l.prog w K mg base CX0 5 fa fd P_law (spLaw K) := by
  have e := hfa.symm.trans (PySem.W.mg_of X G a14)
  cases e
  have T : Txt K mg (fun i => match i with | 0 => f0 | 1 => f1 | 2 => f2 | 3 => f3 | 4 => f4 | 5 => f5 | 6 => f6 | 7 => f7 | 8 => f8 | 9 => f9 | 10 => f10 | 11 => f11 | 12 => f12 | 13 => f13 | 14 => fa | _ => fa) (fun i => match i with | 0 => PySem.W.fnOf "is_integer" "is_integer" (defArgs s_is_integer) (defBody s_is_integer) (defScope s_is_integer) .none kV0 dc0 pm0 an0 cd0 ct0 | 1 => PySem.W.fnOf "is_within" "is_within" (defArgs s_is_within) (defBody s_is_within) (defScope s_is_within) .none kV1 dc1 pm1 an1 cd1 ct1 | 2 => PySem.W.fnOf "are_integers" "are_integers" (defArgs s_are_integers) (defBody s_are_integers) (defScope s_are_integers) .none kV2 dc2 pm2 an2 cd2 ct2 | 3 => PySem.W.fnOf "is_lot" "is_lot" (defArgs s_is_lot) (defBody s_is_lot) (defScope s_is_lot) .none kV3 dc3 pm3 an3 cd3 ct3 | 4 => PySem.W.fnOf "is_name" "is_name" (defArgs s_is_name) (defBody s_is_name) (defScope s_is_name) .none kV4 dc4 pm4 an4 cd4 ct4 | 5 => PySem.W.fnOf "_law_rack" "_law_rack" (defArgs s_Lrack) (defBody s_Lrack) (defScope s_Lrack) .none kV5 dc5 pm5 an5 cd5 ct5 | 6 => PySem.W.fnOf "_law_turn_of" "_law_turn_of" (defArgs s_Lturn_of) (defBody s_Lturn_of) (defScope s_Lturn_of) .none kV6 dc6 pm6 an6 cd6 ct6 | 7 => PySem.W.fnOf "_law_pick" "_law_pick" (defArgs s_Lpick) (defBody s_Lpick) (defScope s_Lpick) .none kV7 dc7 pm7 an7 cd7 ct7 | 8 => PySem.W.fnOf "_law_whole" "_law_whole" (defArgs s_Lwhole) (defBody s_Lwhole) (defScope s_Lwhole) .none kV8 dc8 pm8 an8 cd8 ct8 | 9 => PySem.W.fnOf "_law_odd" "_law_odd" (defArgs s_Lodd) (defBody s_Lodd) (defScope s_Lodd) .none kV9 dc9 pm9 an9 cd9 ct9 | 10 => PySem.W.fnOf "_law_numbers_right" "_law_numbers_right" (defArgs s_Lnumbers_right) (defBody s_Lnumbers_right) (defScope s_Lnumbers_right) .none kV10 dc10 pm10 an10 cd10 ct10 | 11 => PySem.W.fnOf "_law_lists_right" "_law_lists_right" (defArgs s_Llists_right) (defBody s_Llists_right) (defScope s_Llists_right) .none kV11 dc11 pm11 an11 cd11 ct11 | 12 => PySem.W.fnOf "_law_lots_right" "_law_lots_right" (defArgs s_Llots_right) (defBody s_Llots_right) (defScope s_Llots_right) .none kV12 dc12 pm12 an12 cd12 ct12 | 13 => PySem.W.fnOf "_law_names_right" "_law_names_right" (defArgs s_Lnames_right) (defBody s_Lnames_right) (defScope s_Lnames_right) .none kV13 dc13 pm13 an13 cd13 ct13 | 14 => PySem.W.fnOf "law" "law" (defArgs s_law) (defBody s_law) (defScope s_law) .none kV14 dc14 pm14 an14 cd14 ct14 | _ => PySem.W.fnOf "is_integer" "is_integer" (defArgs s_is_integer) (defBody s_is_integer) (defScope s_is_integer) .none kV0 dc0 pm0 an0 cd0 ct0) (fun i => match i with | 0 => t0 | 1 => t1 | _ => 0) :=
    ⟨fun_mk (st := s_is_integer) l0 c0 k0, PySem.W.mg_of X G a0, fun_mk (st := s_is_within) l1 c1 k1, PySem.W.mg_of X G a1, fun_mk (st := s_are_integers) l2 c2 k2, PySem.W.mg_of X G a2, fun_mk (st := s_is_lot) l3 c3 k3, PySem.W.mg_of X G a3, fun_mk (st := s_is_name) l4 c4 k4, PySem.W.mg_of X G a4, fun_mk (st := s_Lrack) l5 c5 k5, PySem.W.mg_of X G a5, fun_mk (st := s_Lturn_of) l6 c6 k6, PySem.W.mg_of X G a6, fun_mk (st := s_Lpick) l7 c7 k7, PySem.W.mg_of X G a7, fun_mk (st := s_Lwhole) l8 c8 k8, PySem.W.mg_of X G a8, fun_mk (st := s_Lodd) l9 c9 k9, PySem.W.mg_of X G a9, fun_mk (st := s_Lnumbers_right) l10 c10 k10, PySem.W.mg_of X G a10, fun_mk (st := s_Llists_right) l11 c11 k11, PySem.W.mg_of X G a11, fun_mk (st := s_Llots_right) l12 c12 k12, PySem.W.mg_of X G a12, fun_mk (st := s_Lnames_right) l13 c13 k13, PySem.W.mg_of X G a13, fun_mk (st := s_law) l14 c14 k14, PySem.W.mg_of X G a14, PySem.W.mg_of X G v0, PySem.W.mg_of X G v1, PySem.W.mg_none_of X G z0, PySem.W.mg_none_of X G z1, PySem.W.mg_none_of X G z2, PySem.W.mg_none_of X G z3, PySem.W.mg_none_of X G z4, PySem.W.mg_none_of X G z5, PySem.W.mg_none_of X G z6, PySem.W.mg_none_of X G z7, PySem.W.mg_none_of X G z8, PySem.W.mg_none_of X G z9, PySem.W.mg_none_of X G z10⟩
  exact ⟨PySem.W.fnOf "law" "law" (defArgs s_law) (defBody s_law) (defScope s_law) .none kV14 dc14 pm14 an14 cd14 ct14, fun s v => .of_eq rfl, fun base _ _ => ok_law T⟩
end Mine
open PySem PySem.W PyProof.Rows
set_option maxRecDepth 100000 in
set_option maxHeartbeats 0 in
theorem PySem.Challenge.cw_priceblind_k01_what_any_value_is_holds : PySem.Challenge.rw_priceblind_k01_what_any_value_is.Holds := by
  w_on; o_law; k_head; (case hw => w_witness2)
  k_fill
  refine GL.walkG (l := PySem.Challenge.rw_priceblind_k01_what_any_value_is) (n := 63) (k := 5) (x := Mine.P_law.head!) (cx := L2.CX0) (sp := fun K => Mine.spLaw K) rfl (by decide) rfl ⟨rfl, by decide, by decide⟩ (fun w h Y => PySem.W.kIn_of Y) ?F (fun K H a ns hl _ hS => Mine.law_pre hl hS) (fun _ _ _ _ z => z)
  case F =>
    intro w mg fa h KX G hmg
    refine' Mine.all_mk KX G hmg ?a0 ?l0 ?c0 ?k0 ?a1 ?l1 ?c1 ?k1 ?a2 ?l2 ?c2 ?k2 ?a3 ?l3 ?c3 ?k3 ?a4 ?l4 ?c4 ?k4 ?a5 ?l5 ?c5 ?k5 ?a6 ?l6 ?c6 ?k6 ?a7 ?l7 ?c7 ?k7 ?a8 ?l8 ?c8 ?k8 ?a9 ?l9 ?c9 ?k9 ?a10 ?l10 ?c10 ?k10 ?a11 ?l11 ?c11 ?k11 ?a12 ?l12 ?c12 ?k12 ?a13 ?l13 ?c13 ?k13 ?a14 ?l14 ?c14 ?k14 ?v0 ?v1 ?z0 ?z1 ?z2 ?z3 ?z4 ?z5 ?z6 ?z7 ?z8 ?z9 ?z10
    (case a0 => k_is)
    (case l0 => k_is)
    (case c0 => k_is)
    (case k0 => k_is)
    (case a1 => k_is)
    (case l1 => k_is)
    (case c1 => k_is)
    (case k1 => k_is)
    (case a2 => k_is)
    (case l2 => k_is)
    (case c2 => k_is)
    (case k2 => k_is)
    (case a3 => k_is)
    (case l3 => k_is)
    (case c3 => k_is)
    (case k3 => k_is)
    (case a4 => k_is)
    (case l4 => k_is)
    (case c4 => k_is)
    (case k4 => k_is)
    (case a5 => k_is)
    (case l5 => k_is)
    (case c5 => k_is)
    (case k5 => k_is)
    (case a6 => k_is)
    (case l6 => k_is)
    (case c6 => k_is)
    (case k6 => k_is)
    (case a7 => k_is)
    (case l7 => k_is)
    (case c7 => k_is)
    (case k7 => k_is)
    (case a8 => k_is)
    (case l8 => k_is)
    (case c8 => k_is)
    (case k8 => k_is)
    (case a9 => k_is)
    (case l9 => k_is)
    (case c9 => k_is)
    (case k9 => k_is)
    (case a10 => k_is)
    (case l10 => k_is)
    (case c10 => k_is)
    (case k10 => k_is)
    (case a11 => k_is)
    (case l11 => k_is)
    (case c11 => k_is)
    (case k11 => k_is)
    (case a12 => k_is)
    (case l12 => k_is)
    (case c12 => k_is)
    (case k12 => k_is)
    (case a13 => k_is)
    (case l13 => k_is)
    (case c13 => k_is)
    (case k13 => k_is)
    (case a14 => k_is)
    (case l14 => k_is)
    (case c14 => k_is)
    (case k14 => k_is)
    (case v0 => k_is)
    (case v1 => k_is)
    (case z0 => k_is)
    (case z1 => k_is)
    (case z2 => k_is)
    (case z3 => k_is)
    (case z4 => k_is)
    (case z5 => k_is)
    (case z6 => k_is)
    (case z7 => k_is)
    (case z8 => k_is)
    (case z9 => k_is)
    (case z10 => k_is)
