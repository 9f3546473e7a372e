import PyProof.Rows.All
import Wide.All
import OpenK.AllK
import Wide.FinOn
import HandS.ForMost
import HandS.IsInst
import HandS.Style
import HandS.Flow
import HandS.Evl
import HandS.Walk
import HandS.Conv
import HandS.SortInts
import HandS.ExcInit
import HandS.ExcIs
import HandS.ExcField
import HandS.TryMany
import KE.KExcIs
import HandS.ExcValue
import HandS.HotCalls
import KE.KDictZip
import PySem.Challenge.RW_priceblind_k00_errors_of_the_store
set_option Elab.async false
set_option linter.all false
set_option maxRecDepth 100000
set_option maxHeartbeats 4000000
/-! Our own layer over HandS: defs that are called where no repr is under way (guards known), repr of data, keyword calls. -/
namespace GL
open PySem PySem.Spec PyProof.Rows L2

structure FnG (pg : Program) (w : World) (K : PySem.W.Frag) (mg : Str → Option Value) (bs : Heap) (cx : CXT)
    (k : Nat) (f : Addr) (fd : FuncData) (ps : List Str) (sp : Sp) : Prop where
  len : ∀ vs H Q E, sp vs H Q E → vs.length = ps.length
  run : ∀ (A : Around) (out : List Env) (s : Shared) (H : Hp) (ar : Args) (us : List Value) (vs : List V) (Q : VK) (E : XK),
    A.guards = some [] → Room k A → Env0 pg w K mg bs A out s H → BindsTo s fd ar (ps.zip us) → Vals vs us → sp vs H Q E →
    codeAny (model pg w) A (.call (.ref f) ar) (CR cx out pg w H s Q E) s

theorem FnG.more {pg : Program} {w : World} {K : PySem.W.Frag} {mg : Str → Option Value} {bs : Heap} {cx : CXT} {j k : Nat} {f : Addr}
    {fd : FuncData} {ps : List Str} {sp : Sp} (F : FnG pg w K mg bs cx j f fd ps sp) (h : j ≤ k) : FnG pg w K mg bs cx k f fd ps sp :=
  ⟨F.len, fun A out s H ar us vs Q E hg rm => F.run A out s H ar us vs Q E hg (rm.mono h)⟩

theorem FnG.weak {pg : Program} {w : World} {K : PySem.W.Frag} {mg : Str → Option Value} {bs : Heap} {cx : CXT} {k : Nat} {f : Addr}
    {fd : FuncData} {ps : List Str} {sp sp' : Sp} (F : FnG pg w K mg bs cx k f fd ps sp) (h : ∀ vs H Q E, sp' vs H Q E → sp vs H Q E) :
    FnG pg w K mg bs cx k f fd ps sp' :=
  ⟨fun vs H Q E q => F.len vs H Q E (h _ _ _ _ q), fun A out s H ar us vs Q E hg rm e0 hb hv hs => F.run A out s H ar us vs Q E hg rm e0 hb hv (h _ _ _ _ hs)⟩

section
variable {pg : Program} {w : World} {K : PySem.W.Frag} {mg : Str → Option Value} {bs : Heap}

/-- a body's end is the call's end -/
theorem to_end {cx : CXT} {N : List Str} {q : Str} {sc : Scope} {f : Addr} {cd : Value} {A : Around} {out : List Env} {s s' : Shared} {H : Hp} {Q : VK} {E : XK}
    {τ : L2.St} {G : Hp} {v : V} {u : Value} (J : Inv (cxOf cx pg w K mg bs N q sc f cd A out s H E) [] τ G s') (rv : RelV v u) (z : Q v G) : CE out pg w H s Q u s' :=
  ⟨v, G, J.os, J.bare, J.base, J.hok, rv, z⟩

/-- a def by its body, the guards known -/
theorem Fun.okG {cx : CXT} {x q : Str} {st : Stmt} {f : Addr} {fd : FuncData} {N ps : List Str} {k : Nat} {sp : Sp} (F : Fun K x q st f fd)
    (S : FnScope N ps (defScope st)) (len : ∀ vs H Q E, sp vs H Q E → vs.length = ps.length)
    (hb : ∀ (cd : Value) (A : Around) (out : List Env) (s : Shared) (H : Hp) (vs : List V) (Q : VK) (E : XK), A.guards = some [] →
      Room k (A.deeper (envOfC q (defScope st) s.heap.objs.size f cd)) → sp vs H Q E →
      ∃ t, PSs (cxOf cx pg w K mg bs N q (defScope st) f cd A out s H E) (defBody st) t ∧ t { nx := fun _ H' => Q .non H', rt := Q } (start N vs) H) :
    FnG pg w K mg bs cx (k + 1) f fd ps sp := by
  obtain ⟨oc, od, kV, doc, pm, an, cd, ct, osl, rfl, lk, hcd⟩ := F.ex
  refine ⟨len, fun A out s H ar us vs Q E hg rm ev hbi rv hsp => ?_⟩
  have hle := len _ _ _ _ hsp
  have keepB : ∀ b o, bs.get? b = some o → s.heap.get? b = some o := fun b o z => (ev.bs b o z).1
  have KX : K.In s.heap := ev.mod.kin.keeps keepB
  have lim : s.heap.NoLimit := ev.mod.nolimit.keeps keepB
  have kinds : ∀ y ∈ ps.zip us, (defScope st).names.lookup y.1 = some .local ∨
      ((defScope st).names.lookup y.1 = some .cell ∧ ((cellsFrom (s.heap.objs.size + 1) (defScope st).names []).lookup y.1).isSome = true) := by
    rintro ⟨n, v⟩ hy
    rcases S.par n (List.of_mem_zip hy).1 with z | z
    · exact .inl z
    · exact .inr ⟨z, PySem.W.cellsFrom_some _ _ _ (.inl z)⟩
  have room := rm.depth
  refine codeAny_call_function room (KX _ _ lk) rfl S.co S.gen rfl (PySem.W.codeRec_of KX hcd) (hbi _ _ _ _ ?_)
  refine wpAny_newFunctionEnv_cells S.kind kinds fun env he s1 ic => ?_
  subst he
  refine ⟨lim.keeps ic.toInCall.keep, codeAny_func ?_⟩
  obtain ⟨t, ht, hq⟩ := hb cd A out s H vs Q E hg (rm.deeper _) hsp
  have J := inv_start (CX := cx) (E := E) S rm.hd ev hle rv ic
  refine wpAny_mono (ht.run [] s1 (start N vs) H _ J hq) (fun fl s' hs => ?_) fun e s' hs => hs
  cases fl with
  | ret u => exact (let ⟨_, _, _, J', rv', z⟩ := hs; to_end J' rv' z)
  | next => exact (let ⟨_, _, J', z⟩ := hs; to_end (v := V.non) (u := Value.none) J' rfl z)
  | brk => exact (let ⟨_, _, _, z⟩ := hs; False.elim z)
  | cont => exact (let ⟨_, _, _, z⟩ := hs; False.elim z)

/-- a promise at the call itself, over a state where the guards are known -/
theorem FnG.goes {X : Cx} {cx : CXT} {k : Nat} {f : Addr} {fd : FuncData} {ps : List Str} {sp : Sp} {E : XK} {pins : List (Addr × Obj)} {σ : L2.St} {H : Hp}
    {s : Shared} {Q : VK} {ar : Args} {us : List Value} {vs : List V} (F : FnG X.prog X.w X.K X.mg X.base cx k f fd ps sp) (gd : X.A.guards = some [])
    (rm : Room k X.A) (hb : BindsTo s fd ar (ps.zip us)) (hx : Passes cx X E) (I : Inv X pins σ H s) (r : Vals vs us) (h : sp vs H Q E) :
    codeAny (model X.prog X.w) X.A (.call (.ref f) ar) (wants (EP X pins σ Q) X.xe) s := by
  refine codeAny_mono (F.run X.A X.stack s H ar us vs Q E gd rm I.env0 hb r h) fun res s' hq => ?_
  cases res with
  | error e => exact hx pins σ H s e s' I hq
  | ok fl =>
    cases fl with
    | ret u => exact I.after hq
    | next => exact hq.elim
    | brk => exact hq.elim
    | cont => exact hq.elim
end
end GL
namespace GL
open PySem PySem.Spec PyProof.Rows L2
section
variable {X : Cx} {cx : CXT} {k : Nat} {f : Addr} {fd : FuncData} {ps ks : List Str} {sp : Sp} {dvs : List V} {ds : List Value} {E : XK}
  {x : Str} {p pos : Pos} {e : Expr} {es : List Expr} {kws : List Keyword} {t tk : TA}

/-- the callee, given its values -/
theorem FnG.call_vals {pins : List (Addr × Obj)} {σ : L2.St} {H : Hp} {s : Shared} {Q : VK} {us : List Value} {vs : List V}
    (F : FnG X.prog X.w X.K X.mg X.base cx k f fd ps sp) (gd : X.A.guards = some []) (rm : Room k X.A) (hb : Binds X.K fd ps ds) (hd : Vals dvs ds)
    (hx : Passes cx X E) (I : Inv X pins σ H s) (r : Vals vs us) (h : sp (vs ++ dvs) H Q E) :
    wpAny (model X.prog X.w) X.A (call (.ref f) us) (EP X pins σ Q) X.xe s := by
  have r2 := r.append hd
  have hl : (us ++ ds).length = ps.length := r2.length.symm.trans (F.len _ _ _ _ h)
  exact wpAny_call (F.goes gd rm (hb s us I.kIn hl) hx I r2 h)

/-- f(e, ..) -/
theorem pg_call (F : FnG X.prog X.w X.K X.mg X.base cx k f fd ps sp) (gd : X.A.guards = some []) (rm : Room k X.A) (hg : Gl X x)
    (hm : X.mg x = some (.ref f)) (kp : PySem.W.keepIn X.K (.ref f) = true) (hb : Binds X.K fd ps ds) (hd : Vals dvs ds) (hx : Passes cx X E) (ha : PA X (e :: es) t)
    (hdb : (x == ("__debug__" : Str)) = false := by decide) (hst : starEach (e :: es) X.env = (false, eval e X.env) :: starEach es X.env := by rfl)
    (hpl : (backTo pos (starEach es X.env)).any (·.1) = false := by rfl) : PE X (.Call (.Name x p) (e :: es) [] pos) (tCall sp dvs E t) := by
  refine ⟨fun pins s σ H Q I h => wpAny_Call_Name_kw (ld_glob I hg hm ?_ hdb)⟩
  refine PySem.W.callWith_K (h₀ := X.base) I.ok.mod.kin kp (thn (ha.run pos pins s σ H _ I h) ?_) hst hpl
  rintro us s1 ⟨vs, H1, I1, r, q⟩
  exact ⟨I1.kIn, F.call_vals gd rm hb hd hx I1 r q⟩

/-- f() -/
theorem pg_call0 (F : FnG X.prog X.w X.K X.mg X.base cx k f fd ps sp) (gd : X.A.guards = some []) (rm : Room k X.A) (hg : Gl X x)
    (hm : X.mg x = some (.ref f)) (kp : PySem.W.keepIn X.K (.ref f) = true) (hb : Binds X.K fd ps ds) (hd : Vals dvs ds) (hx : Passes cx X E)
    (hdb : (x == ("__debug__" : Str)) = false := by decide) : PE X (.Call (.Name x p) [] [] pos) (tCall sp dvs E tNil) :=
  ⟨fun pins s σ H Q I h => wpAny_Call_Name_kw (ld_glob I hg hm (PySem.W.callWith_K0 I.kIn kp (F.call_vals (us := []) gd rm hb hd hx I .nil h)) hdb)⟩

/-- how n values by place and the keywords ks bind -/
structure KwB (K : PySem.W.Frag) (fd : FuncData) (ps : List Str) (n : Nat) (ks : List Str) (g : {α : Type} → List α → List α → List α) : Prop where
  to : ∀ (s : Shared) (us ws : List Value), us.length = n → ws.length = ks.length → BindsTo s fd ⟨us, ks.zip ws⟩ (ps.zip (g us ws))
  rel : ∀ {vs : List V} {us : List Value} {zs : List V} {ws : List Value}, vs.length = n → zs.length = ks.length → Vals vs us → Vals zs ws → Vals (g vs zs) (g us ws)
variable {n : Nat} {g : {α : Type} → List α → List α → List α}
def tKw (n m : Nat) (sp : Sp) (g : {α : Type} → List α → List α → List α) (E : XK) (t tk : TA) : TE := fun σ H Q => t σ H fun vs H1 => tk σ H1 fun zs H2 =>
  vs.length = n ∧ zs.length = m ∧ sp (g vs zs) H2 Q E

theorem FnG.call_kw {pins : List (Addr × Obj)} {σ : L2.St} {H : Hp} {s : Shared} {Q : VK} {us ws : List Value} {vs zs : List V}
    (F : FnG X.prog X.w X.K X.mg X.base cx k f fd ps sp) (gd : X.A.guards = some []) (rm : Room k X.A) (hb : KwB X.K fd ps n ks g) (hx : Passes cx X E)
    (I : Inv X pins σ H s) (r : Vals vs us) (rz : Vals zs ws) (l1 : vs.length = n) (l2 : zs.length = ks.length) (h : sp (g vs zs) H Q E) :
    wpAny (model X.prog X.w) X.A (call (.ref f) us (ks.zip ws)) (EP X pins σ Q) X.xe s :=
  wpAny_call (F.goes gd rm (hb.to s us ws (r.length.symm.trans l1) (rz.length.symm.trans l2)) hx I (hb.rel l1 l2 r rz) h)

/-- f(e, .., k = v, ..) -/
theorem pg_callK (F : FnG X.prog X.w X.K X.mg X.base cx k f fd ps sp) (gd : X.A.guards = some []) (rm : Room k X.A) (hg : Gl X x)
    (hm : X.mg x = some (.ref f)) (kp : PySem.W.keepIn X.K (.ref f) = true) (hb : KwB X.K fd ps n ks g) (hx : Passes cx X E) (ha : PA X (e :: es) t) (hk : PK X kws tk)
    (hall : (backToKw pos (keywordEach kws X.env)).all (·.1.isSome) = true := by rfl) (hks : (backToKw pos (keywordEach kws X.env)).filterMap (·.1) = ks := by rfl)
    (hdb : (x == ("__debug__" : Str)) = false := by decide) (hst : starEach (e :: es) X.env = (false, eval e X.env) :: starEach es X.env := by rfl)
    (hpl : ((backTo pos (starEach (e :: es) X.env)).any (·.1) || (backToKw pos (keywordEach kws X.env)).any (·.1.isNone)) = false := by rfl) :
    PE X (.Call (.Name x p) (e :: es) kws pos) (tKw n ks.length sp g E t tk) := by
  refine ⟨fun pins s σ H Q I h => wpAny_Call_Name_kw (ld_glob I hg hm ?_ hdb)⟩
  refine PySem.W.callWith_KW (h₀ := X.base) I.ok.mod.kin kp hall (thn (ha.run pos pins s σ H _ I h) ?_) hpl hst
  rintro us s1 ⟨vs, H1, I1, r, q⟩
  refine thn (hk.run pos pins s1 σ H1 _ I1 q) ?_
  rintro ws s2 ⟨zs, H2, I2, rz, l1, l2, q2⟩
  rw [hks]
  exact ⟨I2.kIn, F.call_kw gd rm hb hx I2 r rz l1 l2 q2⟩

/-- f(k = v, ..) -/
theorem pg_callK0 (F : FnG X.prog X.w X.K X.mg X.base cx k f fd ps sp) (gd : X.A.guards = some []) (rm : Room k X.A) (hg : Gl X x)
    (hm : X.mg x = some (.ref f)) (kp : PySem.W.keepIn X.K (.ref f) = true) (hb : KwB X.K fd ps 0 ks g) (hx : Passes cx X E) (hk : PK X kws tk)
    (hall : (backToKw pos (keywordEach kws X.env)).all (·.1.isSome) = true := by rfl) (hks : (backToKw pos (keywordEach kws X.env)).filterMap (·.1) = ks := by rfl)
    (hdb : (x == ("__debug__" : Str)) = false := by decide)
    (hpl : ((backTo pos (starEach [] X.env)).any (·.1) || (backToKw pos (keywordEach kws X.env)).any (·.1.isNone)) = false := by rfl) :
    PE X (.Call (.Name x p) [] kws pos) (tKw 0 ks.length sp g E tNil tk) := by
  refine ⟨fun pins s σ H Q I h => wpAny_Call_Name_kw (ld_glob I hg hm ?_ hdb)⟩
  refine PySem.W.callWith_KW0 (h₀ := X.base) I.ok.mod.kin kp hall ?_ hpl
  refine thn (hk.run pos pins s σ H _ I h) ?_
  rintro ws s2 ⟨zs, H2, I2, rz, l1, l2, q2⟩
  rw [hks]
  exact ⟨I2.kIn, F.call_kw (us := []) gd rm hb hx I2 .nil rz l1 l2 q2⟩

/-! ### repr of data -/
/-- repr(x), x data -/
def rRepr (K : PySem.W.Frag) : List V → Hp → VK → Prop := fun xs H Q => ∃ (v : V) (d : PyData), xs = [v] ∧ Dp K H v d ∧ d.showable = true ∧ d.hasDict = false ∧ d.depth ≤ 60 ∧ d.shown.length ≤ sizeLine ∧ Q (.str d.shown) H

theorem call_repr (gd : X.A.guards = some []) {j : Nat} (rm : Room j X.A) : CallR X (.builtin "repr") (rRepr X.K) := by
  intro pins s σ H xs us Q I r h
  obtain ⟨v, d, rfl, hd, hs, hn, hz, hl, q⟩ := h
  cases r with
  | cons rv rn =>
    rename_i u us
    cases rn
    have hu := rm.units
    obtain ⟨as, rd⟩ := Dp.reads I d v u hd rv
    have fin : ∀ (h' : Heap) (u' tk : Tok), (∀ b o, s.heap.get? b = some o → h'.get? b = some o) → EP X pins σ Q (.str d.shown u') { s with heap := h', toks := tk } :=
      fun h' u' tk kk => ⟨.str d.shown, H, I.kept (t' := tk) kk, ⟨u', rfl⟩, q⟩
    cases hd with
    | non => cases rv; exact P.repr_of_none (fin s.heap _ _ fun _ _ z => z)
    | bl b => cases rv; exact P.repr_of_bool (fin s.heap _ _ fun _ _ z => z)
    | int i => obtain ⟨t, rfl⟩ := rv; exact P.repr_of_int (by simpa [PyData.showable] using hs) (fin s.heap _ _ fun _ _ z => z)
    | str y => obtain ⟨t, rfl⟩ := rv; exact P.repr_of_str (fin s.heap _ _ fun _ _ z => z) hl
    | lst h1 h2 =>
      cases rv
      exact repr_of_reads' rd hs (fun z => by rw [hn] at z; cases z) gd (by omega) (fun _ _ z => z) fin hl
    | tup h1 h2 =>
      cases rv
      exact repr_of_reads' rd hs (fun z => by rw [hn] at z; cases z) gd (by omega) (fun _ _ z => z) fin hl
end

/-! ### the law's end -/
def SmB (h : Heap) : Prop := ∃ o, h.get? sysModules = some o
section
theorem law_in {pg : Program} {w : World} {K : PySem.W.Frag} {mg mb : Str → Option Value} {cx : CXT} {k : Nat} {fa a : Addr} {fd : FuncData} {x : Str} {sp : Sp} {s : Shared}
    {vs : List Value} {H : Hp} (KX : K.In s.heap) (hns : s.heap.Ns mainGlobals mg) (hb : s.heap.Ns builtinsNs mb)
    (hbb : ∀ y : Str, y ≠ "__name__" → mb y = bootBuiltins y) (lim : s.heap.NoLimit) (hg : s.gens = #[])
    (ha : s.heap.get? a = some { cls := .type "list", data := .seq vs.toArray }) (rm : Room k callerA)
    (sm : ∃ o es ep, s.heap.get? sysModules = some o ∧ o.data = .dict es ep) (F : ∀ bs : Heap, K.In bs → bs.Ns mainGlobals mg → SmB bs → FnG pg w K mg bs cx k fa fd [x] sp) (hbi : ∀ (s : Shared) (u : Value), BindsTo s fd ⟨[u], []⟩ [(x, u)])
    (hO : Only H) (hok : HOk pg w H s.heap) (only : ∀ b, H b ≠ none → b = a) (hK : H a ≠ none → K.lookup a = none)
    (hsp : sp [.ref a] H (fun v _ => v = .bl true) fun _ _ _ => False) (hcx : ∀ H e s', cx [] H s (fun _ _ _ => False) e s' → False) :
    codeAny (model pg w) callerA (.call (.ref fa) ⟨[.ref a], []⟩)
      (fun r s' => r = .ok (.ret (.bool true)) ∧ OldK s.heap s'.heap ∧ s'.os = s.os ∧ AllBare s'.gens) s := by
  have at_a : ∀ {b : Addr}, H b ≠ none → b = a := fun {b} => only b
  have noDict : ∀ {b : Addr} {o : Obj} {es : Array DictEntry} {ep : Nat}, s.heap.get? b = some o → o.data = .dict es ep → H b = none := by
    intro b o es ep e d
    by_cases z : H b = none
    · exact z
    · cases at_a z
      rw [ha] at e
      cases e
      cases d
  have ns_of : ∀ {b : Addr} {m : Str → Option Value}, s.heap.Ns b m → (hidT s.heap H).Ns b m := fun ⟨o, es, ep, e, d, r⟩ => ⟨o, es, ep, hidT_get e (noDict e d), d, r⟩
  have KB : K.In (hidT s.heap H) := fun b o e => hidT_get (KX b o e) (by
    by_cases z : H b = none
    · exact z
    · cases at_a z
      rw [hK z] at e
      cases e)
  have md : Mod K mg (hidT s.heap H) := ⟨KB, ns_of hns, ⟨mb, ns_of hb, hbb⟩, lim.imp fun _ z => ⟨ns_of z.1, z.2⟩⟩
  have ev : Env0 pg w K mg (hidT s.heap H) callerA [] s H :=
    ⟨rfl, md, fun _ _ e => of_hidT e, Nat.le_of_eq (hidT_size _ _), trivial, (fun b z => absurd (show b ∈ ([] : List Addr) from z) (by simp)), hok, .of_eq hg⟩
  refine codeAny_mono ((F _ KB (ns_of hns) (let ⟨o, es, ep, e1, e2⟩ := sm; ⟨o, hidT_get e1 (noDict e1 e2)⟩)).run callerA [] s H ⟨[.ref a], []⟩ [.ref a] [.ref a] _ _ rfl rm ev (hbi s (.ref a)) (.cons rfl .nil) hsp) ?_
  rintro (e | fl) s' z
  · exact (hcx H e s' z).elim
  · cases fl with
    | ret u =>
      obtain ⟨v, H', os, bare, un, hok', ru, rfl⟩ := z
      cases ru
      refine ⟨rfl, OldK.of_keep fun b o e => ?_, os, bare⟩
      rcases hO b with q | ⟨ob, xs, q⟩
      · exact un.keep b o e q (by intro y; cases y) (by intro y; cases y)
      · have e1 := (hok b _ q).1
        have e2 := (hok' b _ (un.frzs b ob _ q)).1
        exact e2.trans (e1.symm.trans e)
    | next => exact z.elim
    | brk => exact z.elim
    | cont => exact z.elim

theorem walkG {l : PySem.W.OpenLaw} {n k : Nat} {q : Program} {loose : List Str} {XP : (Str → Option Value) → Heap → Prop} {YP : World → Heap → Prop} {d : DefRec}
    {K : Params → PySem.W.Frag} {cx : CXT} {sp : PySem.W.Frag → Sp} {x : Str} (hi : importsNone q = true) (hn : l.most = some n) (hn2 : n ≤ sizeLine) (hdf : d.params.defaults = []) (rm : Room k callerA)
    (hY : ∀ (w : World) (h : Heap), YP w h → (K w.params).In h)
    (F : ∀ (w : World) (mg : Str → Option Value) (fa : Addr) (h : Heap), (K w.params).In h → h.Ns mainGlobals mg → mg d.name = some (.ref fa) →
      ∃ fd : FuncData, (∀ (s : Shared) (u : Value), BindsTo s fd ⟨[u], []⟩ [(x, u)]) ∧
        ∀ bs : Heap, (K w.params).In bs → bs.Ns mainGlobals mg → SmB bs → FnG l.prog w (K w.params) mg bs cx k fa fd [x] (sp (K w.params)))
    (hsp : ∀ (K : PySem.W.Frag) (H : Hp) (a : Addr) (ns : List Int), ns.length ≤ n → Only H → SqL K H a (ns.map V.int) → sp K [.ref a] H (fun v _ => v = .bl true) fun _ _ _ => False)
    (hcx : ∀ (H : Hp) (s : Shared) (e : Value) (s' : Shared), cx [] H s (fun _ _ _ => False) e s' → False) :
    PySem.W.WalkO q loose XP YP l.row.toRowW d [] (fun f vs => PySem.call f vs) := by
  refine Att.attach_call hn hdf ?_
  intro w _ s mg mb fa o pm cd doc a vs ns G Y ho hd hcd hmg hob hin hle hg
  have KX := hY w _ Y
  have sm : ∃ o es ep, s.heap.get? sysModules = some o ∧ o.data = .dict es ep := by
    obtain ⟨mm, ⟨o, es, ep, e1, e2, _⟩, _⟩ := (G.T.seer hi).mods
    exact ⟨o, es, ep, e1, e2⟩
  obtain ⟨fd, hb, hF⟩ := F w mg fa _ KX G.T.g hmg
  have rv := vals_ints hin
  have lv := hin.length
  cases hk : (K w.params).lookup a with
  | some o' =>
    have e := KX a o' hk
    rw [hob] at e
    cases e
    have O : Only (fun _ => none) := fun _ => .inl rfl
    have S : SqL (K w.params) (fun _ => none) a (ns.map V.int) :=
      .inr ⟨_, vs.toArray, _, hk, rfl, rfl, rfl, by rw [List.size_toArray, lv]; exact Nat.le_trans hle hn2, by simpa using rv⟩
    exact law_in (H := fun _ => none) KX G.T.g G.T.b G.T.builtins G.T.nolimit hg hob rm sm hF hb O (fun b u z => by cases z) (fun b z => absurd rfl z) (fun z => absurd rfl z)
      (hsp _ _ a ns hle O S) fun H e s' => hcx H s e s'
  | none =>
    let H : Hp := fun b => if b = a then some (.frz { cls := .type "list", data := .seq vs.toArray } (.lst (ns.map V.int))) else none
    have Ha : H a = some (.frz { cls := .type "list", data := .seq vs.toArray } (.lst (ns.map V.int))) := if_pos rfl
    have Hn : ∀ b, b ≠ a → H b = none := fun b z => if_neg z
    have O : Only H := fun b => by
      by_cases z : b = a
      · exact .inr ⟨_, _, if_pos z⟩
      · exact .inl (Hn b z)
    have ok : HOk l.prog w H s.heap := fun b u z => by
      by_cases e : b = a
      · subst e
        rw [Ha] at z
        cases z
        exact ⟨hob, by rw [List.length_map]; exact Nat.le_trans hle hn2, vs, _, rv, hob⟩
      · rw [Hn b e] at z
        cases z
    refine law_in (H := H) KX G.T.g G.T.b G.T.builtins G.T.nolimit hg hob rm sm hF hb O ok (fun b z => ?_) (fun _ => hk) (hsp _ _ a ns hle O (.inl (.inr ⟨_, Ha⟩))) fun H e s' => hcx H s e s'
    by_cases e : b = a
    · exact e
    · exact absurd (Hn b e) z
end
end GL
/-! What laws draw: data known to any depth, the rack of a law's draws, isinstance of such data, loops over a list or a tuple. -/
namespace GL
open PySem PySem.Spec PyProof.Rows L2

/-- nothing that was tracked has changed -/
abbrev Ex (H H' : Hp) : Prop := ∀ a o, H a = some o → H' a = some o
/-- nothing that was tracked has changed, but p -/
def Kp (p : Addr) (H H' : Hp) : Prop := ∀ a o, a ≠ p → H a = some o → H' a = some o
theorem Ex.rfl' (H : Hp) : Ex H H := fun _ _ h => h
theorem Ex.tr {H H1 H2 : Hp} (a : Ex H H1) (b : Ex H1 H2) : Ex H H2 := fun x o h => b x o (a x o h)
theorem Ex.nw {H : Hp} {p : Addr} {o : HO} (h : H p = none) : Ex H (upd H p o) := fun a u e => by
  rw [upd_ne (ne_of_none e h)]; exact e
/-- an object that H does not know changes -/
theorem Ex.up {H H' : Hp} {p : Addr} {o : HO} (e : Ex H H') (h : H p = none) : Ex H (upd H' p o) := fun a u ha => by
  rw [upd_ne (ne_of_none ha h)]; exact e a u ha
theorem Ex.no {H H' : Hp} {p : Addr} (e : Ex H H') (h : H' p = none) : H p = none := by
  cases h1 : H p with
  | none => rfl
  | some o => rw [e p o h1] at h; cases h
theorem Ex.kp {p : Addr} {H H' : Hp} (e : Ex H H') : Kp p H H' := fun a o _ h => e a o h
theorem Kp.rfl' {p : Addr} (H : Hp) : Kp p H H := fun _ _ _ h => h
theorem Kp.tr {p : Addr} {H H1 H2 : Hp} (a : Kp p H H1) (b : Kp p H1 H2) : Kp p H H2 := fun x o n h => b x o n (a x o n h)
theorem Kp.ex {p : Addr} {H H1 H2 : Hp} (a : Kp p H H1) (b : Ex H1 H2) : Kp p H H2 := fun x o n h => b x o (a x o n h)
theorem Kp.nw {p q : Addr} {H H' : Hp} {o : HO} (e : Kp p H H') (h : H q = none) : Kp p H (upd H' q o) := fun a u n ha => by
  rw [upd_ne (ne_of_none ha h)]; exact e a u n ha
theorem Kp.up {p : Addr} {H H' : Hp} {o : HO} (e : Kp p H H') : Kp p H (upd H' p o) := fun a u n ha => by
  rw [upd_ne n]; exact e a u n ha

/-- data: known to any depth, none of it at p -/
inductive Kd (p : Addr) (H : Hp) : V → Prop
  | non : Kd p H .non
  | bl (b : Bool) : Kd p H (.bl b)
  | int (i : Int) : Kd p H (.int i)
  | str (z : Str) : Kd p H (.str z)
  | lst {a : Addr} {xs : List V} (n : a ≠ p) (e : H a = some (.lst xs)) (z : xs.length ≤ 100000) (all : ∀ x, x ∈ xs → Kd p H x) : Kd p H (.ref a)
  | tup {a : Addr} {xs : List V} (n : a ≠ p) (e : H a = some (.tup xs)) (z : xs.length ≤ 100000) (all : ∀ x, x ∈ xs → Kd p H x) : Kd p H (.ref a)
  | dK {a : Addr} {kvs : List (Key × V)} (n : a ≠ p) (e : H a = some (.dK kvs)) : Kd p H (.ref a)
theorem Kd.kp {p : Addr} {H H' : Hp} (k : Kp p H H') {v : V} (h : Kd p H v) : Kd p H' v := by
  induction h with
  | non => exact .non
  | bl b => exact .bl b
  | int i => exact .int i
  | str z => exact .str z
  | lst n e z _ ih => exact .lst n (k _ _ n e) z ih
  | tup n e z _ ih => exact .tup n (k _ _ n e) z ih
  | dK n e => exact .dK n (k _ _ n e)
theorem Kd.ex {p : Addr} {H H' : Hp} (k : Ex H H') {v : V} (h : Kd p H v) : Kd p H' v := h.kp (Ex.kp k)

/-- the name of a value's type -/
def tyN (H : Hp) : V → String
  | .non => "NoneType"
  | .bl _ => "bool"
  | .int _ => "int"
  | .str _ => "str"
  | .ref a => match H a with
    | some (.lst _) => "list"
    | some (.tup _) => "tuple"
    | some (.dK _) => "dict"
    | _ => ""
  | _ => ""
theorem tyN_lst {H : Hp} {a : Addr} {xs : List V} (e : H a = some (.lst xs)) : tyN H (.ref a) = "list" := by
  show (match H a with | some (.lst _) => "list" | some (.tup _) => "tuple" | some (.dK _) => "dict" | _ => "") = _
  rw [e]
theorem tyN_tup {H : Hp} {a : Addr} {xs : List V} (e : H a = some (.tup xs)) : tyN H (.ref a) = "tuple" := by
  show (match H a with | some (.lst _) => "list" | some (.tup _) => "tuple" | some (.dK _) => "dict" | _ => "") = _
  rw [e]
theorem tyN_dK {H : Hp} {a : Addr} {kvs : List (Key × V)} (e : H a = some (.dK kvs)) : tyN H (.ref a) = "dict" := by
  show (match H a with | some (.lst _) => "list" | some (.tup _) => "tuple" | some (.dK _) => "dict" | _ => "") = _
  rw [e]
theorem tyN_ex {p : Addr} {H H' : Hp} (k : Kp p H H') {v : V} (h : Kd p H v) : tyN H' v = tyN H v := by
  cases h with
  | non => rfl
  | bl b => rfl
  | int i => rfl
  | str z => rfl
  | lst n e _ _ => rw [tyN_lst e, tyN_lst (k _ _ n e)]
  | tup n e _ _ => rw [tyN_tup e, tyN_tup (k _ _ n e)]
  | dK n e => rw [tyN_dK e, tyN_dK (k _ _ n e)]
/-- the items of a list or a tuple -/
def its (H : Hp) : V → Option (List V)
  | .ref a => match H a with
    | some (.lst xs) => some xs
    | some (.tup xs) => some xs
    | _ => none
  | _ => none
theorem its_lst {H : Hp} {a : Addr} {xs : List V} (e : H a = some (.lst xs)) : its H (.ref a) = some xs := by
  show (match H a with | some (.lst xs) => some xs | some (.tup xs) => some xs | _ => none) = _
  rw [e]
theorem its_tup {H : Hp} {a : Addr} {xs : List V} (e : H a = some (.tup xs)) : its H (.ref a) = some xs := by
  show (match H a with | some (.lst xs) => some xs | some (.tup xs) => some xs | _ => none) = _
  rw [e]
theorem its_dK {H : Hp} {a : Addr} {kvs : List (Key × V)} (e : H a = some (.dK kvs)) : its H (.ref a) = none := by
  show (match H a with | some (.lst xs) => some xs | some (.tup xs) => some xs | _ => none) = _
  rw [e]
theorem its_ex {p : Addr} {H H' : Hp} (k : Kp p H H') {v : V} (h : Kd p H v) : its H' v = its H v := by
  cases h with
  | non => rfl
  | bl b => rfl
  | int i => rfl
  | str z => rfl
  | lst n e _ _ => rw [its_lst e, its_lst (k _ _ n e)]
  | tup n e _ _ => rw [its_tup e, its_tup (k _ _ n e)]
  | dK n e => rw [its_dK e, its_dK (k _ _ n e)]
theorem its_kd {p : Addr} {H : Hp} {v : V} {xs : List V} (h : Kd p H v) (e : its H v = some xs) : ∀ x, x ∈ xs → Kd p H x := by
  cases h with
  | non => cases e
  | bl b => cases e
  | int i => cases e
  | str z => cases e
  | lst n e' _ all => rw [its_lst e'] at e; cases e; exact all
  | tup n e' _ all => rw [its_tup e'] at e; cases e; exact all
  | dK n e' => rw [its_dK e'] at e; cases e

theorem kd_ty {K : PySem.W.Frag} {p : Addr} {H : Hp} {v : V} (h : Kd p H v) : TyX K H v (.type (tyN H v)) := by
  cases h with
  | non => exact .base .non
  | bl b => exact .base (.bl b)
  | int i => exact .base (.int i)
  | str z => exact .base (.str z)
  | lst n e _ _ => rw [tyN_lst e]; exact .base (.lst e)
  | tup n e _ _ => rw [tyN_tup e]; exact .base (.tup e)
  | dK n e => rw [tyN_dK e]; exact .base (.dK e)
def kinds : List String := ["NoneType", "bool", "int", "str", "list", "tuple", "dict"]
theorem kd_kind {p : Addr} {H : Hp} {v : V} (h : Kd p H v) : tyN H v ∈ kinds := by
  cases h with
  | non => show "NoneType" ∈ kinds; decide
  | bl b => show "bool" ∈ kinds; decide
  | int i => show "int" ∈ kinds; decide
  | str z => show "str" ∈ kinds; decide
  | lst n e _ _ => rw [tyN_lst e]; decide
  | tup n e _ _ => rw [tyN_tup e]; decide
  | dK n e => rw [tyN_dK e]; decide
/-- is of the type, by name: bool is below int -/
def isT (t c : String) : Bool := t == c || (t == "bool" && c == "int")
theorem kit_all : ∀ t ∈ kinds, ∀ c ∈ ["int", "bool", "str", "list", "tuple", "dict"], kitB t c = some (isT t c) := by decide +kernel
theorem isi_go {K : PySem.W.Frag} {p : Addr} {H : Hp} {v : V} {c : String} {Q : VK} (h : Kd p H v) (hc : c ∈ ["int", "bool", "str", "list", "tuple", "dict"]) (q : Q (.bl (isT (tyN H v) c)) H) : rIsi K [v, .ty c] H Q :=
  ⟨v, .ty c, _, _, _, rfl, .ty c, kd_ty h, kit_ty (kit_all _ (kd_kind h) c hc), q⟩
/-- isinstance(x, (c, d)) -/
theorem isi_go2 {K : PySem.W.Frag} {p t : Addr} {H : Hp} {v : V} {c d : String} {Q : VK} (h : Kd p H v) (ht : H t = some (.tup [.ty c, .ty d])) (hc : c ∈ ["int", "bool", "str", "list", "tuple", "dict"]) (hd : d ∈ ["int", "bool", "str", "list", "tuple", "dict"])
    (q : Q (.bl (isT (tyN H v) c || isT (tyN H v) d)) H) : rIsiT K [v, .ref t] H Q := by
  refine ⟨v, t, [.ty c, .ty d], _, [.type c, .type d], _, rfl, ht, .cons (.ty c) (.cons (.ty d) .nil), kd_ty h, ?_, q⟩
  refine kitAny_cons (kit_ty (kit_all _ (kd_kind h) c hc)) (fun e => ?_) fun e => by rw [e]; rfl
  rw [e, Bool.false_or]
  refine kitAny_cons (kit_ty (kit_all _ (kd_kind h) d hd)) (fun e2 => ?_) fun e2 => e2
  rw [e2]; exact kitAny_nil

/-- an integer that is no truth -/
def wh : V → Bool
  | .int _ => true
  | _ => false
theorem wh_ty {p : Addr} {H : Hp} {v : V} (h : Kd p H v) : wh v = (isT (tyN H v) "int" && !isT (tyN H v) "bool") := by
  cases h with
  | non => show false = (isT "NoneType" "int" && !isT "NoneType" "bool"); decide
  | bl b => show false = (isT "bool" "int" && !isT "bool" "bool"); decide
  | int i => show true = (isT "int" "int" && !isT "int" "bool"); decide
  | str z => show false = (isT "str" "int" && !isT "str" "bool"); decide
  | lst n e _ _ => rw [tyN_lst e]; show false = (isT "list" "int" && !isT "list" "bool"); decide
  | tup n e _ _ => rw [tyN_tup e]; show false = (isT "tuple" "int" && !isT "tuple" "bool"); decide
  | dK n e => rw [tyN_dK e]; show false = (isT "dict" "int" && !isT "dict" "bool"); decide
theorem wh_int {v : V} (h : wh v = true) : ∃ i, v = .int i := by
  cases v <;> first | (cases h; done) | exact ⟨_, rfl⟩
/-- a list or a tuple, by isinstance -/
theorem seq_ty {p : Addr} {H : Hp} {v : V} (h : Kd p H v) : (isT (tyN H v) "list" || isT (tyN H v) "tuple") = (its H v).isSome := by
  cases h with
  | non => show (isT "NoneType" "list" || isT "NoneType" "tuple") = false; decide
  | bl b => show (isT "bool" "list" || isT "bool" "tuple") = false; decide
  | int i => show (isT "int" "list" || isT "int" "tuple") = false; decide
  | str z => show (isT "str" "list" || isT "str" "tuple") = false; decide
  | lst n e _ _ => rw [tyN_lst e, its_lst e]; show _ = true; decide
  | tup n e _ _ => rw [tyN_tup e, its_tup e]; show _ = true; decide
  | dK n e => rw [tyN_dK e, its_dK e]; show _ = false; decide
theorem its_len {p : Addr} {H : Hp} {v : V} {xs : List V} (h : Kd p H v) (e : its H v = some xs) : xs.length ≤ 100000 := by
  cases h with
  | non => cases e
  | bl b => cases e
  | int i => cases e
  | str z => cases e
  | lst n e' z _ => rw [its_lst e'] at e; cases e; exact z
  | tup n e' z _ => rw [its_tup e'] at e; cases e; exact z
  | dK n e' => rw [its_dK e'] at e; cases e
/-- a list or a tuple, to walk it -/
theorem its_at {p : Addr} {H : Hp} {v : V} {xs : List V} (h : Kd p H v) (e : its H v = some xs) : ∃ a, v = .ref a ∧ a ≠ p ∧ (H a = some (.lst xs) ∨ H a = some (.tup xs)) := by
  cases h with
  | non => cases e
  | bl b => cases e
  | int i => cases e
  | str z => cases e
  | lst n e' _ _ => rw [its_lst e'] at e; cases e; exact ⟨_, rfl, n, .inl e'⟩
  | tup n e' _ _ => rw [its_tup e'] at e; cases e; exact ⟨_, rfl, n, .inr e'⟩
  | dK n e' => rw [its_dK e'] at e; cases e
/-- the readings of isinstance(x, C), isinstance(x, (C, D)), x a name -/
theorem rd_isi {K : PySem.W.Frag} {p : Addr} {σ : L2.St} {i : Nat} {H : Hp} {v : V} {c : String} {Q : VK} (hi : σ[i]? = some (some v)) (h : Kd p H v)
    (hc : c ∈ ["int", "bool", "str", "list", "tuple", "dict"]) (q : Q (.bl (isT (tyN H v) c)) H) : tCB (rIsi K) (tCons (tVar i) (tCons (tC (.ty c)) tNil)) σ H Q :=
  ⟨v, hi, isi_go h hc q⟩
theorem rd_isi2 {K : PySem.W.Frag} {p : Addr} {σ : L2.St} {i : Nat} {H : Hp} {v : V} {c d : String} {Q : VK} (hi : σ[i]? = some (some v)) (h : Kd p H v)
    (hc : c ∈ ["int", "bool", "str", "list", "tuple", "dict"]) (hd : d ∈ ["int", "bool", "str", "list", "tuple", "dict"])
    (q : ∀ H', Ex H H' → Q (.bl (isT (tyN H v) c || isT (tyN H v) d)) H') : tCB (rIsiT K) (tCons (tVar i) (tCons (tTup (tCons (tC (.ty c)) (tCons (tC (.ty d)) tNil))) tNil)) σ H Q := by
  refine ⟨v, hi, (show 2 ≤ sizeLine by decide), fun t ht => ?_⟩
  have e : Ex H (upd H t (.tup [.ty c, .ty d])) := Ex.nw ht
  refine isi_go2 (K := K) (h.ex e) upd_same hc hd ?_
  rw [tyN_ex (Ex.kp e) h]
  exact q _ e
/-! ### walking a list or a tuple -/
def iSeq (K : PySem.W.Frag) (tl tl' : TE) : TI := fun σ H R => iList K tl σ H R ∨ iTup K tl' σ H R
theorem pi_seq {X : Cx} {tg e : Expr} {tl tl' : TE} (h : PE X e tl) (h' : PE X e tl') : PI X tg e (iSeq X.K tl tl') :=
  ⟨fun pins s σ H R I q => q.elim ((pi_list h).run pins s σ H R I) ((pi_tup h').run pins s σ H R I)⟩

/-! ### the rack of a law's draws: [cells, turn, left] -/
structure Rk (H : Hp) (p c : Addr) (n : Nat) : Prop where
  ex : ∃ (ns : List Int) (t l : Int), H p = some (.lst [.ref c, .int t, .int l]) ∧ H c = some (.lst (ns.map V.int)) ∧ c ≠ p ∧ ns.length ≤ 63 ∧ 0 ≤ t ∧ t ≤ n ∧ 0 ≤ l
theorem Rk.kp {H H' : Hp} {p c : Addr} {n : Nat} (r : Rk H p c n) (e : Ex H H') : Rk H' p c n := by
  obtain ⟨ns, t, l, h1, h2, h3⟩ := r.ex
  exact ⟨⟨ns, t, l, e _ _ h1, e _ _ h2, h3⟩⟩
theorem Rk.ne {H : Hp} {p c q : Addr} {n : Nat} (r : Rk H p c n) (h : H q = none) : q ≠ p := by
  obtain ⟨ns, t, l, h1, h2, h3⟩ := r.ex
  intro e; subst e; rw [h1] at h; cases h
theorem Rk.nc {H : Hp} {p c q : Addr} {n : Nat} (r : Rk H p c n) (h : H q = none) : q ≠ c := by
  obtain ⟨ns, t, l, h1, h2, h3⟩ := r.ex
  intro e; subst e; rw [h2] at h; cases h
/-- another object changes -/
theorem Rk.up {H : Hp} {p c q : Addr} {n : Nat} {o : HO} (r : Rk H p c n) (hp : q ≠ p) (hc : q ≠ c) : Rk (upd H q o) p c n := by
  obtain ⟨ns, t, l, h1, h2, h3⟩ := r.ex
  exact ⟨⟨ns, t, l, by rw [upd_ne hp.symm]; exact h1, by rw [upd_ne hc.symm]; exact h2, h3⟩⟩
theorem Rk.more {H : Hp} {p c : Addr} {m n : Nat} (r : Rk H p c n) (h : n ≤ m) : Rk H p c m := by
  obtain ⟨ns, t, l, h1, h2, h3, h4, h5, h6, h7⟩ := r.ex
  exact ⟨⟨ns, t, l, h1, h2, h3, h4, h5, by omega, h7⟩⟩
/-- a draw: an int from 0 on below many -/
def spDraw : Sp := fun vs H Q _ => ∃ (p c : Addr) (many : Int) (n : Nat), vs = [.ref p, .int many] ∧ Rk H p c n ∧ n < 100000 ∧ 0 < many ∧ many < 1073741824 ∧
  ∀ (r : Int) (H' : Hp), 0 ≤ r → r < many → Rk H' p c (n + 1) → Kp p H H' → Q (.int r) H'
/-- a draw from a list, or a sign from a text -/
def spPick : Sp := fun vs H Q _ => ∃ (p c : Addr) (x : V) (n : Nat), vs = [.ref p, x] ∧ Rk H p c n ∧ n < 100000 ∧
  ((∃ a xs, x = .ref a ∧ a ≠ p ∧ H a = some (.lst xs) ∧ xs ≠ [] ∧ xs.length < 1000000 ∧ ∀ (v : V) (H' : Hp), v ∈ xs → Rk H' p c (n + 1) → Kp p H H' → Q v H') ∨
   (∃ z : Str, x = .str z ∧ 0 < z.length ∧ z.length < 1000000 ∧ ∀ (s : Nat) (H' : Hp), s ∈ z.cps.toList → Rk H' p c (n + 1) → Kp p H H' → Q (.str ⟨#[s]⟩) H'))
/-- the rack is made -/
def spRack (K : PySem.W.Frag) : Sp := fun vs H Q _ => ∃ (a : Addr) (ns : List Int), vs = [.ref a] ∧ SqL K H a (ns.map V.int) ∧ ns.length ≤ 63 ∧
  ∀ (p c : Addr) (H' : Hp), H p = none → Rk H' p c 0 → Ex H H' → Q (.ref p) H'
end GL
/-! Lists of ints and of truths as data: ==, repr. -/
namespace GL
open PySem PySem.Spec PyProof.Rows L2
section
variable {K : PySem.W.Frag} {H : Hp}
theorem dp_ints : ∀ ns : List Int, DpAll K H (ns.map V.int) (ns.map PyData.int)
  | [] => .nil
  | n :: r => .cons (.int n) (dp_ints r)
theorem dp_bools : ∀ bs : List Bool, DpAll K H (bs.map V.bl) (bs.map PyData.bool)
  | [] => .nil
  | b :: r => .cons (.bl b) (dp_bools r)
theorem lay_ints : ∀ ns : List Int, PyData.canLayAll0 (ns.map PyData.int) = true ∧ PyData.depthAll (ns.map PyData.int) = 0
  | [] => ⟨rfl, rfl⟩
  | n :: r => by
    obtain ⟨h1, h2⟩ := lay_ints r
    refine ⟨?_, ?_⟩
    · simp only [List.map_cons, PyData.canLayAll0, PyData.canLay0, h1]; rfl
    · simp only [List.map_cons, PyData.depthAll, PyData.depth, h2]; rfl
theorem shaped_ints (ns : List Int) : SeqAt.shaped (.list (ns.map PyData.int)) = true := by
  obtain ⟨h1, h2⟩ := lay_ints ns
  show (PyData.canLay0 (.list _) && decide (PyData.depth (.list _) ≤ 64)) = true
  simp only [PyData.canLay0, PyData.depth, h1, h2]; decide
theorem eqv_ints : ∀ ns ms : List Int, PyData.eqvAll (ns.map PyData.int) (ms.map PyData.int) = decide (ns = ms)
  | [], [] => rfl
  | [], m :: ms => by simp [PyData.eqvAll]
  | n :: ns, [] => by simp [PyData.eqvAll]
  | n :: ns, m :: ms => by
    have ih := eqv_ints ns ms
    simp only [List.map_cons, PyData.eqvAll, PyData.eqv, ih]
    by_cases h : n = m <;> by_cases h' : ns = ms <;> simp [h, h']
theorem eqv_nil : ∀ d : List PyData, PyData.eqvAll d [] = d.isEmpty
  | [] => rfl
  | _ :: _ => rfl
/-! ### repr of truths -/
def bText (bs : List Bool) : Str := PyData.shown (.list (bs.map PyData.bool))
theorem bools_show : ∀ bs : List Bool, PyData.showableAll (bs.map PyData.bool) = true ∧ PyData.hasDictAll (bs.map PyData.bool) = false ∧ PyData.depthAll (bs.map PyData.bool) = 0 ∧
    ((PyData.shownAll (bs.map PyData.bool)).map (·.length)).sum ≤ 5 * bs.length ∧ (PyData.shownAll (bs.map PyData.bool)).length = bs.length
  | [] => ⟨rfl, rfl, rfl, Nat.le_refl _, rfl⟩
  | b :: r => by
    obtain ⟨h1, h2, h3, h4, h5⟩ := bools_show r
    have hb : (PyData.shown (.bool b)).length ≤ 5 := by cases b <;> (simp only [PyData.shown]; decide)
    refine ⟨?_, ?_, ?_, ?_, ?_⟩
    · simp only [List.map_cons, PyData.showableAll, PyData.showable, h1]; rfl
    · simp only [List.map_cons, PyData.hasDictAll, PyData.hasDict, h2]; rfl
    · simp only [List.map_cons, PyData.depthAll, PyData.depth, h3]; rfl
    · simp only [List.map_cons, PyData.shownAll, List.sum_cons, List.length_cons]; omega
    · simp only [List.map_cons, PyData.shownAll, List.length_cons, h5]
theorem repr_bools {a : Addr} {bs : List Bool} {Q : VK} (h : H a = some (.lst (bs.map V.bl))) (hl : bs.length ≤ 1000) (q : Q (.str (bText bs)) H) : rRepr K [.ref a] H Q := by
  obtain ⟨h1, h2, h3, h4, h5⟩ := bools_show bs
  refine ⟨.ref a, .list (bs.map PyData.bool), rfl, .lst (SqL.of h) (dp_bools bs), by simpa only [PyData.showable] using h1, by simpa only [PyData.hasDict] using h2, ?_, ?_, q⟩
  · simp only [PyData.depth, h3]; decide
  · have := listText_len_le (PyData.shownAll (bs.map PyData.bool))
    have e : (1000 * 7 + 3 : Nat) ≤ sizeLine := by decide
    show (PyData.shown (.list (bs.map PyData.bool))).length ≤ sizeLine
    simp only [PyData.shown]
    omega
end
end GL
namespace GL
theorem mix_small {m t a b c : Int} (m0 : 0 ≤ m) (m1 : m < 2147483648) (t0 : 0 ≤ t) (t1 : t ≤ 100000) (a0 : 0 ≤ a) (a1 : a ≤ 100000) (b0 : 0 ≤ b) (b1 : b ≤ 100000) (c0 : 0 ≤ c) (c1 : c ≤ 100000) :
    (m * (2 * t + a) + b * t * t + c).natAbs < 2 ^ 64 := by
  have h1 : 0 ≤ m * (2 * t + a) := Int.mul_nonneg m0 (by omega)
  have h2 : m * (2 * t + a) ≤ 2147483648 * 300000 := Int.mul_le_mul (by omega) (by omega) (by omega) (by omega)
  have h3 : 0 ≤ b * t := Int.mul_nonneg b0 t0
  have h4 : b * t ≤ 100000 * 100000 := Int.mul_le_mul b1 t1 t0 (by omega)
  have h5 : 0 ≤ b * t * t := Int.mul_nonneg h3 t0
  have h6 : b * t * t ≤ 10000000000 * 100000 := Int.mul_le_mul (by omega) t1 t0 (by omega)
  omega
end GL
namespace GL
open PySem PySem.Spec PyProof.Rows L2
theorem take_step {α : Type} {l : List α} {i : Nat} {x : α} (h : l[i]? = some x) : l.take (i + 1) = l.take i ++ [x] := by
  rw [List.take_add_one, h]; rfl
theorem map_get {α β : Type} {f : α → β} {l : List α} {i : Nat} {y : β} (h : (l.map f)[i]? = some y) : ∃ x, l[i]? = some x ∧ f x = y := by
  rw [List.getElem?_map] at h
  cases e : l[i]? with
  | none => rw [e] at h; cases h
  | some x => rw [e] at h; exact ⟨x, rfl, Option.some.inj h⟩
theorem lt_of_get {α : Type} {l : List α} {i : Nat} {x : α} (h : l[i]? = some x) : i < l.length := (List.getElem?_eq_some_iff.mp h).1
theorem cut_ints (ns : List Int) (lo hi : Option Int) : ∃ ms : List Int, cutV (ns.map V.int) lo hi = ms.map V.int ∧ ms.length ≤ ns.length ∧ (∀ x, x ∈ ms → x ∈ ns) := by
  refine ⟨(ns.drop (HT.sIx ns.length 0 lo)).take (HT.sIx ns.length ns.length hi - HT.sIx ns.length 0 lo), ?_, ?_, fun x hx => List.mem_of_mem_drop (List.mem_of_mem_take hx)⟩
  · unfold cutV
    rw [List.length_map, List.map_take, List.map_drop]
  · rw [List.length_take, List.length_drop]; omega
theorem sz_ok {n : Nat} (h : n ≤ 1000000) : n < sizeLine := Nat.lt_of_le_of_lt h (by decide)
theorem sz_le {n : Nat} (h : n ≤ 1000000) : n ≤ sizeLine := Nat.le_of_lt (sz_ok h)
end GL
namespace GL
open PySem PySem.Spec PyProof.Rows L2
theorem Kd.l0 {p a : Addr} {H : Hp} (n : a ≠ p) (e : H a = some (.lst [])) : Kd p H (.ref a) := .lst n e (Nat.zero_le _) (fun x h => by cases h)
theorem Kd.t0 {p a : Addr} {H : Hp} (n : a ≠ p) (e : H a = some (.tup [])) : Kd p H (.ref a) := .tup n e (Nat.zero_le _) (fun x h => by cases h)
theorem Kd.l1 {p a : Addr} {H : Hp} {x : V} (n : a ≠ p) (e : H a = some (.lst [x])) (h : Kd p H x) : Kd p H (.ref a) := .lst n e (show 1 ≤ 100000 by decide) (fun y hy => by rw [List.mem_singleton.mp hy]; exact h)
theorem Kd.t1 {p a : Addr} {H : Hp} {x : V} (n : a ≠ p) (e : H a = some (.tup [x])) (h : Kd p H x) : Kd p H (.ref a) := .tup n e (show 1 ≤ 100000 by decide) (fun y hy => by rw [List.mem_singleton.mp hy]; exact h)
theorem Kd.t2 {p a : Addr} {H : Hp} {x y : V} (n : a ≠ p) (e : H a = some (.tup [x, y])) (h : Kd p H x) (h' : Kd p H y) : Kd p H (.ref a) := .tup n e (show 2 ≤ 100000 by decide) (fun z hz => by
  rcases List.mem_cons.mp hz with rfl | hz
  · exact h
  · rw [List.mem_singleton.mp hz]; exact h')
/-- texts among data are short -/
abbrev Sh (v : V) : Prop := ∀ z : Str, v = .str z → z.length ≤ 100000
end GL
namespace GL
open PySem PySem.Spec PyProof.Rows L2
/-- repr(x): a list of truths, or any data -/
def rReprX (K : PySem.W.Frag) : List V → Hp → VK → Prop := fun xs H Q => (∃ (a : Addr) (bs : List Bool), xs = [.ref a] ∧ H a = some (.lst (bs.map V.bl)) ∧ bs.length ≤ 1000 ∧ Q (.str (bText bs)) H) ∨ rRepr K xs H Q
theorem call_reprX {X : Cx} (gd : X.A.guards = some []) {j : Nat} (rm : Room j X.A) : CallR X (.builtin "repr") (rReprX X.K) := by
  intro pins s σ H xs us Q I r h
  refine call_repr gd rm pins s σ H xs us Q I r ?_
  rcases h with ⟨a, bs, rfl, h1, h2, q⟩ | h
  · exact repr_bools h1 h2 q
  · exact h
end GL
namespace GL
open PySem PySem.Spec PyProof.Rows L2
/-- None, a truth, an int -/
def Fl : V → Bool
  | .non => true
  | .bl _ => true
  | .int _ => true
  | _ => false
theorem dp_flat {K : PySem.W.Frag} {H : Hp} : ∀ xs : List V, xs.all Fl = true → ∃ ds, DpAll K H xs ds ∧ PyData.canLayAll0 ds = true ∧ PyData.depthAll ds = 0 ∧ ds.isEmpty = xs.isEmpty
  | [], _ => ⟨[], .nil, rfl, rfl, rfl⟩
  | x :: r, h => by
    rw [List.all_cons, Bool.and_eq_true] at h
    obtain ⟨ds, h1, h2, h3, h4⟩ := dp_flat (K := K) (H := H) r h.2
    cases x with
    | non => exact ⟨.none :: ds, .cons .non h1, by simp only [PyData.canLayAll0, PyData.canLay0, h2]; rfl, by simp only [PyData.depthAll, PyData.depth, h3]; rfl, rfl⟩
    | bl b => exact ⟨.bool b :: ds, .cons (.bl b) h1, by simp only [PyData.canLayAll0, PyData.canLay0, h2]; rfl, by simp only [PyData.depthAll, PyData.depth, h3]; rfl, rfl⟩
    | int i => exact ⟨.int i :: ds, .cons (.int i) h1, by simp only [PyData.canLayAll0, PyData.canLay0, h2]; rfl, by simp only [PyData.depthAll, PyData.depth, h3]; rfl, rfl⟩
    | str z => cases h.1
    | byt b => cases h.1
    | flt b => cases h.1
    | ref a => cases h.1
    | ty n => cases h.1
/-- [..] == [], the items flat -/
theorem eq_nil {K : PySem.W.Frag} {H : Hp} {a b : Addr} {xs : List V} {Q : VK} (ha : H a = some (.lst xs)) (hb : H b = some (.lst [])) (hx : xs.all Fl = true) (q : Q (.bl xs.isEmpty) H) : rEqD K (.ref a) (.ref b) H Q := by
  obtain ⟨ds, h1, h2, h3, h4⟩ := dp_flat (K := K) (H := H) xs hx
  refine ⟨.list ds, .list [], .lst (SqL.of ha) h1, .lst (SqL.of hb) .nil, ?_, rfl, ?_⟩
  · show (PyData.canLay0 (.list _) && decide (PyData.depth (.list _) ≤ 64)) = true
    simp only [PyData.canLay0, PyData.depth, h2, h3]; decide
  · show Q (.bl (PyData.eqv (.list ds) (.list []))) H
    have : PyData.eqv (.list ds) (.list []) = xs.isEmpty := by simp only [PyData.eqv]; rw [eqv_nil, h4]
    rw [this]; exact q
end GL
namespace GL
open PySem PySem.Spec PyProof.Rows L2
/-- ==: a list and the empty list, whatever the items; or data -/
def rEqX (K : PySem.W.Frag) : R2 := fun x y H Q => (∃ (a b : Addr) (xs : List V), x = .ref a ∧ y = .ref b ∧ H a = some (.lst xs) ∧ H b = some (.lst []) ∧ Q (.bl xs.isEmpty) H) ∨ rEqD K x y H Q
theorem op_eqX {X : Cx} (hu : X.A.units + 64 < cLine) : OpR X (compareOp .Eq) (rEqX X.K) := by
  intro pins s σ H x y v u Q I rx ry h
  rcases h with ⟨a, b, xs, rfl, rfl, ha, hb, q⟩ | h
  · cases xs with
    | nil => exact op_eqD hu pins s σ H _ _ v u Q I rx ry ⟨.list [], .list [], .lst (SqL.of ha) .nil, .lst (SqL.of hb) .nil, rfl, rfl, q⟩
    | cons z r =>
      cases rx
      cases ry
      obtain ⟨is, r1, ⟨o1, m1, ho1, hc1, _, hd1⟩, _⟩ := I.list (SqL.of ha)
      obtain ⟨js, r2, ⟨o2, m2, ho2, hc2, _, hd2⟩, _⟩ := I.list (SqL.of hb)
      refine SeqAt.eq_list_lengthsAt ⟨o1, ho1, hc1, m1, hd1⟩ ⟨o2, ho2, hc2, m2, hd2⟩ ?_ (by omega) ⟨.bl _, H, I, rfl, q⟩
      have l1 := r1.length
      have l2 := r2.length
      simp only [List.length_cons, List.length_nil] at l1 l2
      simp only [bne_iff_ne, ne_eq, List.size_toArray]
      omega
  · exact op_eqD hu pins s σ H x y v u Q I rx ry h
end GL
/-! Loops and comprehensions over what is known: a source gives the values xs while all but p stays. -/
namespace GL
open PySem PySem.Spec PyProof.Rows L2
def Src (p : Addr) (wi : TI) (σ : L2.St) (H : Hp) (xs : List V) : Prop :=
  ∀ R : It → Hp → Prop, (∀ (J : It) (H1 : Hp), Ex H H1 → Walk J xs.length (fun H2 => Kp p H1 H2) (YAt xs) → R J H1) → wi σ H R
section
variable {K : PySem.W.Frag} {p : Addr} {σ : L2.St} {H : Hp} {xs : List V} {te tl tl' : TE}
theorem Src.list (h : ∀ Q : VK, (∀ a H1, Ex H H1 → a ≠ p → H1 a = some (.lst xs) → Q (.ref a) H1) → te σ H Q) : Src p (iList K te) σ H xs := fun R q =>
  h _ fun a H1 e n ha => ⟨a, rfl, ⟨xs, SqL.of ha⟩, q _ H1 e (walk_list.mono (fun H2 k => SqL.of (k _ _ n ha)) fun _ _ _ _ _ _ y => y)⟩
theorem Src.tup (h : ∀ Q : VK, (∀ a H1, Ex H H1 → a ≠ p → H1 a = some (.tup xs) → Q (.ref a) H1) → te σ H Q) : Src p (iTup K te) σ H xs := fun R q =>
  h _ fun a H1 e n ha => ⟨a, rfl, ⟨xs, SqT.of ha⟩, q _ H1 e (walk_tup.mono (fun H2 k => SqT.of (k _ _ n ha)) fun _ _ _ _ _ _ y => y)⟩
theorem Src.nameL {i : Nat} {a : Addr} (hi : σ[i]? = some (some (.ref a))) (n : a ≠ p) (ha : H a = some (.lst xs)) : Src p (iList K (tVar i)) σ H xs :=
  .list fun Q q => ⟨_, hi, q a H (Ex.rfl' H) n ha⟩
theorem Src.nameT {i : Nat} {a : Addr} (hi : σ[i]? = some (some (.ref a))) (n : a ≠ p) (ha : H a = some (.tup xs)) : Src p (iTup K (tVar i)) σ H xs :=
  .tup fun Q q => ⟨_, hi, q a H (Ex.rfl' H) n ha⟩
/-- a name that holds a list or a tuple -/
theorem Src.nameS {i : Nat} {v : V} (hi : σ[i]? = some (some v)) (h : Kd p H v) (e : its H v = some xs) : Src p (iSeq K (tVar i) (tVar i)) σ H xs := fun R q => by
  obtain ⟨a, rfl, n, ha | ha⟩ := its_at h e
  · exact .inl (Src.nameL hi n ha R q)
  · exact .inr (Src.nameT hi n ha R q)
theorem Src.str {z : Str} (h : ∀ Q : VK, (∀ H1, Ex H H1 → Q (.str z) H1) → te σ H Q) : Src p (iStr te) σ H (z.cps.toList.map fun c => V.str ⟨#[c]⟩) := fun R q =>
  h _ fun H1 e => ⟨z, rfl, q _ H1 e (by
    rw [List.length_map, Array.length_toList]
    refine walk_str.mono (fun _ _ => trivial) fun i H x H' hi _ y => ⟨y.1, ?_⟩
    obtain ⟨c, hc, rfl⟩ := y.2
    rw [List.getElem?_map, Array.getElem?_toList, hc]; rfl)⟩
/-- 0, 1, .. below n -/
def ups (n : Int) : List V := (List.range n.toNat).map fun (i : Nat) => V.int (i : Int)
theorem ups_len (n : Int) : (ups n).length = n.toNat := by unfold ups; rw [List.length_map, List.length_range]
theorem ups_get {n : Int} {i : Nat} (h : i < n.toNat) : (ups n)[i]? = some (.int (i : Int)) := by
  unfold ups; rw [List.getElem?_map, List.getElem?_range h]; rfl
theorem Src.range {ta : TA} {n : Int} (hn : -1000000 ≤ n ∧ n ≤ 1000000) (h : ∀ Q : List V → Hp → Prop, (∀ H1, Ex H H1 → Q [.int n] H1) → ta σ H Q) : Src p (iRng1 ta) σ H (ups n) := fun R q =>
  h _ fun H1 e => ⟨n, rfl, by omega, by omega, q _ H1 e (by
    rw [ups_len]
    refine walk_range.mono (fun _ _ => trivial) fun i H x H' hi _ y => ⟨y.1, ?_⟩
    rw [ups_get hi, y.2]
    show some (V.int (i : Int)) = some (V.int (0 + (i : Int)))
    rw [Int.zero_add])⟩

/-- a comprehension whose parts change nothing: what is left of xs, each by f -/
theorem lc_pure {wi : TI} {tt : TT} {j : Nat} {Q : VK} (src : Src p wi σ H xs) (hz : xs.length ≤ 500000) (pd : V → Bool) (f : V → V)
    (ht : ∀ x, x ∈ xs → ∀ H1, Ex H H1 → ∀ Q1 : Bool → Hp → Prop, (∀ H2, Ex H1 H2 → Q1 (pd x) H2) → tt ((σ.set j none).set j (some x)) H1 Q1)
    (he : ∀ x, x ∈ xs → pd x = true → ∀ H1, Ex H H1 → ∀ Q1 : VK, (∀ H2, Ex H1 H2 → Q1 (f x) H2) → te ((σ.set j none).set j (some x)) H1 Q1)
    (q : ∀ D H2, H D = none → H2 D = some (.lst ((xs.filter pd).map f)) → Ex H H2 → Q (.ref D) H2) : tLc wi (gName j) tt te [j] σ H Q := by
  refine src _ fun J H1 e1 w D hD => ?_
  refine lc_it w (fun i H2 => H2 D = some (.lst (((xs.take i).filter pd).map f)) ∧ Ex H1 H2) ⟨upd_same, Ex.nw hD⟩ (fun i H2 _ g => Ex.kp g.2) ?_ fun H2 g => ?_
  · rintro i x H2 H3 hi ⟨g1, g2⟩ ⟨rfl, hx⟩
    have hm : x ∈ xs := List.mem_of_getElem? hx
    refine ⟨?_, ?_⟩
    · show ((σ.set j none).set j (some x)).set j none = σ.set j none
      rw [List.set_set, List.set_set]
    · refine ht x hm H3 (e1.tr g2) _ fun H4 e4 => ?_
      have g4 := e4 _ _ g1
      cases hp : pd x with
      | true =>
        refine iteT ?_
        refine he x hm hp H4 ((e1.tr g2).tr e4) _ fun H5 e5 => ⟨_, e5 _ _ g4, ?_, ?_, ((g2.tr e4).tr e5).up hD⟩
        · rw [List.length_map]
          have := List.length_filter_le pd (xs.take i)
          rw [List.length_take] at this
          exact sz_ok (by omega)
        · rw [take_step hx, List.filter_append, List.map_append, List.filter_cons_of_pos hp]
          exact upd_same
      | false =>
        refine iteF ⟨?_, g2.tr e4⟩
        rw [take_step hx, List.filter_append, List.filter_cons_of_neg (by rw [hp]; decide)]
        simpa using g4
  · have g1 := g.1
    rw [List.take_length] at g1
    exact q D H2 (e1.no hD) g1 (e1.tr g.2)
theorem yes_pd {x : V} {τ : L2.St} {H1 : Hp} {Q1 : Bool → Hp → Prop} (h : ∀ H2, Ex H1 H2 → Q1 ((fun _ : V => true) x) H2) : tYes τ H1 Q1 := h H1 (Ex.rfl' H1)
/-- without a test -/
theorem lc_map {wi : TI} {j : Nat} {Q : VK} (src : Src p wi σ H xs) (hz : xs.length ≤ 500000) (f : V → V)
    (he : ∀ x, x ∈ xs → ∀ H1, Ex H H1 → ∀ Q1 : VK, (∀ H2, Ex H1 H2 → Q1 (f x) H2) → te ((σ.set j none).set j (some x)) H1 Q1)
    (q : ∀ D H2, H D = none → H2 D = some (.lst (xs.map f)) → Ex H H2 → Q (.ref D) H2) : tLc wi (gName j) tYes te [j] σ H Q :=
  lc_pure src hz (fun _ => true) f (fun x _ H1 _ Q1 h => h H1 (Ex.rfl' H1)) (fun x hx _ => he x hx) fun D H2 n g e => q D H2 n (by rw [List.filter_eq_self.mpr (fun _ _ => rfl)] at g; exact g) e
/-- a loop over a source: Pv by the heap ahead, the turn, the slots, the heap -/
theorem for_src {wi : TI} {j : Nat} {tb : TS} {D : Ends} (src : Src p wi σ H xs) (Pv : Hp → Nat → L2.St → Hp → Prop) (h0 : ∀ H1, Ex H H1 → Pv H1 0 σ H1)
    (hk : ∀ H1 i σ' H2, Pv H1 i σ' H2 → Kp p H1 H2)
    (hs : ∀ H1 i x σ' H2, Ex H H1 → xs[i]? = some x → Pv H1 i σ' H2 → tb { D with nx := Pv H1 (i + 1), ct := Pv H1 (i + 1), bk := D.nx } (σ'.set j (some x)) H2)
    (hd : ∀ H1 σ' H2, Ex H H1 → Pv H1 xs.length σ' H2 → D.nx σ' H2) : tFor wi (gName j) tb D σ H :=
  src _ fun J H1 e1 w => for_it w (Pv H1) (h0 H1 e1) (fun i σ' H2 _ g => hk H1 i σ' H2 g) (fun i x σ' H2 H3 hi g y => by
    obtain ⟨rfl, hx⟩ := y
    exact hs H1 i x σ' H3 e1 hx g) fun σ' H2 g => hd H1 σ' H2 e1 g
end
end GL
namespace GL
open PySem PySem.Spec PyProof.Rows L2
/-- a value, the heap as it is -/
abbrev Va (te : TE) (σ : L2.St) (H : Hp) (v : V) : Prop := ∀ Q : VK, Q v H → te σ H Q
theorem va_var {i : Nat} {σ : L2.St} {H : Hp} {v : V} (h : σ[i]? = some (some v)) : Va (tVar i) σ H v := fun _ q => ⟨v, h, q⟩
theorem va_c {σ : L2.St} {H : Hp} {v : V} : Va (tC v) σ H v := fun _ q => q
theorem va_chain {p q : Int → Int → Bool} {ta tb tc : TE} {σ : L2.St} {H : Hp} {a b c : Int} (ha : Va ta σ H (.int a)) (hb : Va tb σ H (.int b)) (hc : Va tc σ H (.int c)) :
    Va (tChain (rI0 fun i j => .bl (p i j)) (rI0 fun i j => .bl (q i j)) ta tb tc) σ H (.bl (p a b && q b c)) := fun Q k =>
  ha _ (hb _ ⟨a, b, rfl, rfl, p a b, rfl, by
    cases e : p a b with
    | true => rw [e, Bool.true_and] at k; exact iteT (hc _ ⟨b, c, rfl, rfl, k⟩)
    | false => rw [e, Bool.false_and] at k; exact iteF k⟩)
end GL
/-! Own exceptions made by keywords. -/
namespace GL
open PySem PySem.W PySem.HandSPX
section
variable {prog : Program} {w : World} {M : Model} {A : Around} {E : Value → Shared → Prop} {R : Result → Shared → Prop} {h : Heap} {g : Array GenState} {d : Drawn} {t : Nat} {os : OsState}
variable {nm q : Str} {C N : Addr} {bs bm bmB : List Value} {hdct : Bool} {sn : List Str} {sub : List Value} {ab : Bool} {col : Option Bool} {dd : Option Addr} {k0 k1 k2 k3 k5 : Option Value} {B newId initId : String} {kw : List (Str × Value)} {rest : List Value}
theorem chk_newK (F : ExcBaseFacts B newId initId bmB) (hT : ∀ Y : String, bm.contains (.type Y) = bmB.contains (.type Y)) {Q : Unit → Shared → Prop}
    (hC : h.get? C = some (excClassObj nm q C N bs bm hdct sn sub ab col dd k0 k1 k2 k3 k5 newId)) (z : Q () ⟨h, g, d, t, os⟩) : wpAny M A (checkBuiltinCall newId ⟨.ref C :: rest, kw⟩) Q E ⟨h, g, d, t, os⟩ := by
  have hB : (Value.ref C :: bm).contains (.type B) = true := by
    rw [List.contains_cons, hT, F.hasB]; exact Bool.or_true _
  have st := F.noStar
  simp only [checkBuiltinCall, F.newSplit, F.newKind, F.newRow]
  repeat (first | (refine wpAny_isSubtype_exc hC ?_; rw [hB]) | refine wpAny_madeBy_exc hC ?_ | refine wpAny_staticBase_exc hC ?_ | refine wpAny_loadPart_at hC ?_ | simp only [bne_self_eq_false, Bool.false_eq_true, if_false] | wp_step)
  exact z
theorem run_newK (F : ExcBaseFacts B newId initId bmB) (hT : ∀ Y : String, bm.contains (.type Y) = bmB.contains (.type Y))
    (hC : h.get? C = some (excClassObj nm q C N bs bm hdct sn sub ab col dd k0 k1 k2 k3 k5 newId)) (hl : rest.length ≤ sizeLine)
    (z : R (.ok (.ret (.ref (h.objs.size + 1)))) ⟨(h.push (kdv_tup rest)).push (excO C h.objs.size), g, d, t, os⟩) :
    codeAny (model prog w) A (.builtin newId ⟨.ref C :: rest, kw⟩) R ⟨h, g, d, t, os⟩ := by
  have en := F.ends
  have cB : (Value.ref C :: bm).contains (.type B) = true := by
    rw [List.contains_cons, hT, F.hasB]; exact Bool.or_true _
  have cA : (Value.ref C :: bm).contains (.type "AttributeError") = false := by
    rw [List.contains_cons, hT, F.noAttr]; rfl
  have cN : (Value.ref C :: bm).contains (.type "NameError") = false := by
    rw [List.contains_cons, hT, F.noName]; rfl
  refine codeAny_builtinAt F.entry ?_
  unfold Builtin.«BaseException.__new__»
  refine wpAt_bind ?_
  show wpAt _ _ _ (stack >>= _) _ _ _
  refine wpAt_bind (wpAt_stack fun p below => wpAt_of_wpAny ?_)
  wp_walk
  refine wpAt_of_wpAny ?_
  rw [F.owner]
  repeat (first | with_reducible refine wpAny_loadPart_at hC ?_ | with_reducible refine wpAny_madeHere_exc F.canon hC ?_ | (with_reducible refine wpAny_isSubtype_exc hC ?_; first | rw [cA] | rw [cB] | rw [cN]) | wp_step)
  show R _ _
  rw [Heap.size_push]
  exact z
theorem tcall_ownK (F : ExcBaseFacts B newId initId bmB) (hT : ∀ Y : String, bm.contains (.type Y) = bmB.contains (.type Y)) {fI : Addr} {Q : Fin → Shared → Prop}
    (hC : h.get? C = some (excClassObj nm q C N bs bm hdct sn sub ab col dd k0 k1 k2 k3 k5 newId))
    (hi : W.Looks (model prog w) h (typeLookup (.ref C) "__init__") (some (.ref fI))) (hb : ∀ self, W.Looks (model prog w) h (bindSpecial (.ref fI) self) (.ref fI, [self])) (hl : rest.length ≤ sizeLine)
    (z : codeAny (model prog w) A (.call (.ref fI) ⟨.ref (h.objs.size + 1) :: rest, kw⟩)
      (fun r s' => match r with | .ok (.ret v) => v = .none ∧ Q (.done (.ret (.ref (h.objs.size + 1)))) s' | .ok _ => False | .error e => E e s')
      ⟨(h.push (kdv_tup rest)).push (excO C h.objs.size), g, d, t, os⟩) :
    wpAny (model prog w) A (Builtin.«type.__call__» ⟨.ref C :: rest, kw⟩) Q E ⟨h, g, d, t, os⟩ := by
  repeat (first | with_reducible refine wpAny_madeBy_exc hC ?_ | with_reducible refine wpAny_loadPart_at hC ?_ | wp_step)
  refine codeAny_call_builtin_code (Code.quiet_builtin _ F.quiet) (chk_newK F hT hC ?_)
  refine run_newK F hT hC hl ?_
  show wpAny _ _ _ _ _ _
  have k : ∀ b o, h.get? b = some o → ((h.push (kdv_tup rest)).push (excO C h.objs.size)).get? b = some o := fun b o e => Heap.get?_push_of_some _ (Heap.get?_push_of_some _ e)
  have hC1 := k _ _ hC
  have hg : ((h.push (kdv_tup rest)).push (excO C h.objs.size)).get? (h.objs.size + 1) = some (excO C h.objs.size) := by heap_get
  have cC : (Value.ref C :: bm).contains (.ref C) = true := by simp
  have i1 := hi.keeps k
  have b1 := (hb (.ref (h.objs.size + 1))).keeps k
  unfold isInstance
  repeat (first | (with_reducible refine wpAny_isSubtype_exc hC1 ?_; rw [cC]) | with_reducible refine wpAny_loadPart_at hg ?_ | wp_step)
  show wpAny _ _ (typeLookup (.ref C) _) _ _ _
  refine i1.at ?_
  refine wpAny_holding (wpAny_bind (b1.at ?_))
  refine wpAny_bind (wpAny_call (codeAny_mono z fun r s' y => ?_))
  rcases r with e | (v | _ | _ | _) <;> first | exact y.elim | exact y | skip
  obtain ⟨rfl, y⟩ := y
  first
    | exact wpAny_pure (wpAny_pure y)
    | (wp_walk; exact y)
theorem chk_tcK {Q : Unit → Shared → Prop} (hC : h.get? C = some (excClassObj nm q C N bs bm hdct sn sub ab col dd k0 k1 k2 k3 k5 newId))
    (z : Q () ⟨h, g, d, t, os⟩) : wpAny M A (checkBuiltinCall "type.__call__" ⟨.ref C :: rest, kw⟩) Q E ⟨h, g, d, t, os⟩ := by
  have f3 := tc_sub
  have ty : (⟨h, g, d, t, os⟩ : Shared).TypeIs (.ref C) "type" := ⟨_, hC, rfl⟩
  simp only [checkBuiltinCall, tc_split, tc_kind]
  repeat (any_goals (first | assumption | with_reducible refine wpAny_map ?_ | with_reducible refine wpAny_loadPart_at hC ?_ | with_reducible refine wpAny_onRaise ?_ | wp_step))
theorem call_ownK (F : ExcBaseFacts B newId initId bmB) (hT : ∀ Y : String, bm.contains (.type Y) = bmB.contains (.type Y)) {fI : Addr}
    (hC : h.get? C = some (excClassObj nm q C N bs bm hdct sn sub ab col dd k0 k1 k2 k3 k5 newId))
    (hi : W.Looks (model prog w) h (typeLookup (.ref C) "__init__") (some (.ref fI))) (hb : ∀ self, W.Looks (model prog w) h (bindSpecial (.ref fI) self) (.ref fI, [self])) (hl : rest.length ≤ sizeLine)
    (z : codeAny (model prog w) (A.under (.builtin "type.__call__" ⟨.ref C :: rest, kw⟩)) (.call (.ref fI) ⟨.ref (h.objs.size + 1) :: rest, kw⟩) (W.InitBack (h.objs.size + 1) R)
      ⟨(h.push (kdv_tup rest)).push (excO C h.objs.size), g, d, t, os⟩) :
    codeAny (model prog w) A (.call (.ref C) ⟨rest, kw⟩) R ⟨h, g, d, t, os⟩ := by
  have f1 := tc_lookup
  have f2 := tc_bind (.ref C)
  have ty : (⟨h, g, d, t, os⟩ : Shared).TypeIs (.ref C) "type" := ⟨_, hC, rfl⟩
  refine codeAny_of_tree ?_
  show wpAny _ _ (callAny (.ref C) _) _ _ _
  repeat (any_goals (first | with_reducible refine wpAny_loadPart_at hC ?_ | assumption | wp_step))
  refine ⟨rfl, ?_⟩
  refine codeAny_call_builtin_at (Code.quiet_builtin _ (by decide +kernel)) entry_typeCall (chk_tcK hC (tcall_ownK F hT hC hi hb hl ?_))
  refine codeAny_mono z fun r s' y => ?_
  rcases r with e | (v | _ | _ | _) <;> exact y
end
end GL
/-! Own exceptions as values: made, their fields read, isinstance. -/
namespace GL
open PySem PySem.Spec PyProof.Rows L2
/-- an own exception at a, of the class at C; its dict d -/
def Ed (H : Hp) (a C : Addr) (d : Option Addr) (fs : List (Str × V)) : Prop := ∃ φ, H a = some (.ext φ) ∧ (∀ h, φ h → ∃ oe vs, h.get? a = some oe ∧ Zc (.ref C) d oe ∧ oe.data = .fields vs) ∧
  match d with | some dd => H dd = some (exd dd fs) | none => fs = []
def Ef (H : Hp) (a C : Addr) (fs : List (Str × V)) : Prop := ∃ d, Ed H a C d fs
def Ei (H : Hp) (a C : Addr) : Prop := ∃ fs, Ef H a C fs
theorem Ed.ex {H H' : Hp} {a C : Addr} {d : Option Addr} {fs : List (Str × V)} (e : Ex H H') (h : Ed H a C d fs) : Ed H' a C d fs := by
  obtain ⟨φ, h1, h2, h3⟩ := h
  refine ⟨φ, e _ _ h1, h2, ?_⟩
  cases d with
  | none => exact h3
  | some dd => exact e _ _ h3
theorem Ef.ex {H H' : Hp} {a C : Addr} {fs : List (Str × V)} (e : Ex H H') (h : Ef H a C fs) : Ef H' a C fs := by obtain ⟨d, h⟩ := h; exact ⟨d, h.ex e⟩
theorem Ei.ex {H H' : Hp} {a C : Addr} (e : Ex H H') (h : Ei H a C) : Ei H' a C := by obtain ⟨fs, h⟩ := h; exact ⟨fs, h.ex e⟩
theorem Ef.ei {H : Hp} {a C : Addr} {fs : List (Str × V)} (h : Ef H a C fs) : Ei H a C := ⟨fs, h⟩
theorem Ed.of {H : Hp} {a C dd : Addr} {fs : List (Str × V)} (h1 : H a = some (exo a C (some dd))) (h2 : H dd = some (exd dd fs)) : Ed H a C (some dd) fs :=
  ⟨_, h1, fun h ⟨t, z⟩ => ⟨_, _, z, ⟨rfl, rfl⟩, rfl⟩, h2⟩
theorem Ed.of0 {H : Hp} {a C : Addr} (h1 : H a = some (exo a C none)) : Ed H a C none [] := ⟨_, h1, fun h ⟨t, z⟩ => ⟨_, _, z, ⟨rfl, rfl⟩, rfl⟩, rfl⟩
/-- what the written part says of such a class -/
structure ClsX (K : PySem.W.Frag) (C : Addr) : Prop where
  ox : OexC K C
  ga : PySem.W.findIn K (.ref C) "__getattribute__" = some (some (.builtin "BaseException.__getattribute__"))
  gg : PySem.W.findIn K (.ref C) "__getattr__" = some none
  hd : PySem.W.hasDictIn K C = true
  hc : PySem.W.findIn K (.ref C) "__class__" = some (some (.builtin "object.__class__"))
  hm : PySem.W.mroIn K C (.type "object") = some true
  sn : PySem.W.specialIn K (.builtin "object.__class__") "__get__" = some (some (.builtin "getset_descriptor.__get__"))
  st : PySem.W.takesIn K (.builtin "object.__class__") = some true
section
variable {X : Cx} {pins : List (Addr × Obj)} {σ : L2.St} {H : Hp} {s : Shared} {a C : Addr} {d : Option Addr} {fs : List (Str × V)}
theorem inst_of (I : Inv X pins σ H s) (e : Ed H a C d fs) : ∃ oe od, PySem.W.InstAt s.heap a oe C od ∧ (∀ dd, d = some dd → ∃ mA, s.heap.Ns1 dd mA ∧ (∀ f, RelO (fs.lookup f) (mA f)) ∧ ∃ o, od = some o ∧ s.heap.get? dd = some o) := by
  obtain ⟨φ, h1, h2, h3⟩ := e
  have x : φ s.heap := (I.hok a _ h1).1
  obtain ⟨oe, vs, hg, hz, hv⟩ := h2 _ x
  cases d with
  | none =>
    refine ⟨oe, none, ⟨hg, hz.1, by unfold PySem.W.notCls; rw [hv] <;> rfl, by rw [hz.2]; trivial⟩, fun dd z => by cases z⟩
  | some dd =>
    obtain ⟨mA, hns, rel⟩ := exd_at I.hok h3
    obtain ⟨od, ho, hl⟩ := lookIn_ns hns
    exact ⟨oe, some od, ⟨hg, hz.1, by unfold PySem.W.notCls; rw [hv] <;> rfl, by rw [hz.2]; exact ho⟩, fun d2 z => by cases z; exact ⟨mA, hns, rel, od, rfl, ho⟩⟩
/-- e.f of such an exception -/
def tAtX (K : PySem.W.Frag) (f : Str) (te : TE) : TE := fun σ H Q => te σ H fun x H1 => ∃ (a C : Addr) (fs : List (Str × V)) (v : V), x = .ref a ∧ Ef H1 a C fs ∧ ClsX K C ∧ PySem.W.findIn K (.ref C) f = some none ∧ fs.lookup f = some v ∧ Q v H1
theorem pe_atX {e : Expr} {te : TE} {pos : Pos} {f : Str} (he : PE X e te) (hb : attributeBase e f X.env (eval e X.env) = eval e X.env := by rfl) : PE X (.Attribute e f pos) (tAtX X.K f te) := by
  refine ⟨fun pins s σ H Q I h => attr_of hb (thn (he.run pins s σ H _ I h) fun u s1 hh => ?_)⟩
  obtain ⟨x, H1, I1, rx, a, C, fs, v, rfl, ⟨d, ed⟩, cx, hno, hl, q⟩ := hh
  obtain rfl : u = Value.ref a := rx
  obtain ⟨oe, od, J, hdd⟩ := inst_of I1 ed
  cases d with
  | none =>
    obtain ⟨φ, _, _, z⟩ := ed
    have z' : fs = [] := z
    rw [z'] at hl; cases hl
  | some dd =>
    obtain ⟨mA, hns, hr, o, rfl, ho⟩ := hdd dd rfl
    obtain ⟨od', ho', hl'⟩ := lookIn_ns hns
    rw [ho] at ho'
    cases ho'
    obtain ⟨u, hu, ru⟩ := RelO.some_of (v := v) (o := mA f) (by rw [← hl]; exact hr f)
    exact HandSPX.exc_get I1.kIn J cx.ga cx.gg cx.ox.exC (PySem.W.findObj_own cx.hd hno rfl (by rw [hl', hu])) (handed_of ru) ⟨v, H1, I1.tok _, ru, q⟩
theorem kit_exc (cx : ClsX X.K C) {od : Option Obj} {oe : Obj} : PySem.W.KitX X.K (.ref a) (.ref C) (fun h => PySem.W.InstAt h a oe C od) :=
  PySem.W.kitx_exc (by obtain ⟨cd, hc, _⟩ := PySem.W.any_some cx.hd; rw [hc]; rfl) cx.ga cx.gg cx.ox.exC cx.hc cx.sn cx.st cx.hm
/-- isinstance(e, c) -/
def rIsX (K : PySem.W.Frag) : List V → Hp → VK → Prop := fun xs H Q => ∃ (a C : Addr) (c : V) (cv : Value) (b : Bool), xs = [.ref a, c] ∧ Ei H a C ∧ ClsX K C ∧ (∀ u, RelV c u → u = cv) ∧ PySem.W.kitOne K (.ref C) cv = some b ∧ Q (.bl b) H
theorem call_isX : CallR X (.builtin "isinstance") (rIsX X.K) := by
  intro pins s σ H xs us Q I r h
  obtain ⟨a, C, c, cv, b, rfl, ⟨fs, d, ed⟩, cx, hcv, e, q⟩ := h
  cases r with
  | cons rx rr =>
    cases rr with
    | cons rt rr =>
      cases rr
      cases rx
      have ec := hcv _ rt
      subst ec
      obtain ⟨oe, od, J, _⟩ := inst_of I ed
      exact PySem.W.kia_one (kit_exc cx) I.kIn J e (fun z => nomatch z) fun tk => ⟨.bl b, H, I.kept (t' := tk) fun _ _ z => z, rfl, q⟩
/-- isinstance(e, (c, ..)) -/
def rIsXT (K : PySem.W.Frag) : List V → Hp → VK → Prop := fun xs H Q => ∃ (a C tp : Addr) (cs : List V) (us : List Value) (b : Bool), xs = [.ref a, .ref tp] ∧ H tp = some (.tup cs) ∧ Ei H a C ∧ ClsX K C ∧ Paired ClsV cs us ∧ PySem.W.kitAny K (.ref C) us = some b ∧ Q (.bl b) H
end
end GL
/-! C(..) of an own exception class: by place, by keywords, without a word. -/
namespace GL
open PySem PySem.Spec PyProof.Rows L2
section
variable {X : Cx} {cx : CXT} {k n : Nat} {C fI : Addr} {fd : FuncData} {ps ks : List Str} {sp spC : Sp} {x : Str} {p pos : Pos} {e : Expr} {es : List Expr} {kws : List Keyword} {t tk : TA} {g gC : {α : Type} → List α → List α → List α}
theorem call_isXT : CallR X (.builtin "isinstance") (rIsXT X.K) := by
  intro pins s σ H xs us Q I r h
  obtain ⟨a, C, tp, cs, ws, b, rfl, hT, ⟨fs, d, ed⟩, cl, pr, e, q⟩ := h
  obtain ⟨u1, u2, rfl, r1, r2⟩ := vals2 r
  cases (show u1 = Value.ref a from r1)
  cases (show u2 = Value.ref tp from r2)
  obtain ⟨oe, od, J, _⟩ := inst_of I ed
  have hO : ObjOk X.prog X.w H s.heap tp (.tup cs) := I.hok tp _ hT
  obtain ⟨_, its, rv, o, h1, h2, n, h3⟩ := hO
  have ew := ClsV.all pr rv
  subst ew
  obtain ⟨oc, od2, dt, sl⟩ := o
  simp only at h2 h3
  subst h2 h3
  exact PySem.W.kia_tup (kit_exc cl) I.kIn J h1 e (fun z => nomatch z) fun tk => ⟨.bl b, H, I.tok tk, rfl, q⟩
/-- what __init__ must do that C's call gives spC -/
def Inits (C : Addr) (sp spC : Sp) : Prop := ∀ (vs : List V) (H : Hp) (Q : VK) (a : Addr), H a = none → spC vs H Q (fun _ _ _ => False) → vs.length ≤ 1000 ∧ sp (.ref a :: vs) (upd H a (exo a C none)) (fun v H2 => v = .non ∧ Q (.ref a) H2) (fun _ _ _ => False)
theorem run_newX {pins : List (Addr × Obj)} {σ : L2.St} {H : Hp} {s : Shared} {Q : VK} {us zs : List Value} {vs : List V} {kw : List (Str × Value)} (cl : ClsX X.K C) (iC : PySem.W.findIn X.K (.ref C) "__init__" = some (some (.ref fI))) (tI : PySem.W.typeIn X.K (.ref fI) = some (.type "function"))
    (Fi : FnG X.prog X.w X.K X.mg X.base cx k fI fd ps sp) (gd : X.A.guards = some []) (rm : Room (k + 1) X.A) (hx : Passes cx X (fun _ _ _ => False)) (im : Inits C sp spC) (I : Inv X pins σ H s) (hl : us.length ≤ 1000)
    (hb : ∀ (s : Shared) (a : Addr), X.K.In s.heap → BindsTo s fd ⟨.ref a :: us, kw⟩ (ps.zip (.ref a :: zs))) (r : Vals vs zs) (h : spC vs H Q (fun _ _ _ => False)) :
    wpAny (model X.prog X.w) X.A (call (.ref C) us kw) (EP X pins σ Q) X.xe s := by
  obtain ⟨nm, q, N, bs, bm, sn, sub, ab, col, dd, k0, k1, k2, k3, k5, hC, hbm⟩ := cl.ox.cls
  obtain ⟨hp, gs, dr, tk, os⟩ := s
  have big : hp.objs.size ≤ hp.objs.size + 1 := Nat.le_succ _
  have free : H (hp.objs.size + 1) = none := I.hok.fresh big
  obtain ⟨_, hq⟩ := im vs H Q _ free h
  have kk : ∀ b o, hp.get? b = some o → ((hp.push (PySem.W.kdv_tup us)).push (PySem.HandSPX.excO C hp.objs.size)).get? b = some o := fun b o z => Heap.get?_push_of_some _ (Heap.get?_push_of_some _ z)
  have at1 : ((hp.push (PySem.W.kdv_tup us)).push (PySem.HandSPX.excO C hp.objs.size)).get? (hp.objs.size + 1) = some (PySem.HandSPX.excO C hp.objs.size) := by heap_get
  have J : Inv X pins σ (upd H (hp.objs.size + 1) (exo (hp.objs.size + 1) C none)) ⟨(hp.push (PySem.W.kdv_tup us)).push (PySem.HandSPX.excO C hp.objs.size), gs, dr, tk, os⟩ :=
    I.laid (t' := tk) (a := hp.objs.size + 1) (o := exo (hp.objs.size + 1) C none) kk big (exo_ok at1)
  have rr : Vals (V.ref (hp.objs.size + 1) :: vs) (Value.ref (hp.objs.size + 1) :: zs) := .cons rfl r
  refine wpAny_call (call_ownK F.excBase_ValueError (fun Y => PySem.HandSPX.refsVE_contains Y bm hbm) (I.kIn _ _ hC) (PySem.W.looks_findIn I.kIn iC) (fun self => PySem.W.bind_fn I.kIn self tI) (by rw [sizeLine_eq]; omega) ?_)
  refine codeAny_mono (Fi.run _ X.stack _ _ ⟨.ref (hp.objs.size + 1) :: us, kw⟩ _ _ _ (fun _ _ _ => False) gd (rm.make C us kw) (J.env0.make C us kw) (hb _ _ J.kIn) rr hq) fun res s' z => ?_
  cases res with
  | error er => exact hx pins σ _ _ er s' J z
  | ok fl =>
    cases fl with
    | ret u =>
      obtain ⟨v, H', J2, rv, ev, q3⟩ := J.after z
      subst ev
      exact ⟨rv, ⟨V.ref (hp.objs.size + 1), H', J2, rfl, q3⟩⟩
    | next => exact z.elim
    | brk => exact z.elim
    | cont => exact z.elim
/-- C(e, ..) -/
theorem pe_newX (cl : ClsX X.K C) (iC : PySem.W.findIn X.K (.ref C) "__init__" = some (some (.ref fI))) (tI : PySem.W.typeIn X.K (.ref fI) = some (.type "function")) (Fi : FnG X.prog X.w X.K X.mg X.base cx k fI fd ps sp) (gd : X.A.guards = some [])
    (rm : Room (k + 1) X.A) (hx : Passes cx X (fun _ _ _ => False)) (im : Inits C sp spC) (hb : Binds X.K fd ps []) (hg : Gl X x) (hm : X.mg x = some (.ref C)) (ha : PA X (e :: es) t)
    (hdb : (x == ("__debug__" : Str)) = false := by decide) (hst : starEach (e :: es) X.env = (false, eval e X.env) :: starEach es X.env := by rfl)
    (hpl : (backTo pos (starEach es X.env)).any (·.1) = false := by rfl) : PE X (.Call (.Name x p) (e :: es) [] pos) (tCall spC [] (fun _ _ _ => False) t) := by
  refine ⟨fun pins s σ H Q I h => wpAny_Call_Name_kw (ld_glob I hg hm ?_ hdb)⟩
  refine PySem.W.callWith_K (h₀ := X.base) I.ok.mod.kin cl.ox.kC (thn (ha.run pos pins s σ H _ I h) ?_) hst hpl
  rintro us s1 ⟨vs, H1, I1, r, q⟩
  have q' : spC (vs ++ []) H1 Q (fun _ _ _ => False) := q
  rw [List.append_nil] at q'
  have fr := I1.hok.fresh (Nat.le_refl s1.heap.objs.size)
  have l1 := (im vs H1 Q _ fr q').1
  have l2 := r.length
  have l3 := Fi.len _ _ _ _ (im vs H1 Q _ fr q').2
  refine ⟨I1.kIn, run_newX cl iC tI Fi gd rm hx im I1 (us := us) (zs := us) (show us.length ≤ 1000 by omega) (fun s a X1 => ?_) r q'⟩
  have z := hb s (.ref a :: us) X1 (by rw [List.append_nil]; simp only [List.length_cons] at l3 ⊢; omega)
  rw [List.append_nil] at z
  exact z
/-- C(k = v, ..) -/
theorem pe_newK (cl : ClsX X.K C) (iC : PySem.W.findIn X.K (.ref C) "__init__" = some (some (.ref fI))) (tI : PySem.W.typeIn X.K (.ref fI) = some (.type "function")) (Fi : FnG X.prog X.w X.K X.mg X.base cx k fI fd ps sp) (gd : X.A.guards = some [])
    (rm : Room (k + 1) X.A) (hx : Passes cx X (fun _ _ _ => False)) (im : Inits C sp spC) (hb : KwB X.K fd ps 1 ks g) (hgc : ∀ {α : Type} (a : α) (ws : List α), ws.length = ks.length → g [a] ws = a :: gC [] ws)
    (hr : ∀ {zs : List V} {ws : List Value}, zs.length = ks.length → Vals zs ws → Vals (gC [] zs) (gC [] ws)) (hg : Gl X x) (hm : X.mg x = some (.ref C)) (hk : PK X kws tk)
    (hall : (backToKw pos (keywordEach kws X.env)).all (·.1.isSome) = true := by rfl) (hks : (backToKw pos (keywordEach kws X.env)).filterMap (·.1) = ks := by rfl)
    (hdb : (x == ("__debug__" : Str)) = false := by decide)
    (hpl : ((backTo pos (starEach [] X.env)).any (·.1) || (backToKw pos (keywordEach kws X.env)).any (·.1.isNone)) = false := by rfl) :
    PE X (.Call (.Name x p) [] kws pos) (tKw 0 ks.length spC gC (fun _ _ _ => False) tNil tk) := by
  refine ⟨fun pins s σ H Q I h => wpAny_Call_Name_kw (ld_glob I hg hm ?_ hdb)⟩
  refine PySem.W.callWith_KW0 (h₀ := X.base) I.ok.mod.kin cl.ox.kC hall ?_ hpl
  refine thn (hk.run pos pins s σ H _ I h) ?_
  rintro ws s2 ⟨zs, H2, I2, rz, l1, l2, q2⟩
  rw [hks]
  refine ⟨I2.kIn, run_newX cl iC tI Fi gd rm hx im I2 (us := []) (zs := gC [] ws) (Nat.zero_le _) (fun s a X1 => ?_) (hr l2 rz) q2⟩
  have z := hb.to s [.ref a] ws rfl (rz.length.symm.trans l2)
  rw [hgc _ _ (rz.length.symm.trans l2)] at z
  exact z
/-- C() of a class that has no own __init__ -/
theorem pe_new0 {bmB : List Value} {B newId initId : String} (F0 : ExcBaseFacts B newId initId bmB) (qx : PySem.W.excIn X.K C bmB newId = true) (hm : X.mg x = some (.ref C)) (kC : PySem.W.keepIn X.K (.ref C) = true) (hg : Gl X x)
    (hdb : (x == ("__debug__" : Str)) = false := by decide) : PE X (.Call (.Name x p) [] [] pos) (fun _ H Q => ∀ a H', H a = none → Ex H H' → Ef H' a C [] → Q (.ref a) H') := by
  refine ⟨fun pins s σ H Q I h => wpAny_Call_Name_kw (ld_glob I hg hm (PySem.W.callWith_K0 I.kIn kC ?_) hdb)⟩
  obtain ⟨bm, N, nm, qn, bs, hdct, sn, sub, ab, col, dd, k0, k1, k2, k3, k5, mN, hC, hN, hni, T⟩ := exc_obj I.kIn qx
  refine wpAny_call_exc_subT F0 T hC hN hni (fun h' a hm => ?_) (by show 0 ≤ sizeLine; omega)
  have free : H a = none := I.hok.gone hm.new
  obtain ⟨t, ht, _, _⟩ := hm.there
  refine ⟨.ref a, upd H a (exo a C none), I.laidN hm.keeps hm.new free (exo_ok ht), rfl, h a _ free (Ex.nw free) ⟨none, Ed.of0 upd_same⟩⟩
end
end GL
/-! try with a clause of several classes that is not meant, then except x as n, the exception tracked within the suite. -/
namespace GL
open PySem PySem.Spec PyProof.Rows L2
theorem fly_more {B h h' : Heap} {l : List Env} {e : Addr} {Z : Obj → Prop} (x : HandSPX.FlyingZ B l e Z h) (k : ∀ b o, h.get? b = some o → h'.get? b = some o) : HandSPX.FlyingZ B l e Z h' := by
  obtain ⟨h1, h2, h3, oe, vs, T, oT, ts, he, hz, hd, hv, hn, hne, hT, hdT, h4⟩ := x
  exact ⟨fun b o z => k _ _ (h1 b o z), h2, h3.of_keeps fun b o z _ => ⟨o, k _ _ z, rfl⟩, oe, vs, T, oT, ts, k _ _ he, hz, hd, hv, hn, hne, k _ _ hT, hdT, h4⟩
section
variable {X : Cx} {pins : List (Addr × Obj)} {σ : L2.St} {H : Hp} {s : Shared}
/-- the suite's state, the exception tracked in the place of its pin -/
theorem Inv.track {a : Addr} {oe : Obj} {vs : Array Value} {pn : List (Addr × Obj)} {φ : Heap → Prop} (ok : X.Ok) (I : Inv (X.suite a ((a, oe) :: pn)) [] σ H s) (hv : oe.data = .fields vs) (hφ : φ s.heap) (mono : ∀ h h' : Heap, φ h → (∀ o, h.get? a = some o → h'.get? a = some o) → φ h')
    (h0 : ∀ o, X.s_0.heap.get? a = some o → X.H_0 a = none → a ∉ X.ex → False) (hp : ∀ q ∈ pn, q.1 ≠ a) : Inv (X.suite a pn) [] σ (upd H a (.ext φ)) s := by
  obtain ⟨ha, na, nL, nF, nc⟩ := I.pin (a, oe) (List.mem_append_left _ List.mem_cons_self)
  have neN : ∀ {b : Addr} {o : HO}, H b = some o → b ≠ a := fun z e => by rw [e, na] at z; cases z
  refine ⟨ok.suite a pn, I.os, I.bare, ⟨I.base.keep, I.base.slot, fun b o z n hx => ?_, I.base.there, fun b xs z => ?_, fun b o u z => ?_, fun b ps z => ?_⟩, I.loc, I.cell, ?_, fun y c z => ?_, fun q hq => ?_, fun b o z => ?_, I.len⟩
  · by_cases e : b = a
    · subst e; exact (h0 o z n hx).elim
    · rw [upd_ne e]; exact I.base.free b o z n hx
  · have q := I.base.tups b xs z
    rw [upd_ne (neN q)]; exact q
  · have q := I.base.frzs b o u z
    rw [upd_ne (neN q)]; exact q
  · obtain ⟨m, q⟩ := I.base.tbls b ps z
    exact ⟨m, by rw [upd_ne (neN q)]; exact q⟩
  · rw [upd_ne nL.symm]; exact I.free
  · have q := I.freeC y c z
    have ne : c ≠ a := fun e => by
      obtain ⟨w', o, ho, hd⟩ := I.cell y c z
      subst e
      rw [ha] at ho
      cases ho
      exact nc _ hd
    rw [upd_ne ne]; exact q
  · have hq' : q ∈ pn := by rw [List.append_nil] at hq; exact hq
    obtain ⟨e, n, x1, x2, x3⟩ := I.pin q (List.mem_append_left _ (List.mem_cons_of_mem _ hq'))
    exact ⟨e, by rw [upd_ne (hp q hq')]; exact n, x1, x2, x3⟩
  · by_cases e : b = a
    · subst e
      rw [upd_same] at z
      cases z
      exact ⟨hφ, ⟨_, ha⟩, fun h1 h2 x k => mono h1 h2 x (fun o q => k o q)⟩
    · rw [upd_ne e] at z
      exact (I.hok b o z).stay (fun c v _ q => q) (fun c q => by rw [upd_ne (neN q)]; exact q) (fun c xs q => by rw [upd_ne (neN q)]; exact q)
end
end GL
namespace GL
open PySem PySem.Spec PyProof.Rows L2
/-- tracked anew at a: an exception of the class cls -/
def ExcAt (H : Hp) (a : Addr) (cls : Value) (d : Option Addr) (H' : Hp) : Prop := ∃ φ, H' = upd H a (.ext φ) ∧ ∀ h, φ h → ∃ oe vs, h.get? a = some oe ∧ Zc cls d oe ∧ oe.data = .fields vs
def back (i : Nat) (D : Ends) : Ends := { nx := fun τ G => D.nx (τ.set i none) G, rt := D.rt, bk := fun τ G => D.bk (τ.set i none) G, ct := fun τ G => D.ct (τ.set i none) G }
def wLast (K : PySem.W.Frag) (c : Value) (i : Nat) (ts : TS) (D : Ends) : WX := fun cls d τ G => PySem.W.exmOne K cls c = some true ∧ ∀ a G', G a = none → ExcAt G a cls d G' → ts (back i D) (τ.set i (some (.ref a))) G'
/-- a clause that isn't meant -/
def Skip (X : Cx) (cs : List Value) (hd : ExceptHandler) : Prop := ∀ (a : Addr) (pn pins : List (Addr × Obj)) (σ : L2.St) (H : Hp) (s : Shared) (cls : Value) (rest : List ExceptHandler) (Q : Flow → Shared → Prop) (E : Value → Shared → Prop),
  Inv (X.suite a pn) pins σ H s → (∃ oe, s.heap.get? a = some oe ∧ oe.cls = cls) → PySem.W.exmAny X.K cls cs = some false →
  (∀ h', (∀ b o, s.heap.get? b = some o → h'.get? b = some o) → wpAny (model X.prog X.w) X.A (handleBy (.ref a) X.env rest) Q E { s with heap := h' }) → wpAny (model X.prog X.w) X.A (handleBy (.ref a) X.env (hd :: rest)) Q E s
section
variable {X : Cx} {x n x1 x2 x3 : Str} {c c1 c2 c3 : Value} {i : Nat} {body suite : List Stmt} {b₀ : Stmt} {np pos pos' p1 p2 p3 tp : Pos} {kk : Nat} {tb : WX → TS} {ts : TS} {hd : ExceptHandler} {cs : List Value}
theorem skip3 (h1 : Names X x1 c1) (h2 : Names X x2 c2) (h3 : Names X x3 c3) : Skip X [c1, c2, c3] (.ExceptHandler (some (.Tuple [.Name x1 p1, .Name x2 p2, .Name x3 p3] kk tp)) none body pos) := by
  intro a pn pins σ H s cls rest Q E I hcl hx hq
  obtain ⟨oe, he, hc⟩ := hcl
  have name : ∀ {y : Str} {v : Value} {p : Pos} {s' : Shared} {Q : Value → Shared → Prop} {E : Value → Shared → Prop}, Names X y v → Inv (X.suite a pn) pins σ H s' → Q v s' → wpAny (model X.prog X.w) (X.A.mark (some (.ref a))) (eval (.Name y p) X.env) Q E s' := fun {y v p s' Q E} hn I q => by
    obtain ⟨hg, hdb, hm | ⟨hm, hv, hnn⟩⟩ := hn
    · exact ld_glob (X := X.suite a pn) I hg hm q hdb
    · exact ld_blt (X := X.suite a pn) I hg hm hv q hnn hdb
  have LT : PySem.W.Looks (model X.prog X.w) s.heap (typeOf (.ref a)) cls := fun A Q E s' k q => wpAny_typeOf_ref (k _ _ he) (by rw [hc]; exact q)
  refine wpAny_handleBy_cons (codeAny_handlers_test ?_) (by intro z; cases z)
  refine wpAny_Tuple (wpAny_items_cons (name h1 I ?_))
  refine wpAny_items_cons (name h2 I ?_)
  refine wpAny_items_cons (name h3 I ?_)
  refine wpAny_items_nil ⟨by size_fits, ?_⟩
  have kp : ∀ b o, s.heap.get? b = some o → (s.heap.push { cls := .type "tuple", data := .seq [c1, c2, c3].toArray }).get? b = some o := fun _ _ z => Heap.get?_push_of_some _ z
  refine (PySem.W.exm_tup3 (I.kIn.keeps kp) (LT.keeps kp) (Heap.get?_push_size s.heap rfl) hx).here ?_
  exact hq _ kp
theorem skip2 (h1 : Names X x1 c1) (h2 : Names X x2 c2) : Skip X [c1, c2] (.ExceptHandler (some (.Tuple [.Name x1 p1, .Name x2 p2] kk tp)) none body pos) := by
  intro a pn pins σ H s cls rest Q E I hcl hx hq
  obtain ⟨oe, he, hc⟩ := hcl
  have name : ∀ {y : Str} {v : Value} {p : Pos} {s' : Shared} {Q : Value → Shared → Prop} {E : Value → Shared → Prop}, Names X y v → Inv (X.suite a pn) pins σ H s' → Q v s' → wpAny (model X.prog X.w) (X.A.mark (some (.ref a))) (eval (.Name y p) X.env) Q E s' := fun {y v p s' Q E} hn I q => by
    obtain ⟨hg, hdb, hm | ⟨hm, hv, hnn⟩⟩ := hn
    · exact ld_glob (X := X.suite a pn) I hg hm q hdb
    · exact ld_blt (X := X.suite a pn) I hg hm hv q hnn hdb
  have LT : PySem.W.Looks (model X.prog X.w) s.heap (typeOf (.ref a)) cls := fun A Q E s' k q => wpAny_typeOf_ref (k _ _ he) (by rw [hc]; exact q)
  refine wpAny_handleBy_cons (codeAny_handlers_test ?_) (by intro z; cases z)
  refine wpAny_Tuple (wpAny_items_cons (name h1 I ?_))
  refine wpAny_items_cons (name h2 I ?_)
  refine wpAny_items_nil ⟨by size_fits, ?_⟩
  have kp : ∀ b o, s.heap.get? b = some o → (s.heap.push { cls := .type "tuple", data := .seq [c1, c2].toArray }).get? b = some o := fun _ _ z => Heap.get?_push_of_some _ z
  refine (PySem.W.exm_tup2 (I.kIn.keeps kp) (LT.keeps kp) (Heap.get?_push_size s.heap rfl) hx).here ?_
  exact hq _ kp
/-- the last clause, which is meant -/
theorem catch_last {pins : List (Addr × Obj)} {σ : L2.St} {H : Hp} {sI s' : Shared} {B : Heap} {a : Addr} {cls : Value} {d : Option Addr} {D : Ends} (hN : X.N.Nodup) (hi : X.N[i]? = some n) (hln : X.env.kindOf n = some .local) (hc : Names X x c)
    (hsu : ∀ (a : Addr) (pn : List (Addr × Obj)), PSs (X.suite a pn) (b₀ :: suite) ts) (J : Inv X pins σ H sI) (nb : ∀ b o, sI.heap.get? b = some o → b ∉ frs X.stack → B.get? b = some o) (up : sI.heap.UpToSlots s'.heap) (fl : HandSPX.FlyingZ B X.stack a (Zc cls d) s'.heap)
    (na : H a = none) (os : s'.os = sI.os) (ag : AllBare s'.gens) (nL : a ≠ X.env.locals) (nF : a ∉ X.fs) (nS : a ∉ frs X.stack) (w : wLast X.K c i ts D cls d σ H) :
    wpAny (model X.prog X.w) X.A (handleBy (.ref a) X.env [.ExceptHandler (some (.Name x np)) (some n) (b₀ :: suite) pos']) (SP X pins D) X.xe s' := by
  have ok := J.ok
  have nB : B.get? a = none := fl.2.1
  have nI : sI.heap.get? a = none := by
    cases e : sI.heap.get? a with
    | none => rfl
    | some o => rw [nb a o e nS] at nB; cases nB
  have K3 : Inv X pins σ H s' := J.landed nb fl.1 up os ag
  obtain ⟨oe, vs, he, hz, hd⟩ := fl.there
  have S3 := K3.suite he hd na nL nF
  obtain ⟨hb1, hw⟩ := w
  refine wpAny_handleBy_cons (codeAny_handlers_test ?_) (by intro z; cases z)
  have LT : PySem.W.Looks (model X.prog X.w) s'.heap (typeOf (.ref a)) cls := fun A Q E s k q => wpAny_typeOf_ref (k _ _ he) (by rw [hz.1]; exact q)
  have LM := PySem.W.exm_one (M := model X.prog X.w) K3.kIn LT hb1
  have tst : ∀ {Q : Value → Shared → Prop} {E : Value → Shared → Prop}, Q c s' → wpAny (model X.prog X.w) (X.A.mark (some (.ref a))) (eval (.Name x np) X.env) Q E s' := fun {Q E} q => by
    obtain ⟨hg, hdb, hm | ⟨hm, hv, hnn⟩⟩ := hc
    · exact ld_glob (X := X.suite a ((a, oe) :: (X.pn ++ pins))) S3 hg hm q hdb
    · exact ld_blt (X := X.suite a ((a, oe) :: (X.pn ++ pins))) S3 hg hm hv q hnn hdb
  refine tst (LM.here ?_)
  refine codeAny_handlers_suite_as ?_
  refine HandSPX.lands_againZ fl fun h4 fl4 up4 => ?_
  have K4 : Inv X pins σ H { s' with heap := h4 } := J.landed nb fl4.1 (up.trans up4) os ag
  obtain ⟨oe4, vs4, he4, hz4, hd4⟩ := fl4.there
  have S4 := K4.suite he4 hd4 na nL nF
  refine store_ok (X := X.suite a ((a, oe4) :: (X.pn ++ pins))) (v := .ref a) S4 hN hi (.inl hln) rfl (fun s5 S5 => ?_) (.inr hln)
  have T5 := Inv.track (φ := fun h => h.get? a = some oe4) ok S5 hd4 (S5.pin (a, oe4) (List.mem_append_left _ List.mem_cons_self)).1 (fun h1 h2 z k => k _ z)
    (fun o z n hx => by have q := J.base.keep a o z n nF hx; rw [nI] at q; cases q) (fun q hq e => by
      have z := (J.pin q hq).1
      rw [e, nI] at z; cases z)
  refine wpAny_mono ((hsu a (X.pn ++ pins)).run [] s5 _ _ (back i D) T5 (hw a _ na ⟨_, rfl, fun h z => ⟨oe4, vs4, z, hz4, hd4⟩⟩)) (fun f s6 hsp => ?_) (fun _ _ z => False.elim z)
  have fin : ∀ {τ : L2.St} {G : Hp} {Q : Shared → Prop}, Inv (X.suite a (X.pn ++ pins)) [] τ G s6 → (∀ s7, Inv X pins (τ.set i none) G s7 → Q s7) →
      wpAny (model X.prog X.w) X.A (do bindName X.env n .none; unbindBehindTheSuite X.env n pos') (fun _ s7 => Q s7) X.xe s6 := fun {τ G Q} S6 hq =>
    gone_ok (X := X) (pins := pins) ⟨ok, S6.os, S6.bare, S6.base, S6.loc, S6.cell, S6.free, S6.freeC, fun p hp => S6.pin p (List.mem_append_left _ hp), S6.hok, S6.len⟩ hN hi hln hq
  cases f with
  | next =>
    obtain ⟨τ, G, S6, q6⟩ := hsp
    exact fin S6 fun s7 J7 => ⟨_, G, J7, q6⟩
  | brk =>
    obtain ⟨τ, G, S6, q6⟩ := hsp
    exact fin S6 fun s7 J7 => ⟨_, G, J7, q6⟩
  | cont =>
    obtain ⟨τ, G, S6, q6⟩ := hsp
    exact fin S6 fun s7 J7 => ⟨_, G, J7, q6⟩
  | ret u =>
    obtain ⟨v6, τ, G, S6, r6, q6⟩ := hsp
    exact fin S6 fun s7 J7 => ⟨v6, _, G, J7, r6, q6⟩
/-- try: body; except (..): ..; except x as n: suite -/
theorem ps_tryL {hds : List ExceptHandler} {css : List (List Value)} (hs : X.stack = X.env :: X.outer) (hf : X.env.frame = some X.env.locals) (hN : X.N.Nodup) (hi : X.N[i]? = some n) (hln : X.env.kindOf n = some .local) (hc : Names X x c)
    (hb : ∀ (W : WX) (pn : List (Addr × Obj)) (xe : Value → Shared → Prop), Takes (X.tr pn xe) W → PassesOwn (model X.prog X.w) X.A X.env xe → PSs (X.tr pn xe) body (tb W))
    (hk : Paired (Skip X) css hds) (hsu : ∀ (a : Addr) (pn : List (Addr × Obj)), PSs (X.suite a pn) (b₀ :: suite) ts) (hne : ∃ h₀ r, hds ++ [.ExceptHandler (some (.Name x np)) (some n) (b₀ :: suite) pos'] = h₀ :: r) :
    PS X (.Try body (hds ++ [.ExceptHandler (some (.Name x np)) (some n) (b₀ :: suite) pos']) [] [] pos)
      (fun D σ H => tb (fun cls d τ G => (∀ cs, cs ∈ css → PySem.W.exmAny X.K cls cs = some false) ∧ wLast X.K c i ts D cls d τ G) D σ H) := by
  refine ⟨fun pins s σ H D I h => ?_⟩
  have ok := I.ok
  have hfr : X.A.frames = some (X.env :: X.outer) := by rw [ok.frames, hs]
  generalize hL : hds ++ [.ExceptHandler (some (.Name x np)) (some n) (b₀ :: suite) pos'] = L at hne ⊢
  obtain ⟨h₀, r0, rfl⟩ := hne
  refine wpAny_Try_except ?_
  refine wpAny_mono ((hb (fun cls d τ G => (∀ cs, cs ∈ css → PySem.W.exmAny X.K cls cs = some false) ∧ wLast X.K c i ts D cls d τ G) (X.pn ++ pins) (fun e s₁ => wpAny (model X.prog X.w) X.A (noteFrame e X.env) (fun _ s₂ =>
    wpAny (model X.prog X.w) X.A (setFlight e none) (fun _ s₃ => wpAny (model X.prog X.w) X.A (handleBy e X.env (h₀ :: r0)) (SP X pins D) X.xe s₃) X.xe s₂) X.xe s₁) (fun u s' xx => ?_) PassesOwn.looking).run [] s σ H D (I.toTry _) h) (fun f s1 hsp => ?_) (fun e s1 he => he)
  · obtain ⟨a, B, sI, pins', σ', H', cls, d, rfl, J', nb, up, sky, na, os, ag, hsk, w⟩ := xx
    have J : Inv X pins σ' H' sI := J'.ofTry ok
    have sky2 : Sky B (X.env :: X.outer) a (Zc cls d) X.env.locals s'.heap := by rw [← hs]; exact sky
    show wpAny (model X.prog X.w) X.A (noteFrame (.ref a) X.env) _ _ _
    refine Sky.land Zc.steady hfr hf sky2 fun h3 fl3 up3 => ?_
    rw [← hs] at fl3
    obtain ⟨oe3, vs3, he3, hz3, hd3⟩ := fl3.there
    have nS : a ∉ frs X.stack := fun hm => by
      obtain ⟨_, o', e', hnf⟩ := fl3.2.2.1.mem hm
      rw [he3] at e'; cases e'
      exact hnf _ hd3
    have nL : a ≠ X.env.locals := fun z => nS (List.mem_filterMap.mpr ⟨X.env, by rw [hs]; exact List.mem_cons_self, by rw [hf, z]⟩)
    have nF : a ∉ X.fs := fun hm => by
      obtain ⟨e, hx, q⟩ := List.mem_filterMap.mp hm
      exact nS (List.mem_filterMap.mpr ⟨e, by rw [hs]; exact List.mem_cons_of_mem _ hx, q⟩)
    rw [← hL]
    clear hL hb
    have go : ∀ (h3 : Heap), HandSPX.FlyingZ B X.stack a (Zc cls d) h3 → sI.heap.UpToSlots h3 → wpAny (model X.prog X.w) X.A (handleBy (.ref a) X.env (hds ++ [.ExceptHandler (some (.Name x np)) (some n) (b₀ :: suite) pos'])) (SP X pins D) X.xe { s' with heap := h3 } := by
      clear h3 fl3 up3 oe3 vs3 he3 hz3 hd3 h
      induction hk with
      | nil => exact fun h3 fl up => catch_last (s' := { s' with heap := h3 }) hN hi hln hc hsu J nb up fl na os ag nL nF nS w
      | @cons cs0 hd0 css0 hds0 hk0 hkr ih =>
        intro h3 fl up3
        obtain ⟨oe, vs, he, hz, hd⟩ := fl.there
        have K3 : Inv X pins σ' H' { s' with heap := h3 } := J.landed nb fl.1 up3 os ag
        refine hk0 a _ [] σ' H' { s' with heap := h3 } cls _ _ _ (K3.suite he hd na nL nF) ⟨oe, he, hz.1⟩ (hsk _ List.mem_cons_self) fun h' kp => ?_
        exact ih (fun cs m => hsk cs (List.mem_cons_of_mem _ m)) h' (fly_more fl kp) (up3.trans (Heap.UpToSlots.of_keeps kp))
    exact go h3 fl3 (up.trans up3)
  · cases f with
    | next =>
      obtain ⟨τ, G, J, q⟩ := hsp
      exact wpAny_execs_nil ⟨τ, G, J.ofTry ok, q⟩
    | brk =>
      obtain ⟨τ, G, J, q⟩ := hsp
      exact ⟨τ, G, J.ofTry ok, q⟩
    | cont =>
      obtain ⟨τ, G, J, q⟩ := hsp
      exact ⟨τ, G, J.ofTry ok, q⟩
    | ret u =>
      obtain ⟨v, τ, G, J, r, q⟩ := hsp
      exact ⟨v, τ, G, J.ofTry ok, r, q⟩
end
end GL
/-! repr of data with dicts; raise of a made exception; what __init__ does. -/
namespace GL
open PySem PySem.Spec PyProof.Rows L2
def kD : Key → PyData
  | .inl i => .int i
  | .inr x => .str x
mutual
/-- data of any depth, all of it tracked -/
inductive Dq (H : Hp) : V → PyData → Prop
  | non : Dq H .non .none
  | bl (b : Bool) : Dq H (.bl b) (.bool b)
  | int (i : Int) : Dq H (.int i) (.int i)
  | str (x : Str) : Dq H (.str x) (.str x)
  | lst {a : Addr} {xs : List V} {ds : List PyData} : H a = some (.lst xs) → DqA H xs ds → Dq H (.ref a) (.list ds)
  | tup {a : Addr} {xs : List V} {ds : List PyData} : H a = some (.tup xs) → DqA H xs ds → Dq H (.ref a) (.tuple ds)
  | dic {a : Addr} {kvs : List (Key × V)} {ps : List (PyData × PyData)} : H a = some (.dK kvs) → ps.map (·.1) = kvs.map (fun p => kD p.1) → DqA H (kvs.map (·.2)) (ps.map (·.2)) → Dq H (.ref a) (.dict ps)
inductive DqA (H : Hp) : List V → List PyData → Prop
  | nil : DqA H [] []
  | cons {v : V} {vs : List V} {d : PyData} {ds : List PyData} : Dq H v d → DqA H vs ds → DqA H (v :: vs) (d :: ds)
end
structure Mono (H H' : Hp) : Prop where
  l : ∀ a xs, H a = some (.lst xs) → H' a = some (.lst xs)
  t : ∀ a xs, H a = some (.tup xs) → H' a = some (.tup xs)
  d : ∀ a xs, H a = some (.dK xs) → H' a = some (.dK xs)
theorem Ex.mono {H H' : Hp} (e : Ex H H') : Mono H H' := ⟨fun a _ h => e a _ h, fun a _ h => e a _ h, fun a _ h => e a _ h⟩
mutual
theorem Dq.mono {H H' : Hp} (k : Mono H H') : ∀ (d : PyData) (v : V), Dq H v d → Dq H' v d
  | .none, _, h => by cases h; exact .non
  | .bool b, _, h => by cases h; exact .bl b
  | .int i, _, h => by cases h; exact .int i
  | .str x, _, h => by cases h; exact .str x
  | .list ds, _, h => by
    cases h with
    | @lst a xs _ h1 h2 => exact .lst (k.l _ _ h1) (DqA.mono k ds xs h2)
  | .tuple ds, _, h => by
    cases h with
    | @tup a xs _ h1 h2 => exact .tup (k.t _ _ h1) (DqA.mono k ds xs h2)
  | .dict ps, _, h => by
    cases h with
    | @dic a kvs _ h1 h2 h3 => exact .dic (k.d _ _ h1) h2 (DqA.mono2 k ps _ h3)
theorem DqA.mono {H H' : Hp} (k : Mono H H') : ∀ (ds : List PyData) (vs : List V), DqA H vs ds → DqA H' vs ds
  | [], _, h => by cases h; exact .nil
  | d :: ds, _, h => by
    cases h with
    | cons h1 h2 => exact .cons (Dq.mono k d _ h1) (DqA.mono k ds _ h2)
theorem DqA.mono2 {H H' : Hp} (k : Mono H H') : ∀ (ps : List (PyData × PyData)) (vs : List V), DqA H vs (ps.map (·.2)) → DqA H' vs (ps.map (·.2))
  | [], _, h => by cases h; exact .nil
  | p :: ps, _, h => by
    cases h with
    | cons h1 h2 => exact .cons (Dq.mono k p.2 _ h1) (DqA.mono2 k ps _ h2)
end
section
variable {X : Cx} {pins : List (Addr × Obj)} {σ : L2.St} {H : Hp} {s : Shared}
theorem not_sm (sb : SmB X.base) (I : Inv X pins σ H s) {a : Addr} {o : HO} (h : H a = some o) : a ≠ sysModules := fun e => by
  obtain ⟨ob, hb⟩ := sb
  have q := (I.bs _ _ hb).2
  rw [← e, h] at q; cases q
theorem keys_read {h : Heap} {P : Program} {w : World} : ∀ {es : List DictEntry} {vs : List (Key × Value)}, Pairs (mixKind P w) es vs → ReadsAll h (es.map (·.key)) (vs.map fun p => kD p.1) ((es.map fun _ => ([] : List Addr)).flatten)
  | _, _, .nil => .nil
  | _, _, .cons (e := e) (kv := kv) (es := es) (kvs := vs) h1 h2 h3 => by
    have ih := keys_read (h := h) h3
    have hk : Reads h e.key (kD kv.1) [] := by
      rcases keyIs_shape h1 with ⟨i, t, e1, e2⟩ | ⟨x, t, e1, e2⟩
      · rw [e1, e2]; exact .int i t
      · rw [e1, e2]; exact .str x t
    exact ReadsAll.cons hk ih
theorem vals_of_pairs {P : Program} {w : World} : ∀ {es : List DictEntry} {vs : List (Key × Value)}, Pairs (mixKind P w) es vs → es.map (·.val) = vs.map (·.2)
  | _, _, .nil => rfl
  | _, _, .cons h1 h2 h3 => by
    simp only [List.map_cons]
    rw [h2, vals_of_pairs h3]
theorem nil_flat {α β : Type} (l : List α) : (l.map fun _ => ([] : List β)).flatten = [] := by induction l with
  | nil => rfl
  | cons a r ih => simpa using ih
theorem kv_keys : ∀ {kvs : List (Key × V)} {vs : List (Key × Value)}, KV kvs vs → kvs.map (fun p => kD p.1) = vs.map (fun p => kD p.1)
  | _, _, .nil => rfl
  | _, _, .cons h1 h2 => by
    simp only [List.map_cons]
    rw [h1.1, kv_keys h2]
theorem kv_vals : ∀ {kvs : List (Key × V)} {vs : List (Key × Value)}, KV kvs vs → Vals (kvs.map (·.2)) (vs.map (·.2))
  | _, _, .nil => .nil
  | _, _, .cons h1 h2 => .cons h1.2 (kv_vals h2)
mutual
theorem Dq.reads (sb : SmB X.base) (I : Inv X pins σ H s) : ∀ (d : PyData) (v : V) (u : Value), Dq H v d → RelV v u → ∃ as, Reads s.heap u d as ∧ sysModules ∉ as
  | .none, _, _, h, r => by cases h; cases r; exact ⟨_, Reads.none, by simp⟩
  | .bool b, _, _, h, r => by cases h; cases r; exact ⟨_, Reads.bool b, by simp⟩
  | .int i, _, _, h, r => by cases h; obtain ⟨t, rfl⟩ := r; exact ⟨_, Reads.int i t, by simp⟩
  | .str x, _, _, h, r => by cases h; obtain ⟨t, rfl⟩ := r; exact ⟨_, Reads.str x t, by simp⟩
  | .list ds, _, _, h, r => by
    cases h with
    | @lst a xs _ h1 h2 =>
      cases r
      obtain ⟨its, rv, ⟨o, n, ho, hc, _, hd⟩, _⟩ := I.list (SqL.of h1)
      obtain ⟨as, hr, hn⟩ := DqA.reads sb I ds _ its h2 rv
      exact ⟨_, Reads.list ho hc hd hr, fun m => by
        rcases List.mem_cons.mp m with e | m
        · exact not_sm sb I h1 e.symm
        · exact hn m⟩
  | .tuple ds, _, _, h, r => by
    cases h with
    | @tup a xs _ h1 h2 =>
      cases r
      obtain ⟨its, rv, ⟨o, ho, hc, n, hd⟩, _⟩ := I.tuple (SqT.of h1)
      obtain ⟨as, hr, hn⟩ := DqA.reads sb I ds _ its h2 rv
      exact ⟨_, Reads.tuple ho hc hd hr, hn⟩
  | .dict ps, _, _, h, r => by
    cases h with
    | @dic a kvs _ h1 h2 h3 =>
      cases r
      have hO : ObjOk X.prog X.w H s.heap a (.dK kvs) := I.hok a _ h1
      obtain ⟨_, _, vs, rel, o, es, ep, ho, hx, hd, hk, hp, hnd⟩ := hO
      obtain ⟨bs, hr, hn⟩ := DqA.reads2 sb I ps _ (vs.map (·.2)) h3 (kv_vals rel)
      have e1 := keys_read (h := s.heap) hp
      rw [nil_flat, ← kv_keys rel, ← h2] at e1
      rw [← vals_of_pairs hp] at hr
      exact ⟨_, Reads.dict ho hx.1 hd e1 hr, fun m => by
        rcases List.mem_append.mp m with m | m
        · rcases List.mem_cons.mp m with e | m
          · exact not_sm sb I h1 e.symm
          · cases m
        · exact hn m⟩
theorem DqA.reads (sb : SmB X.base) (I : Inv X pins σ H s) : ∀ (ds : List PyData) (vs : List V) (us : List Value), DqA H vs ds → Vals vs us → ∃ as, ReadsAll s.heap us ds as ∧ sysModules ∉ as
  | [], _, _, h, r => by cases h; cases r; exact ⟨_, ReadsAll.nil, by simp⟩
  | d :: ds, _, _, h, r => by
    cases h with
    | cons h1 h2 =>
      cases r with
      | cons r1 r2 =>
        obtain ⟨as, q1, n1⟩ := Dq.reads sb I d _ _ h1 r1
        obtain ⟨bs, q2, n2⟩ := DqA.reads sb I ds _ _ h2 r2
        exact ⟨_, ReadsAll.cons q1 q2, fun m => (List.mem_append.mp m).elim n1 n2⟩
theorem DqA.reads2 (sb : SmB X.base) (I : Inv X pins σ H s) : ∀ (ps : List (PyData × PyData)) (vs : List V) (us : List Value), DqA H vs (ps.map (·.2)) → Vals vs us → ∃ as, ReadsAll s.heap us (ps.map (·.2)) as ∧ sysModules ∉ as
  | [], _, _, h, r => by cases h; cases r; exact ⟨_, ReadsAll.nil, by simp⟩
  | p :: ps, _, _, h, r => by
    cases h with
    | cons h1 h2 =>
      cases r with
      | cons r1 r2 =>
        obtain ⟨as, q1, n1⟩ := Dq.reads sb I p.2 _ _ h1 r1
        obtain ⟨bs, q2, n2⟩ := DqA.reads2 sb I ps _ _ h2 r2
        exact ⟨_, ReadsAll.cons q1 q2, fun m => (List.mem_append.mp m).elim n1 n2⟩
end
/-- data that repr shows -/
structure Da (H : Hp) (v : V) (d : PyData) : Prop where
  q : Dq H v d
  s : d.showable = true
  l : d.leavesShort 100 = true
  z : d.depth ≤ 30
  w : d.weight ≤ 100000
/-- .. with its bounds -/
structure Dz (H : Hp) (v : V) (d : PyData) (Z W : Nat) : Prop where
  q : Dq H v d
  s : d.showable = true
  l : d.leavesShort 100 = true
  z : d.depth ≤ Z
  w : d.weight ≤ W
structure DzA (H : Hp) (vs : List V) (ds : List PyData) (Z W : Nat) : Prop where
  q : DqA H vs ds
  s : PyData.showableAll ds = true
  l : PyData.leavesShortAll 100 ds = true
  z : PyData.depthAll ds ≤ Z
  w : PyData.weightAll ds ≤ W
theorem Dz.da {H : Hp} {v : V} {d : PyData} {Z W : Nat} (h : Dz H v d Z W) (hZ : Z ≤ 30) (hW : W ≤ 100000) : Da H v d := ⟨h.q, h.s, h.l, Nat.le_trans h.z hZ, Nat.le_trans h.w hW⟩
theorem Dz.ex {H H' : Hp} {v : V} {d : PyData} {Z W : Nat} (e : Ex H H') (h : Dz H v d Z W) : Dz H' v d Z W := ⟨Dq.mono e.mono d v h.q, h.s, h.l, h.z, h.w⟩
theorem Dz.le {H : Hp} {v : V} {d : PyData} {Z W Z' W' : Nat} (h : Dz H v d Z W) (hZ : Z ≤ Z') (hW : W ≤ W') : Dz H v d Z' W' := ⟨h.q, h.s, h.l, Nat.le_trans h.z hZ, Nat.le_trans h.w hW⟩
theorem DzA.nil {H : Hp} : DzA H [] [] 0 0 := ⟨.nil, rfl, rfl, Nat.le_refl _, Nat.le_refl _⟩
theorem DzA.cons {H : Hp} {v : V} {d : PyData} {vs : List V} {ds : List PyData} {Z W Z' W' : Nat} (h : Dz H v d Z W) (r : DzA H vs ds Z' W') : DzA H (v :: vs) (d :: ds) (max Z Z') (W + 1 + W') :=
  ⟨.cons h.q r.q, by simp only [PyData.showableAll, h.s, r.s]; rfl, by simp only [PyData.leavesShortAll, h.l, r.l]; rfl, by
    have h1 := h.z
    have h2 := r.z
    simp only [PyData.depthAll]; omega, by
    have h1 := h.w
    have h2 := r.w
    simp only [PyData.weightAll]; omega⟩
theorem Dz.lst {H : Hp} {a : Addr} {xs : List V} {ds : List PyData} {Z W : Nat} (g : H a = some (.lst xs)) (h : DzA H xs ds Z W) : Dz H (.ref a) (.list ds) (Z + 1) W :=
  ⟨.lst g h.q, by simp only [PyData.showable]; exact h.s, by simp only [PyData.leavesShort]; exact h.l, by have := h.z; simp only [PyData.depth]; omega, by have := h.w; simp only [PyData.weight]; omega⟩
theorem Dz.tup {H : Hp} {a : Addr} {xs : List V} {ds : List PyData} {Z W : Nat} (g : H a = some (.tup xs)) (h : DzA H xs ds Z W) : Dz H (.ref a) (.tuple ds) (Z + 1) W :=
  ⟨.tup g h.q, by simp only [PyData.showable]; exact h.s, by simp only [PyData.leavesShort]; exact h.l, by have := h.z; simp only [PyData.depth]; omega, by have := h.w; simp only [PyData.weight]; omega⟩
theorem Dz.dic0 {H : Hp} {a : Addr} (g : H a = some (.dK [])) : Dz H (.ref a) (.dict []) 1 0 := ⟨.dic (ps := []) g rfl .nil, rfl, rfl, by decide, by decide⟩
theorem Dz.dic1 {H : Hp} {a : Addr} {x : Str} {v : V} {d : PyData} {Z W : Nat} (g : H a = some (.dK [(.inr x, v)])) (hx : (PyData.str x).leavesShort 100 = true) (h : Dz H v d Z W) : Dz H (.ref a) (.dict [(.str x, d)]) (Z + 1) (x.length + W + 2) :=
  ⟨.dic (ps := [(.str x, d)]) g rfl (.cons h.q .nil), by simp only [PyData.showable, PyData.showableKv, h.s]; rfl, by simp only [PyData.leavesShort, PyData.leavesShortKv, h.l] at hx ⊢; rw [hx]; rfl, by
    have := h.z
    simp only [PyData.depth, PyData.depthKv]; omega, by
    have := h.w
    have e : x.length = x.cps.size := rfl
    simp only [PyData.weight, PyData.weightKv]; omega⟩
theorem Dz.non {H : Hp} : Dz H .non .none 0 0 := ⟨.non, rfl, rfl, by decide, by decide⟩
theorem Dz.bl {H : Hp} {b : Bool} : Dz H (.bl b) (.bool b) 0 0 := ⟨.bl b, rfl, rfl, by simp [PyData.depth], by simp [PyData.weight]⟩
theorem Dz.int {H : Hp} {i : Int} (h : i.natAbs < 10 ^ 60) : Dz H (.int i) (.int i) 0 300 := by
  have h2 : i.natAbs.log2 < 200 := by
    by_cases h0 : i.natAbs = 0
    · rw [h0]; decide
    · exact (Nat.log2_lt h0).mpr (Nat.lt_trans h (by decide))
  refine ⟨.int i, ?_, ?_, by simp [PyData.depth], ?_⟩
  · simp only [PyData.showable, decide_eq_true_eq]; omega
  · have e := int_text_length_le10 (k := 60) (by decide) h
    simp only [PyData.leavesShort, decide_eq_true_eq]
    show (Str.ofString (toString i)).length ≤ 100
    rw [PySem.ofString_length]; omega
  · simp only [PyData.weight]
    split <;> omega
theorem Dz.str {H : Hp} {s : String} : Dz H (.str (Str.ofString s)) (.str (Str.ofString s)) 0 (Str.ofString s).length := by
  refine ⟨.str _, rfl, ?_, by simp [PyData.depth], Nat.le_refl _⟩
  simp only [PyData.leavesShort, List.all_eq_true, decide_eq_true_eq]
  intro c hc
  rw [PyProof.Rows.signs_ofString] at hc
  obtain ⟨ch, _, rfl⟩ := List.mem_map.mp hc
  have := ch.valid
  have h2 : ch.toNat < 0x110000 := by
    rcases this with h | h
    · exact Nat.lt_trans h (by decide)
    · exact h.2
  exact Nat.lt_trans h2 (by decide)
def rReprQ : List V → Hp → VK → Prop := fun xs H Q => ∃ (v : V) (d : PyData), xs = [v] ∧ Da H v d ∧ Q (.str d.shown) H
theorem call_reprQ (sb : SmB X.base) (gd : X.A.guards = some []) {j : Nat} (rm : Room j X.A) : CallR X (.builtin "repr") rReprQ := by
  intro pins s σ H xs us Q I r h
  obtain ⟨v, d, rfl, hd, q⟩ := h
  cases r with
  | cons rv rn =>
    rename_i u us
    cases rn
    have hu := rm.units
    have hz := hd.z
    obtain ⟨as, rd, nm⟩ := Dq.reads sb I d v u hd.q rv
    have hl : d.shown.length ≤ sizeLine := by
      have h1 := PyData.shown_le 100 (by decide) d hd.l
      have h2 : (100 + 2) * d.weight ≤ 102 * 100000 := Nat.mul_le_mul (Nat.le_refl _) hd.w
      rw [sizeLine_eq]
      omega
    have fin : ∀ (h' : Heap) (u' tk : Tok), (∀ b o, s.heap.get? b = some o → h'.get? b = some o) → EP X pins σ Q (.str d.shown u') { s with heap := h', toks := tk } :=
      fun h' u' tk kk => ⟨.str d.shown, H, I.kept (t' := tk) kk, ⟨u', rfl⟩, q⟩
    have hs := hd.s
    have h1 := hd.q
    cases h1 with
    | non => cases rv; exact P.repr_of_none (fin s.heap _ _ fun _ _ z => z)
    | bl b => cases rv; exact P.repr_of_bool (fin s.heap _ _ fun _ _ z => z)
    | int i => obtain ⟨t, rfl⟩ := rv; exact P.repr_of_int (by simpa [PyData.showable] using hs) (fin s.heap _ _ fun _ _ z => z)
    | str y => obtain ⟨t, rfl⟩ := rv; exact P.repr_of_str (fin s.heap _ _ fun _ _ z => z) hl
    | lst h1 h2 => cases rv; exact repr_of_reads' rd hs (fun _ => nm) gd (by omega) (fun _ _ z => z) fin hl
    | tup h1 h2 => cases rv; exact repr_of_reads' rd hs (fun _ => nm) gd (by omega) (fun _ _ z => z) fin hl
    | dic h1 h2 h3 => cases rv; exact repr_of_reads' rd hs (fun _ => nm) gd (by omega) (fun _ _ z => z) fin hl
end
end GL
namespace GL
open PySem PySem.Spec PyProof.Rows L2
open L2H (RoomH roomH_of)
/-! raise of an exception that was made -/
section
variable {X : Cx} {e : Expr} {te : TE} {W : WX} {pos : Pos}
theorem pmk_val (hx : X.ex = []) (he : PE X e te) : PMk X e (fun σ H Q => te σ H fun x H1 => ∃ (a C : Addr) (d : Option Addr), x = .ref a ∧ H1 a = some (exo a C d) ∧ X.H_0 a = none ∧ Raises X (.ref C) ∧ Q (.ref C) d (delH H1 a)) := by
  intro pins s σ H Q I h
  refine wpAny_mono (he.run pins s σ H _ I h) (fun u s1 hu => ?_) fun _ _ z => z
  obtain ⟨v, H1, I1, r1, a, C, d, rfl, ha, h0, hr, q⟩ := hu
  cases r1
  obtain ⟨t1, ho⟩ := exo_at I1.hok ha
  obtain ⟨G, gs, ga, J⟩ := I1.untrack (a := a) ha (fr0_none h0) hx
  exact ⟨a, _, _, { s1 with heap := G }, delH H1 a, .ref C, d, rfl, J, gs, ga, ho, ⟨rfl, rfl⟩, rfl, rfl, delH_same, rfl, I1.bare, hr, q⟩
def tRaiseV (X : Cx) (W : WX) (te : TE) : TS := fun _ σ H => te σ H fun x H1 => ∃ (a C : Addr) (d : Option Addr), x = .ref a ∧ H1 a = some (exo a C d) ∧ X.H_0 a = none ∧ Raises X (.ref C) ∧ W (.ref C) d σ (delH H1 a)
theorem ps_raiseV (hc : X.calm = true) (hx : X.ex = []) (tk : Takes X W) (he : PE X e te) : PS X (.Raise (some e) none pos) (tRaiseV X W te) := ps_raise hc tk (pmk_val hx he)
end
/-! what __init__ does -/
/-- a fresh exception, its fields stored -/
def Eo (H : Hp) (a C : Addr) (fs : List (Str × V)) : Prop := ∃ dd, dd ≠ a ∧ H a = some (exo a C (some dd)) ∧ H dd = some (exd dd fs)
theorem Eo.ef {H : Hp} {a C : Addr} {fs : List (Str × V)} (h : Eo H a C fs) : Ef H a C fs := by obtain ⟨dd, _, h1, h2⟩ := h; exact ⟨some dd, Ed.of h1 h2⟩
theorem Eo.ex {H H' : Hp} {a C : Addr} {fs : List (Str × V)} (e : Ex H H') (h : Eo H a C fs) : Eo H' a C fs := by obtain ⟨dd, h0, h1, h2⟩ := h; exact ⟨dd, h0, e _ _ h1, e _ _ h2⟩
def spI1 (C : Addr) (f : Str) : Sp := fun vs H Q _ => ∃ a x, vs = [.ref a, x] ∧ H a = some (exo a C none) ∧ ∀ dx, H dx = none → dx ≠ a → Q .non (upd (upd H dx (exd dx [(f, x)])) a (exo a C (some dx)))
def spI2 (C : Addr) (f g : Str) : Sp := fun vs H Q _ => ∃ a x y, vs = [.ref a, x, y] ∧ H a = some (exo a C none) ∧ ∀ dx, H dx = none → dx ≠ a → Q .non (upd (upd (upd H dx (exd dx [(f, x)])) a (exo a C (some dx))) dx (exd dx [(g, y), (f, x)]))
def spC1 (C : Addr) (f : Str) : Sp := fun vs H Q _ => ∃ x, vs = [x] ∧ ∀ a H', H a = none → Ex H H' → Eo H' a C [(f, x)] → Q (.ref a) H'
def spC2 (C : Addr) (f g : Str) : Sp := fun vs H Q _ => ∃ x y, vs = [x, y] ∧ ∀ a H', H a = none → Ex H H' → Eo H' a C [(g, y), (f, x)] → Q (.ref a) H'
theorem inits1 {C : Addr} {f : Str} : Inits C (spI1 C f) (spC1 C f) := by
  rintro vs H Q a ha ⟨x, rfl, q⟩
  refine ⟨by show 1 ≤ 1000; omega, a, x, rfl, upd_same, fun dx hd hne => ⟨rfl, q a _ ha (fun b o hb => ?_) ⟨dx, hne, upd_same, ?_⟩⟩⟩
  · have n1 : b ≠ a := fun e => by rw [e, ha] at hb; cases hb
    have n2 : b ≠ dx := fun e => by rw [e] at hb; rw [upd_ne hne, hb] at hd; cases hd
    rw [upd_ne n1, upd_ne n2, upd_ne n1]; exact hb
  · rw [upd_ne hne, upd_same]
theorem inits2 {C : Addr} {f g : Str} : Inits C (spI2 C f g) (spC2 C f g) := by
  rintro vs H Q a ha ⟨x, y, rfl, q⟩
  refine ⟨by show 2 ≤ 1000; omega, a, x, y, rfl, upd_same, fun dx hd hne => ⟨rfl, q a _ ha (fun b o hb => ?_) ⟨dx, hne, ?_, upd_same⟩⟩⟩
  · have n1 : b ≠ a := fun e => by rw [e, ha] at hb; cases hb
    have n2 : b ≠ dx := fun e => by rw [e] at hb; rw [upd_ne hne, hb] at hd; cases hd
    rw [upd_ne n2, upd_ne n1, upd_ne n2, upd_ne n1]; exact hb
  · rw [upd_ne hne.symm, upd_same]
/-! defs that raise nothing, called anywhere -/
structure FnQ (pg : Program) (w : World) (K : PySem.W.Frag) (mg : Str → Option Value) (bs : Heap) (cx : CXT) (k : Nat) (f : Addr) (fd : FuncData) (ps : List Str) (sp : Sp) : Prop where
  len : ∀ vs H Q E, sp vs H Q E → vs.length = ps.length
  run : ∀ (A : Around) (out : List Env) (s : Shared) (H : Hp) (ar : Args) (us : List Value) (vs : List V) (Q : VK) (E : XK),
    RoomH k A → Env0 pg w K mg bs A out s H → BindsTo s fd ar (ps.zip us) → Vals vs us → sp vs H Q E → codeAny (model pg w) A (.call (.ref f) ar) (CR cx out pg w H s Q E) s
section
variable {pg : Program} {w : World} {K : PySem.W.Frag} {mg : Str → Option Value} {bs : Heap}
theorem FnQ.cold {cx : CXT} {k : Nat} {f : Addr} {fd : FuncData} {ps : List Str} {sp : Sp} (F : FnQ pg w K mg bs cx k f fd ps sp) : FnG pg w K mg bs cx k f fd ps sp :=
  ⟨F.len, fun A out s H ar us vs Q E _ rm => F.run A out s H ar us vs Q E (roomH_of rm)⟩
def cxQ (cx : CXT) (pg : Program) (w : World) (K : PySem.W.Frag) (mg : Str → Option Value) (bs : Heap) (N : List Str) (q : Str) (sc : Scope) (f : Addr) (cd : Value) (A : Around) (out : List Env) (s : Shared) (H : Hp) (E : XK) : Cx :=
  { cxOf cx pg w K mg bs N q sc f cd A out s H E with calm := false }
theorem inv_startQ {cx : CXT} {N ps : List Str} {qual : Str} {sc : Scope} {f : Addr} {cd : Value} {A : Around} {out : List Env} {s s1 : Shared} {H : Hp} {E : XK} {us : List Value} {vs : List V}
    (S : FnScope N ps sc) (ev : Env0 pg w K mg bs A out s H) (hl : vs.length = ps.length) (r : Vals vs us)
    (x : InCallC s s.heap.objs.size (bindL (envOfC qual sc s.heap.objs.size f cd).kindOf (ps.zip us) fun _ => none) (cellsFrom (s.heap.objs.size + 1) sc.names []) (bindC (envOfC qual sc s.heap.objs.size f cd).kindOf (ps.zip us) fun _ => none) s1) :
    Inv (cxQ cx pg w K mg bs N qual sc f cd A out s H E) [] (start N vs) H s1 := by
  have J := inv_start (CX := cx) (E := E) (A := { A with handled := none }) S rfl ⟨ev.frames, ev.mod, ev.bs, ev.bsz, ev.funs, ev.frf, ev.hok, ev.bare⟩ hl r x
  have ok := J.ok
  exact ⟨⟨ok.mod, ok.kind, ok.glob, ok.blt, ok.above, ok.inj, ok.has, ok.cab, (fun z => absurd (show false = true from z) Bool.false_ne_true), Around.frames_deeper ev.frames, ok.stk, ok.exf, ok.bs, ok.bsz, ok.noex, ok.exfs, ok.funs, ok.frf⟩,
    J.os, J.bare, J.base, J.loc, J.cell, J.free, J.freeC, J.pin, J.hok, J.len⟩
theorem Fun.okQ {cx : CXT} {x q : Str} {st : Stmt} {f : Addr} {fd : FuncData} {N ps : List Str} {k : Nat} {sp : Sp} (F : Fun K x q st f fd)
    (S : FnScope N ps (defScope st)) (len : ∀ vs H Q E, sp vs H Q E → vs.length = ps.length)
    (hb : ∀ (cd : Value) (A : Around) (out : List Env) (s : Shared) (H : Hp) (vs : List V) (Q : VK) (E : XK), RoomH k (A.deeper (envOfC q (defScope st) s.heap.objs.size f cd)) → sp vs H Q E →
      ∃ t, PSs (cxQ cx pg w K mg bs N q (defScope st) f cd A out s H E) (defBody st) t ∧ t { nx := fun _ H' => Q .non H', rt := Q } (start N vs) H) :
    FnQ pg w K mg bs cx (k + 1) f fd ps sp := by
  obtain ⟨oc, od, kV, doc, pm, an, cd, ct, osl, rfl, lk, hcd⟩ := F.ex
  refine ⟨len, fun A out s H ar us vs Q E rm ev hbi rv hsp => ?_⟩
  have hle := len _ _ _ _ hsp
  have keepB : ∀ b o, bs.get? b = some o → s.heap.get? b = some o := fun b o z => (ev.bs b o z).1
  have KX : K.In s.heap := ev.mod.kin.keeps keepB
  have lim : s.heap.NoLimit := ev.mod.nolimit.keeps keepB
  have kinds : ∀ y ∈ ps.zip us, (defScope st).names.lookup y.1 = some .local ∨
      ((defScope st).names.lookup y.1 = some .cell ∧ ((cellsFrom (s.heap.objs.size + 1) (defScope st).names []).lookup y.1).isSome = true) := by
    rintro ⟨n, v⟩ hy
    rcases S.par n (List.of_mem_zip hy).1 with z | z
    · exact .inl z
    · exact .inr ⟨z, PySem.W.cellsFrom_some _ _ _ (.inl z)⟩
  have room := rm.depth
  refine codeAny_call_function room (KX _ _ lk) rfl S.co S.gen rfl (PySem.W.codeRec_of KX hcd) (hbi _ _ _ _ ?_)
  refine wpAny_newFunctionEnv_cells S.kind kinds fun env he s1 ic => ?_
  subst he
  refine ⟨lim.keeps ic.toInCall.keep, codeAny_func ?_⟩
  obtain ⟨t, ht, hq⟩ := hb cd A out s H vs Q E (rm.deeper _) hsp
  have J := inv_startQ (cx := cx) (E := E) S ev hle rv ic
  have done : ∀ {τ : L2.St} {G : Hp} {v : V} {u : Value} {s' : Shared}, Inv (cxQ cx pg w K mg bs N q (defScope st) f cd A out s H E) [] τ G s' → RelV v u → Q v G → CE out pg w H s Q u s' :=
    fun {τ G v u s'} J r z => ⟨v, G, J.os, J.bare, J.base, J.hok, r, z⟩
  refine wpAny_mono (ht.run [] s1 (start N vs) H _ J hq) (fun fl s' hs => ?_) fun e s' hs => hs
  cases fl with
  | ret u => exact (let ⟨_, _, _, J', rv', z⟩ := hs; done J' rv' z)
  | next => exact (let ⟨_, _, J', z⟩ := hs; done (v := V.non) (u := Value.none) J' rfl z)
  | brk => exact (let ⟨_, _, _, z⟩ := hs; False.elim z)
  | cont => exact (let ⟨_, _, _, z⟩ := hs; False.elim z)
end
section
variable {X : Cx} {cx : CXT} {k : Nat} {f : Addr} {fd : FuncData} {ps : List Str} {sp : Sp} {dvs : List V} {ds : List Value} {E : XK} {x : Str} {p pos : Pos} {e : Expr} {es : List Expr} {t : TA}
theorem pg_callQ (Fi : FnQ X.prog X.w X.K X.mg X.base cx k f fd ps sp) (rm : RoomH k X.A) (hg : Gl X x)
    (hm : X.mg x = some (.ref f)) (kp : PySem.W.keepIn X.K (.ref f) = true) (hb : Binds X.K fd ps ds) (hd : Vals dvs ds) (hx : Passes cx X E) (ha : PA X (e :: es) t)
    (hdb : (x == ("__debug__" : Str)) = false := by decide) (hst : starEach (e :: es) X.env = (false, eval e X.env) :: starEach es X.env := by rfl)
    (hpl : (backTo pos (starEach es X.env)).any (·.1) = false := by rfl) : PE X (.Call (.Name x p) (e :: es) [] pos) (tCall sp dvs E t) := by
  refine ⟨fun pins s σ H Q I h => wpAny_Call_Name_kw (ld_glob I hg hm ?_ hdb)⟩
  refine PySem.W.callWith_K (h₀ := X.base) I.ok.mod.kin kp (thn (ha.run pos pins s σ H _ I h) ?_) hst hpl
  rintro us s1 ⟨vs, H1, I1, r, q⟩
  have r2 := r.append hd
  have hl : (us ++ ds).length = ps.length := r2.length.symm.trans (Fi.len _ _ _ _ q)
  refine ⟨I1.kIn, wpAny_call (codeAny_mono (Fi.run X.A X.stack s1 H1 ⟨us, []⟩ _ _ Q E rm I1.env0 (hb s1 us I1.kIn hl) r2 q) fun res s' hq => ?_)⟩
  cases res with
  | error e => exact hx pins σ H1 s1 e s' I1 hq
  | ok fl =>
    cases fl with
    | ret u => exact I1.after hq
    | next => exact hq.elim
    | brk => exact hq.elim
    | cont => exact hq.elim
end
end GL
/-! enumerate(zip(xs, ys)), unpacked by the loop. -/
namespace GL
open PySem
section
variable {prog : Program} {w : World} {A : Around} {E : Value → Shared → Prop} {s : Shared}
/-- enumerate's turn, whatever it draws from -/
theorem enum_any {e it : Addr} {i : Nat} {old : Value} {P : Value → Heap → Prop} {Q : Value → Shared → Prop} (he : IsEnum s.heap e it i old)
    (hn : ∀ R : Value → Shared → Prop, (∀ x h1, P x h1 → R x { s with heap := h1 }) → wpAny (model prog w) A (Builtin.SmallTypes.nextOf (.ref it)) R E s)
    (hp : ∀ x h1, P x h1 → IsEnum h1 e it i old)
    (hQ : ∀ x h1 h', P x h1 → IsEnumOut h' e it ((i : Int) + 1) x h1.objs.size → h'.get? h1.objs.size = some { cls := .type "tuple", data := .seq #[.int i s.toks, x] } → h'.objs.size = h1.objs.size + 1 →
      (∀ b o, b ≠ e → h1.get? b = some o → h'.get? b = some o) → Q (.ref h1.objs.size) { s with heap := h', toks := s.toks + 1 }) :
    wpAny (model prog w) A (Builtin.«enumerate.__next__» ⟨[.ref e], []⟩) (fun fin s' => ∃ v, fin = .done (.ret v) ∧ Q v s') E s := by
  obtain ⟨hp0, gs, dr, t0, os⟩ := s
  show wpAny _ _ (field (.ref e) 2 >>= _) _ _ _
  refine wpAny_bind (wpAny_field he rfl (x := .ref it) rfl (wpAny_bind (hn _ fun x h1 px => ?_)))
  have e1 : IsEnum h1 e it i old := hp x h1 px
  show wpAny _ _ (field (.ref e) 3 >>= _) _ _ ⟨h1, gs, dr, t0, os⟩
  refine wpAny_bind (wpAny_field e1 rfl (x := rawInt i) rfl ?_)
  show wpAny _ _ (field (.ref e) 4 >>= _) _ _ ⟨h1, gs, dr, t0, os⟩
  refine wpAny_bind (wpAny_field e1 rfl (x := .none) rfl ?_)
  show wpAny _ _ (mkInt i >>= _) _ _ ⟨h1, gs, dr, t0, os⟩
  refine wpAny_bind (wpAny_mkInt ?_)
  show wpAny _ _ (setField (.ref e) 3 (rawInt ((i : Int) + 1)) >>= _) _ _ ⟨h1, gs, dr, t0 + 1, os⟩
  refine wpAny_bind (wpAny_setField_rec e1 (by simp) fun h2 e2 k2 => ?_)
  replace k2 : Heap.SameBut e h1 h2 := k2
  replace e2 : IsEnum h2 e it ((i : Int) + 1) old := e2
  show wpAny _ _ (setField (.ref e) 4 .none >>= _) _ _ ⟨h2, gs, dr, t0 + 1, os⟩
  refine wpAny_bind (wpAny_setField_rec e2 (by simp) fun h3 e3 k3 => ?_)
  replace k3 : Heap.SameBut e h2 h3 := k3
  replace e3 : IsEnum h3 e it ((i : Int) + 1) old := e3
  show wpAny _ _ (newTuple [.int i t0, x] >>= _) _ _ ⟨h3, gs, dr, t0 + 1, os⟩
  refine wpAny_bind (wpAny_newTuple ?_)
  have z3 : h3.objs.size = h1.objs.size := by rw [k3.1, k2.1]
  have le : e < h1.objs.size := Heap.lt_size e1
  have e4 : IsEnum (h3.push { cls := .type "tuple", data := .seq #[.int i t0, x] }) e it ((i : Int) + 1) old := Heap.get?_push_of_some _ e3
  have t4 : (h3.push { cls := .type "tuple", data := .seq #[.int i t0, x] }).get? h1.objs.size = some { cls := .type "tuple", data := .seq #[.int i t0, x] } := by rw [← z3]; exact Heap.get?_push_size _ rfl
  have z4 : (h3.push { cls := .type "tuple", data := .seq #[.int i t0, x] }).objs.size = h1.objs.size + 1 := by rw [Heap.size_push, z3]
  have k4 : ∀ b o, b ≠ e → h1.get? b = some o → (h3.push { cls := .type "tuple", data := .seq #[.int i t0, x] }).get? b = some o := fun b o n q => Heap.get?_push_of_some _ (k3.extBut b o n (k2.extBut b o n q))
  show wpAny _ _ (Builtin.SmallTypes.ownedTupleIsFree (.ref e) >>= _) _ _ ⟨_, gs, dr, t0 + 1, os⟩
  rw [z3]
  generalize h3.push { cls := .type "tuple", data := .seq #[.int i t0, x] } = h4 at e4 t4 z4 k4
  refine wpAny_bind ?_
  unfold Builtin.SmallTypes.ownedTupleIsFree
  refine wpAny_bind (wpAny_field e4 rfl (x := .none) rfl (wpAny_pure ?_))
  simp only [if_true]
  refine wpAny_bind (wpAny_rule (wpAny_bind (wpAny_field e4 rfl (x := old) rfl ?_)))
  refine wpAny_bind (wpAny_setField_rec e4 (by simp) fun h5 e5 k5 => ?_)
  replace k5 : Heap.SameBut e h4 h5 := k5
  replace e5 : IsEnum h5 e it ((i : Int) + 1) x := e5
  show wpAny _ _ (Builtin.SmallTypes.ownedTupleHandOut (.ref e) (.ref h1.objs.size) >>= _) _ _ ⟨h5, gs, dr, t0 + 1, os⟩
  refine wpAny_bind ?_
  unfold Builtin.SmallTypes.ownedTupleHandOut
  refine wpAny_bind (wpAny_setField_rec e5 (by simp) fun h6 e6 k6 => ?_)
  replace k6 : Heap.SameBut e h5 h6 := k6
  replace e6 : IsEnumOut h6 e it ((i : Int) + 1) x h1.objs.size := e6
  refine wpAny_setField_rec e6 (by simp) fun h7 e7 k7 => ?_
  replace k7 : Heap.SameBut e h6 h7 := k7
  replace e7 : IsEnumOut h7 e it ((i : Int) + 1) x h1.objs.size := e7
  have up : ∀ b o, b ≠ e → h4.get? b = some o → h7.get? b = some o := fun b o n q => k7.extBut b o n (k6.extBut b o n (k5.extBut b o n q))
  refine wpAny_bind (wpAny_letGo (wpAny_pure ⟨_, rfl, hQ x h1 h7 px e7 (up _ _ (Nat.ne_of_gt le) t4) ?_ fun b o n q => up b o n (k4 b o n q)⟩))
  rw [k7.1, k6.1, k5.1, z4]
end
end GL
namespace GL
open PySem PySem.Spec PySem.W
section
variable {prog : Program} {w : World} {A : Around} {E : Value → Shared → Prop} {s : Shared} {z TI TO i1 i2 l1 l2 : Addr} {k1 k2 : Nat} {xs ys : Array Value} {x y a b : Value}
def ZAt (h : Heap) (z TI TO : Addr) : Prop := IsZip h z TI TO .none ∨ ∃ T f oT, IsZipHeld h z TI TO T f ∧ h.get? T = some oT
theorem nextOf_zip {Q : Value → Shared → Prop} (D : ZipApart z TI TO i1 i2 l1 l2) (hz : ZAt s.heap z TI TO) (gI : IsPair s.heap TI (.ref i1) (.ref i2)) (gO : IsPair s.heap TO a b)
    (g1 : s.heap.IsListIter i1 l1 k1) (g2 : s.heap.IsListIter i2 l2 k2) (gx : s.heap.IsList l1 xs) (gy : s.heap.IsList l2 ys) (hx : xs[k1]? = some x) (hy : ys[k2]? = some y)
    (q : ∀ h' T f, IsZipHeld h' z TI TO T f → (T = s.heap.objs.size ∨ ∃ f0, IsZipHeld s.heap z TI TO T f0) → (∃ a b, IsPair h' TO a b) → h'.IsListIter i1 l1 (k1 + 1) → h'.IsListIter i2 l2 (k2 + 1) → IsPair h' s.heap.objs.size x y →
      h'.objs.size = s.heap.objs.size + 1 → (∀ c o, c ≠ z → c ≠ TO → c ≠ i1 → c ≠ i2 → s.heap.get? c = some o → h'.get? c = some o) → Q (.ref s.heap.objs.size) { s with heap := h' }) :
    wpAny (model prog w) A (Builtin.SmallTypes.nextOf (.ref z)) Q E s := by
  rcases hz with hz | ⟨T, f, oT, hz, hT⟩
  · have ty : s.TypeIs (.ref z) "zip" := ⟨_, hz, rfl⟩
    unfold Builtin.SmallTypes.nextOf
    refine wpAny_bind (wpAny_callSpecial?_slot (name := Str.ofString "__next__") ty F.slot_zip_next (wpAny_call_entry F.slot_zip_next ty F.entry_zip_next ?_ (F.args_zip_next_1 _)))
    exact zip_next_item D hz gI gO g1 g2 gx gy hx hy fun h' b1 b2 b3 b4 b5 b6 b7 => wpAny_pure (q h' _ false b1 (.inl rfl) ⟨_, _, b2⟩ b3 b4 b5 b6 b7)
  · have ty : s.TypeIs (.ref z) "zip" := ⟨_, hz, rfl⟩
    unfold Builtin.SmallTypes.nextOf
    refine wpAny_bind (wpAny_callSpecial?_slot (name := Str.ofString "__next__") ty F.slot_zip_next (wpAny_call_entry F.slot_zip_next ty F.entry_zip_next ?_ (F.args_zip_next_1 _)))
    exact zip_next_item_held D hz hT gI g1 g2 gx gy hx hy fun h' b1 b3 b4 b5 b6 b7 => wpAny_pure (q h' T true b1 (.inr ⟨f, hz⟩) ⟨_, _, b7 _ _ D.TOz D.TOi1 D.TOi2 gO⟩ b3 b4 b5 b6 fun c o c1 c2 c3 c4 => b7 c o c1 c3 c4)
theorem zip_end_at {Q : Fin → Shared → Prop} {T : Addr} {f : Bool} {oT : Obj} (hh : A.handled = none) (D : ZipApart z TI TO i1 i2 l1 l2) (gz : IsZipHeld s.heap z TI TO T f) (gT : s.heap.get? T = some oT) (gI : IsPair s.heap TI (.ref i1) (.ref i2))
    (g1 : s.heap.IsListIter i1 l1 k1) (g2 : s.heap.IsListIter i2 l2 k2) (gx : s.heap.IsList l1 xs) (gy : s.heap.IsList l2 ys) (ge : xs[k1]? = none ∨ ys[k2]? = none)
    (q : ∀ h' c, IsZipHeld h' z TI TO T true → (∀ c o, c ≠ z → c ≠ i1 → c ≠ i2 → s.heap.get? c = some o → h'.get? c = some o) → (∃ o, h'.get? c = some o ∧ o.cls = .type "StopIteration") → E (.ref c) { s with heap := h' }) :
    wpAny (model prog w) A (Builtin.«zip.__next__» ⟨[.ref z], []⟩) Q E s := by
  show wpAny _ _ (field (.ref z) 2 >>= _) _ _ _
  refine wpAny_bind (wpAny_field gz rfl (x := .bool false) rfl ?_)
  show wpAny _ _ (field (.ref z) 3 >>= _) _ _ _
  refine wpAny_bind (wpAny_field gz rfl (x := .ref TI) rfl (wpAny_bind (wpAny_seqItems gI rfl ?_)))
  show wpAny _ _ (Builtin.SmallTypes.ownedTupleIsFree (.ref z) >>= _) _ _ _
  refine wpAny_bind (wpAny_tupleHeld_zip gz gT fun m1 zm1 km1 => ?_)
  simp only [Bool.false_eq_true, if_false]
  refine wpAny_bind ?_
  rw [← Array.forIn_toList]
  simp only [List.forIn_cons, List.forIn_nil]
  refine wpAny_bind (wpAny_bind (wpAny_holding ?_))
  show wpAny _ _ (Builtin.SmallTypes.nextOf (.ref i1) >>= _) _ _ _
  cases hx : xs[k1]? with
  | none => exact wpAny_bind (wpAny_nextOf_list_end (s := { s with heap := m1 }) hh (g1.extBut km1.extBut D.i1z) (gx.extBut km1.extBut D.l1z) hx fun m2 c km2 hc =>
      q m2 c (km2 _ _ D.i1z.symm zm1) (fun d o d1 d2 _ r => km2 _ _ d2 (km1.extBut _ _ d1 r)) hc)
  | some x =>
    have hy : ys[k2]? = none := by
      rcases ge with g | g
      · rw [hx] at g; cases g
      · exact g
    refine wpAny_bind (wpAny_nextOf_list_item (s := { s with heap := m1 }) (g1.extBut km1.extBut D.i1z) (gx.extBut km1.extBut D.l1z) hx fun m2 it2 km2 => wpAny_pure (wpAny_pure ?_))
    refine wpAny_bind (wpAny_bind (wpAny_holding ?_))
    show wpAny _ _ (Builtin.SmallTypes.nextOf (.ref i2) >>= _) _ _ _
    exact wpAny_bind (wpAny_nextOf_list_end (s := { s with heap := m2 }) hh ((g2.extBut km1.extBut D.i2z).extBut km2.extBut D.i12.symm) ((gy.extBut km1.extBut D.l2z).extBut km2.extBut D.l2i1) hy fun m3 c km3 hc =>
      q m3 c (km3 _ _ D.i2z.symm (km2.extBut _ _ D.i1z.symm zm1)) (fun d o d1 d2 d3 r => km3 _ _ d3 (km2.extBut _ _ d2 (km1.extBut _ _ d1 r))) hc)
/-- enumerate's end over a zip -/
theorem pyNext_ez_end {e : Addr} {i : Int} {old : Value} {T : Addr} {f : Bool} {oT : Obj} {Q : Option Value → Shared → Prop} (hh : A.handled = none) (he : IsEnum s.heap e z i old) (D : ZipApart z TI TO i1 i2 l1 l2) (gz : IsZipHeld s.heap z TI TO T f) (gT : s.heap.get? T = some oT) (gI : IsPair s.heap TI (.ref i1) (.ref i2))
    (g1 : s.heap.IsListIter i1 l1 k1) (g2 : s.heap.IsListIter i2 l2 k2) (gx : s.heap.IsList l1 xs) (gy : s.heap.IsList l2 ys) (hn : xs[k1]? = none ∨ ys[k2]? = none)
    (q : ∀ h', IsZipHeld h' z TI TO T true → (∀ c o, c ≠ z → c ≠ i1 → c ≠ i2 → s.heap.get? c = some o → h'.get? c = some o) → Q none { s with heap := h' }) : wpAny (model prog w) A (pyNext (.ref e)) Q E s := by
  have ty : s.TypeIs (.ref e) "enumerate" := ⟨_, he, rfl⟩
  have tz : s.TypeIs (.ref z) "zip" := ⟨_, gz, rfl⟩
  unfold pyNext
  refine wpAny_bind (wpAny_attempt (wpAny_callSpecial?_slot (name := Str.ofString "__next__") ty F.slot_enumerate_next (wpAny_call_entry F.slot_enumerate_next ty F.entry_enumerate_next ?_ (F.args_enumerate_next_1 _))))
  show wpAny _ _ (field (.ref e) 2 >>= _) _ _ _
  refine wpAny_bind (wpAny_field he rfl (x := .ref z) rfl (wpAny_bind ?_))
  unfold Builtin.SmallTypes.nextOf
  refine wpAny_bind (wpAny_callSpecial?_slot (name := Str.ofString "__next__") tz F.slot_zip_next (wpAny_call_entry F.slot_zip_next tz F.entry_zip_next ?_ (F.args_zip_next_1 _)))
  refine zip_end_at hh D gz gT gI g1 g2 gx gy hn fun h' c bz k hc => ?_
  obtain ⟨o, ho, hcl⟩ := hc
  exact wpAny_bind (wpAny_isInstance (T := "StopIteration") (b := true) ⟨o, ho, hcl⟩ isSubtype_stop (wpAny_pure (q _ bz k)))
theorem pyNext_ez {e : Addr} {i : Nat} {old : Value} {Q : Option Value → Shared → Prop} (he : IsEnum s.heap e z i old) (D : ZipApart z TI TO i1 i2 l1 l2) (ez : e ≠ z) (eO : e ≠ TO) (e1 : e ≠ i1) (e2 : e ≠ i2) (hz : ZAt s.heap z TI TO) (gI : IsPair s.heap TI (.ref i1) (.ref i2)) (gO : IsPair s.heap TO a b)
    (g1 : s.heap.IsListIter i1 l1 k1) (g2 : s.heap.IsListIter i2 l2 k2) (gx : s.heap.IsList l1 xs) (gy : s.heap.IsList l2 ys) (hx : xs[k1]? = some x) (hy : ys[k2]? = some y)
    (q : ∀ h1 h' T f, IsZipHeld h1 z TI TO T f → (T = s.heap.objs.size ∨ ∃ f0, IsZipHeld s.heap z TI TO T f0) → (∃ a b, IsPair h1 TO a b) → h1.IsListIter i1 l1 (k1 + 1) → h1.IsListIter i2 l2 (k2 + 1) → IsPair h1 s.heap.objs.size x y →
      h1.objs.size = s.heap.objs.size + 1 → (∀ c o, c ≠ z → c ≠ TO → c ≠ i1 → c ≠ i2 → s.heap.get? c = some o → h1.get? c = some o) →
      IsEnumOut h' e z ((i : Int) + 1) (.ref s.heap.objs.size) (s.heap.objs.size + 1) → h'.get? (s.heap.objs.size + 1) = some { cls := .type "tuple", data := .seq #[.int i s.toks, .ref s.heap.objs.size] } → h'.objs.size = s.heap.objs.size + 2 →
      (∀ b o, b ≠ e → h1.get? b = some o → h'.get? b = some o) → Q (some (.ref (s.heap.objs.size + 1))) { s with heap := h', toks := s.toks + 1 }) : wpAny (model prog w) A (pyNext (.ref e)) Q E s := by
  have ty : s.TypeIs (.ref e) "enumerate" := ⟨_, he, rfl⟩
  unfold pyNext
  refine wpAny_bind (wpAny_attempt (wpAny_callSpecial?_slot (name := Str.ofString "__next__") ty F.slot_enumerate_next (wpAny_call_entry F.slot_enumerate_next ty F.entry_enumerate_next ?_ (F.args_enumerate_next_1 _))))
  refine enum_any (P := fun v h1 => v = .ref s.heap.objs.size ∧ ∃ T f, IsZipHeld h1 z TI TO T f ∧ (T = s.heap.objs.size ∨ ∃ f0, IsZipHeld s.heap z TI TO T f0) ∧ (∃ a b, IsPair h1 TO a b) ∧ h1.IsListIter i1 l1 (k1 + 1) ∧ h1.IsListIter i2 l2 (k2 + 1) ∧ IsPair h1 s.heap.objs.size x y ∧
      h1.objs.size = s.heap.objs.size + 1 ∧ ∀ c o, c ≠ z → c ≠ TO → c ≠ i1 → c ≠ i2 → s.heap.get? c = some o → h1.get? c = some o) he
    (fun R hR => nextOf_zip D hz gI gO g1 g2 gx gy hx hy fun h' T f b1 b2 b3 b4 b5 b6 b7 b8 => hR _ h' ⟨rfl, T, f, b1, b2, b3, b4, b5, b6, b7, b8⟩) (fun v h1 hp => ?_) fun v h1 h' hp o1 o2 o3 o4 => ?_
  · obtain ⟨_, T, f, _, _, _, _, _, _, _, b8⟩ := hp
    exact b8 _ _ ez eO e1 e2 he
  · obtain ⟨rfl, T, f, b1, b2, b3, b4, b5, b6, b7, b8⟩ := hp
    rw [b7] at o1 o2 o3 ⊢
    exact wpAny_pure (q h1 h' T f b1 b2 b3 b4 b5 b6 b7 b8 o1 o2 o3 o4)
end
end GL
namespace GL
open PySem PySem.Spec PySem.W
theorem meets_ez (z TI TO : Addr) (f0 : Value) :
    Meets (Builtin.«enumerate.__new__» ⟨[.type "enumerate", .ref z], []⟩) (fun _ R s => IsZip s.heap z TI TO f0 ∧
      R (.ok (.ret (.ref s.heap.objs.size))) { s with heap := s.heap.push { cls := .type "enumerate", data := .fields #[.none, .bool false, .ref z, rawInt 0, .none, .none] } }) :=
  .of_wp fun prog w A R s h => by
    obtain ⟨hp, gs, dr, tk, os⟩ := s
    obtain ⟨hz, h⟩ := h
    have sb := sub_enumerate
    have it : ∀ {A : Around} {Q : Value → Shared → Prop} {E : Value → Shared → Prop}, Q (.ref z) ⟨hp, gs, dr, tk, os⟩ → wpAny (model prog w) A (pyIter (.ref z)) Q E ⟨hp, gs, dr, tk, os⟩ := fun q => wpAny_pyIter_zip hz q
    wp_walk using it
    refine wpAny_stack_any fun st => wpAny_pure ?_
    split
    · rename_i c _ _ _ _ _
      cases hc : (c == Value.type "enumerate")
      · wp_walk using it
        exact ⟨_, rfl, h⟩
      · wp_walk using it
        exact ⟨_, rfl, h⟩
    · wp_walk using it
      exact ⟨_, rfl, h⟩
section
variable {prog : Program} {w : World} {A : Around} {E : Value → Shared → Prop} {s : Shared}
theorem call_ez {z TI TO : Addr} {f0 : Value} {Q : Value → Shared → Prop} (hz : IsZip s.heap z TI TO f0)
    (h : ∀ h', IsEnum h' s.heap.objs.size z 0 .none → h'.objs.size = s.heap.objs.size + 1 → (∀ b o, s.heap.get? b = some o → h'.get? b = some o) → Q (.ref s.heap.objs.size) { s with heap := h' }) :
    wpAny (model prog w) A (call (.type "enumerate") [.ref z]) Q E s := by
  refine callType_new F.called_enumerate (by decide) (F.typeCall_enumerate_1 _) (F.newCall_enumerate_1 _) (fun obj => F.args_object_init_2 obj _) F.entry_enumerate_new (meets_ez z TI TO f0) ⟨hz, ?_⟩
  show _ ∧ _
  have g : IsEnum (s.heap.push { cls := .type "enumerate", data := .fields #[.none, .bool false, .ref z, rawInt 0, .none, .none] }) s.heap.objs.size z 0 .none := Heap.get?_push_size _ rfl
  exact ⟨⟨_, g, rfl⟩, h _ g (Heap.size_push ..) fun b o x => Heap.get?_push_of_some _ x⟩
end
end GL
namespace GL
open PySem PySem.Spec PyProof.Rows L2
def zFree (z TI TO : Addr) : HO := .ext fun h => IsZip h z TI TO .none
def zHeld (z TI TO T : Addr) : HO := .ext fun h => ∃ f, IsZipHeld h z TI TO T f
def Zst (z TI TO : Addr) (H : Hp) : Prop := H z = some (zFree z TI TO) ∨ ∃ T xs, H z = some (zHeld z TI TO T) ∧ H T = some (.tup xs)
def Itez (K : PySem.W.Frag) (a b z TI TO : Addr) : It :=
  ⟨fun i H => Zst z TI TO H ∧ ∃ (xs ys : List V) (x y : V), SqL K H a xs ∧ SqL K H b ys ∧ xs[i]? = some x ∧ ys[i]? = some y,
    fun i H v H' => ∃ P T x y zo, v = .ref P ∧ H P = none ∧ H T = none ∧ T ≠ P ∧ H' = upd (upd (upd H z zo) T (.tup [x, y])) P (.tup [.int (i : Nat), .ref T]) ∧ (∃ T ts, H' z = some (zHeld z TI TO T) ∧ H' T = some (.tup ts)) ∧ (∀ xs, SqL K H a xs → xs[i]? = some x) ∧ ∀ ys, SqL K H b ys → ys[i]? = some y,
    fun i H => (∃ T xs, H z = some (zHeld z TI TO T) ∧ H T = some (.tup xs)) ∧ ∃ xs ys : List V, SqL K H a xs ∧ SqL K H b ys ∧ (xs.length ≤ i ∨ ys.length ≤ i)⟩
theorem zst_at {X : Cx} {pins : List (Addr × Obj)} {σ : L2.St} {H : Hp} {s : Shared} {z TI TO : Addr} (I : Inv X pins σ H s) (h : Zst z TI TO H) : ZAt s.heap z TI TO := by
  rcases h with h | ⟨T, xs, h, hT⟩
  · exact .inl (I.hok z _ h).1
  · obtain ⟨f, q⟩ := (I.hok z _ h).1
    have hO : ObjOk X.prog X.w H s.heap T (.tup xs) := I.hok T _ hT
    obtain ⟨_, its, rv, o, h1, _⟩ := hO
    exact .inr ⟨T, f, o, q, h1⟩
theorem turn_ez {P : Program} {w : World} {K : PySem.W.Frag} {elts : List Expr} {kk : Nat} {tpos : Pos} {a b e z TI TO i1 i2 : Addr} (D : ZipApart z TI TO i1 i2 a b) (ez : e ≠ z) (eI : e ≠ TI) (eO : e ≠ TO) (e1 : e ≠ i1) (e2 : e ≠ i2) :
    Turn P w K (.Tuple elts kk tpos) (Itez K a b z TI TO) [e, TI, TO, i1, i2] e (fun i h => (∃ old, IsEnum h e z ((i : Nat) : Int) old) ∧ IsPair h TI (.ref i1) (.ref i2) ∧ (∃ x y, IsPair h TO x y) ∧ h.IsListIter i1 a i ∧ h.IsListIter i2 b i) where
  mem := by simp
  obj := fun i h st c hc => by
    obtain ⟨⟨old, he⟩, hI, ⟨x, y, hO⟩, ⟨o1, g1, _, d1⟩, ⟨o2, g2, _, d2⟩⟩ := st
    have h5 : c = e ∨ c = TI ∨ c = TO ∨ c = i1 ∨ c = i2 := by simpa using hc
    rcases h5 with rfl | rfl | rfl | rfl | rfl
    · exact ⟨_, he, fun v q => nomatch q⟩
    · exact ⟨_, hI, fun v q => nomatch q⟩
    · exact ⟨_, hO, fun v q => nomatch q⟩
    · exact ⟨o1, g1, fun v q => by rw [d1] at q; cases q⟩
    · exact ⟨o2, g2, fun v q => by rw [d2] at q; cases q⟩
  keep := fun i h h' st k => by
    obtain ⟨⟨old, he⟩, hI, ⟨x, y, hO⟩, h1, h2⟩ := st
    exact ⟨⟨old, k e (by simp) _ he⟩, k TI (by simp) _ hI, ⟨x, y, k TO (by simp) _ hO⟩, h1.at fun o q => k i1 (by simp) o q, h2.at fun o q => k i2 (by simp) o q⟩
  item := by
    intro X hP hw hK hc i pins s σ H E I hf st hg
    subst hP hw hK
    obtain ⟨⟨old, he⟩, hI, ⟨x0, y0, hO⟩, h1, h2⟩ := st
    obtain ⟨hz, xs, ys, x, y, qx, qy, hx, hy⟩ := hg
    obtain ⟨its, rv, p1, _⟩ := I.list qx
    obtain ⟨its2, rv2, p2, _⟩ := I.list qy
    obtain ⟨u, hu, ru⟩ := rv.get hx
    obtain ⟨u2, hu2, ru2⟩ := rv2.get hy
    have hZ := zst_at I hz
    have zl : z < s.heap.objs.size := by
      rcases hZ with q | ⟨_, _, _, q, _⟩
      · exact Heap.lt_size q
      · exact Heap.lt_size q
    refine pyNext_ez he D ez eO e1 e2 hZ hI hO h1 h2 p1.isList p2.isList (x := u) (y := u2) (by simpa using hu) (by simpa using hu2) fun g1 g2 T f b1 b2 b3 b4 b5 b6 b7 b8 o1 o2 o3 o4 => ?_
    refine ⟨_, rfl, wpAny_letOwnedTupleGo_enum (s := { s with heap := g2, toks := s.toks + 1 }) o1 fun g3 e3 sb => ?_⟩
    have el : e < s.heap.objs.size := Heap.lt_size he
    have up : ∀ c o, c ≠ e → g1.get? c = some o → g3.get? c = some o := fun c o n q => (sb.2 c n).trans (o4 c o n q)
    have n1 : H s.heap.objs.size = none := I.hok.fresh (Nat.le_refl _)
    have n2 : H (s.heap.objs.size + 1) = none := I.hok.fresh (Nat.le_succ _)
    have ne12 : s.heap.objs.size ≠ s.heap.objs.size + 1 := Nat.ne_of_lt (Nat.lt_succ_self _)
    have old3 : ∀ c o, c ∉ [e, TI, TO, i1, i2] → c ≠ z → s.heap.get? c = some o → g3.get? c = some o := fun c o hc nz q => up c o (fun z' => hc (by simp [z'])) (b8 c o nz (fun z' => hc (by simp [z'])) (fun z' => hc (by simp [z'])) (fun z' => hc (by simp [z'])) q)
    have lt_of : ∀ c, c ∈ [e, TI, TO, i1, i2] → c < s.heap.objs.size := fun c hc => by
      have h5 : c = e ∨ c = TI ∨ c = TO ∨ c = i1 ∨ c = i2 := by simpa using hc
      rcases h5 with rfl | rfl | rfl | rfl | rfl
      · exact el
      · exact Heap.lt_size hI
      · exact Heap.lt_size hO
      · obtain ⟨_, q, _⟩ := h1; exact Heap.lt_size q
      · obtain ⟨_, q, _⟩ := h2; exact Heap.lt_size q
    have zs : ∃ ob, H z = some ob := by rcases hz with q | ⟨_, _, q, _⟩ <;> exact ⟨_, q⟩
    obtain ⟨zob, hzob⟩ := zs
    have T3 : g3.get? s.heap.objs.size = some { cls := .type "tuple", data := .seq #[u, u2] } := up _ _ (Nat.ne_of_gt el) b6
    have P3 : g3.get? (s.heap.objs.size + 1) = some { cls := .type "tuple", data := .seq #[.int i s.toks, .ref s.heap.objs.size] } := (sb.2 _ (Nat.ne_of_gt (Nat.lt_succ_of_lt el))).trans o2
    have z3 : IsZipHeld g3 z TI TO T f := up _ _ ez.symm b1
    let H' : Hp := upd (upd (upd H z (zHeld z TI TO T)) s.heap.objs.size (.tup [x, y])) (s.heap.objs.size + 1) (.tup [.int (i : Nat), .ref s.heap.objs.size])
    have nzT : z ≠ s.heap.objs.size := Nat.ne_of_lt zl
    have nzP : z ≠ s.heap.objs.size + 1 := Nat.ne_of_lt (Nat.lt_succ_of_lt zl)
    have hz' : H' z = some (zHeld z TI TO T) := by show upd (upd (upd H z _) _ _) _ _ z = _; rw [upd_ne nzP, upd_ne nzT, upd_same]
    have hT' : H' s.heap.objs.size = some (.tup [x, y]) := by show upd (upd (upd H z _) _ _) _ _ _ = _; rw [upd_ne ne12, upd_same]
    have hP' : H' (s.heap.objs.size + 1) = some (.tup [.int (i : Nat), .ref s.heap.objs.size]) := upd_same
    have ho' : ∀ c, c ≠ z → c ≠ s.heap.objs.size → c ≠ s.heap.objs.size + 1 → H' c = H c := fun c a1 a2 a3 => by show upd (upd (upd H z _) _ _) _ _ c = _; rw [upd_ne a3, upd_ne a2, upd_ne a1]
    have zext : ∀ {o : HO}, H z = some o → ∃ φ, o = .ext φ := fun {o} q => by
      rcases hz with q' | ⟨_, _, q', _⟩ <;> (rw [q] at q'; cases q'; exact ⟨_, rfl⟩)
    have keepT : ∀ c xs, H c = some (.tup xs) → H' c = some (.tup xs) := fun c xs q => by
      refine (ho' c (fun z' => ?_) (fun z' => ?_) fun z' => ?_).trans q
      · rw [z'] at q; obtain ⟨φ, r⟩ := zext q; cases r
      · rw [z', n1] at q; cases q
      · rw [z', n2] at q; cases q
    have Z' : ∃ T ts, H' z = some (zHeld z TI TO T) ∧ H' T = some (.tup ts) := by
      refine ⟨T, ?_⟩
      rcases b2 with rfl | ⟨f0, b2⟩
      · exact ⟨_, hz', hT'⟩
      · rcases hz with q | ⟨T0, xs0, q, qT⟩
        · have r : IsZip s.heap z TI TO .none := (I.hok z _ q).1
          have r2 := r.symm.trans b2
          simp [rawInt] at r2
        · obtain ⟨f1, r⟩ := (I.hok z _ q).1
          have r2 := r.symm.trans b2
          have e0 : T0 = T := by
            simp [rawInt] at r2
            exact Int.ofNat.inj r2.1
          subst e0
          exact ⟨xs0, hz', keepT _ _ qT⟩
    have hok3 : HOk X.prog X.w H' g3 := fun c o q => by
      by_cases cz : c = z
      · subst cz
        rw [hz'] at q
        cases q
        exact ⟨⟨f, z3⟩, ⟨_, z3⟩, fun h1 h2 ⟨f1, r⟩ k => ⟨f1, k _ r⟩⟩
      by_cases cT : c = s.heap.objs.size
      · subst cT
        rw [hT'] at q
        cases q
        exact ⟨by show 2 ≤ sizeLine; decide, [u, u2], .cons ru (.cons ru2 .nil), ⟨_, T3, rfl, _, rfl⟩⟩
      by_cases cP : c = s.heap.objs.size + 1
      · subst cP
        rw [hP'] at q
        cases q
        exact ⟨by show 2 ≤ sizeLine; decide, [.int i s.toks, .ref s.heap.objs.size], .cons ⟨_, rfl⟩ (.cons rfl .nil), ⟨_, P3, rfl, _, rfl⟩⟩
      rw [ho' c cz cT cP] at q
      have ncf : ∀ d o', H d = some o' → d ∉ [e, TI, TO, i1, i2] := fun d o' r m => by rw [(hf d m).1] at r; cases r
      refine (I.hok c o q).stay (fun d v hd r => ?_) (fun d r => ?_) (fun d xs r => keepT d xs r)
      · rcases hd with rfl | hd
        · exact old3 _ _ (ncf _ _ q) cz r
        · refine old3 _ _ (ncf _ _ hd) (fun z' => ?_) r
          rw [z'] at hd; obtain ⟨φ, r2⟩ := zext hd; cases r2
      · refine (ho' d (fun z' => ?_) (fun z' => ?_) fun z' => ?_).trans r
        · rw [z'] at r; obtain ⟨φ, r2⟩ := zext r; cases r2
        · rw [z', n1] at r; cases r
        · rw [z', n2] at r; cases r
    have J : Inv X pins σ H' { s with heap := g3, toks := s.toks + 1 } := by
      refine I.step (g' := s.gens) (d' := s.drawn) (ch := [e, TI, TO, i1, i2]) (fun c hc => ⟨(hf c hc).2.2.2.1, (hf c hc).2.1, (hf c hc).2.2.2.2.1, (hf c hc).2.2.2.2.2⟩)
        (fun c o _ _ hc q n => old3 c o hc (fun z' => by rw [z', hzob] at n; cases n) q) (fun c o _ _ hc q n => ⟨o.slots, old3 c o hc (fun z' => by rw [z', hzob] at n; cases n) q⟩)
        (fun c o hc q n => ?_) (fun c o hc q => ?_) (fun c xs q => keepT c xs q) (fun c o u q => ?_) (fun c ps q => ⟨#[], ?_⟩) (fun m hm => ?_) hok3 I.bare
      · have cl := Heap.lt_size q
        rw [ho' c (fun z' => by rw [z', hzob] at n; cases n) (Nat.ne_of_lt cl) (Nat.ne_of_lt (Nat.lt_succ_of_lt cl))]; exact n
      · by_cases cz : c = z
        · subst cz; exact ⟨_, z3⟩
        · exact ⟨o, old3 c o hc cz q⟩
      · refine (ho' c (fun z' => ?_) (fun z' => ?_) fun z' => ?_).trans q
        · rw [z'] at q; obtain ⟨φ, r⟩ := zext q; cases r
        · rw [z', n1] at q; cases q
        · rw [z', n2] at q; cases q
      · have e' : H' c = H c := ho' c (fun z' => by rw [z'] at q; obtain ⟨φ, r⟩ := zext q; cases r) (fun z' => by rw [z', n1] at q; cases q) (fun z' => by rw [z', n2] at q; cases q)
        rw [e', q]; simp
      · obtain ⟨o, es, ep, ho, r⟩ := hm
        exact ⟨o, es, ep, old3 _ o (fun z' => (hf _ z').2.1 rfl) (fun z' => by have q := I.free; rw [z', hzob] at q; cases q) ho, r⟩
    refine ⟨.ref (s.heap.objs.size + 1), H', J, rfl, ⟨_, s.heap.objs.size, x, y, _, rfl, n2, n1, ne12, rfl, Z', fun l r => by rw [I.list_inj r qx]; exact hx, fun l r => by rw [I.list_inj r qy]; exact hy⟩, ⟨⟨.ref s.heap.objs.size, ?_⟩, ?_, ?_, ?_, ?_⟩, fun c hc => ?_⟩
    · have e1 : ((i + 1 : Nat) : Int) = (i : Int) + 1 := by omega
      rw [e1]; exact e3
    · exact up _ _ eI.symm (b8 _ _ D.TIz D.TITO D.TIi1 D.TIi2 hI)
    · obtain ⟨a', b', q⟩ := b3
      exact ⟨a', b', up _ _ eO.symm q⟩
    · exact b4.at fun o q => up _ o e1.symm q
    · exact b5.at fun o q => up _ o e2.symm q
    · have cl := lt_of c hc
      rw [ho' c (fun z' => by have q := (hf c hc).1; rw [z', hzob] at q; cases q) (Nat.ne_of_lt cl) (Nat.ne_of_lt (Nat.lt_succ_of_lt cl))]
      exact (hf c hc).1
  done := by
    intro X hP hw hK hc i pins s σ H E I hf st hg
    subst hP hw hK
    obtain ⟨⟨old, he⟩, hI, ⟨x0, y0, hO⟩, h1, h2⟩ := st
    obtain ⟨⟨T, ts, hz, hT⟩, xs, ys, qx, qy, hend⟩ := hg
    obtain ⟨its, rv, p1, _⟩ := I.list qx
    obtain ⟨its2, rv2, p2, _⟩ := I.list qy
    have l1 := rv.length
    have l2 := rv2.length
    have hn : its.toArray[i]? = none ∨ its2.toArray[i]? = none := by
      rcases hend with q | q
      · exact .inl (by simp; omega)
      · exact .inr (by simp; omega)
    obtain ⟨f, gz⟩ := (I.hok z _ hz).1
    have hO2 : ObjOk X.prog X.w H s.heap T (.tup ts) := I.hok T _ hT
    obtain ⟨_, _, _, oT, gT, _⟩ := hO2
    have hd : X.A.handled = none := I.ok.hd hc
    refine pyNext_ez_end hd he D gz gT hI h1 h2 p1.isList p2.isList hn fun g bz k => ⟨rfl, ?_⟩
    have ncf : ∀ d o', H d = some o' → d ∉ [e, TI, TO, i1, i2] := fun d o' r m => by rw [(hf d m).1] at r; cases r
    have k' : ∀ c o, c ∉ [e, TI, TO, i1, i2] → c ≠ z → s.heap.get? c = some o → g.get? c = some o := fun c o hc nz r => k c o nz (fun z' => hc (by simp [z'])) (fun z' => hc (by simp [z'])) r
    refine I.step (g' := s.gens) (d' := s.drawn) (t' := s.toks) (ch := [e, TI, TO, i1, i2]) (fun c hc => ⟨(hf c hc).2.2.2.1, (hf c hc).2.1, (hf c hc).2.2.2.2.1, (hf c hc).2.2.2.2.2⟩)
      (fun c o _ _ hc q n => k' c o hc (fun z' => by rw [z', hz] at n; cases n) q) (fun c o _ _ hc q n => ⟨o.slots, k' c o hc (fun z' => by rw [z', hz] at n; cases n) q⟩)
      (fun c o hc q n => n) (fun c o hc q => ?_) (fun c xs q => q) (fun c o u q => q) (fun c ps q => ⟨#[], by rw [q]; simp⟩) (fun m hm => ?_) (fun c o q => ?_) I.bare
    · by_cases cz : c = z
      · subst cz; exact ⟨_, bz⟩
      · exact ⟨o, k' c o hc cz q⟩
    · obtain ⟨o, es, ep, ho, r⟩ := hm
      exact ⟨o, es, ep, k' _ o (fun z' => (hf _ z').2.1 rfl) (fun z' => by have q := I.free; rw [z', hz] at q; cases q) ho, r⟩
    · by_cases cz : c = z
      · subst cz
        rw [hz] at q
        cases q
        exact ⟨⟨true, bz⟩, ⟨_, bz⟩, fun h1 h2 ⟨f1, r⟩ k => ⟨f1, k _ r⟩⟩
      · refine (I.hok c o q).stay (fun d v hd r => ?_) (fun d r => r) (fun d xs r => r)
        rcases hd with rfl | hd
        · exact k' _ _ (ncf _ _ q) cz r
        · refine k' _ _ (ncf _ _ hd) (fun z' => ?_) r
          rw [z', hz] at hd; cases hd
  self := fun A i s Q E st h => let ⟨⟨_, he⟩, _⟩ := st; wpAny_pyIter_enum he h
end GL
namespace GL
open PySem PySem.Spec PyProof.Rows L2
def iEZ (K : PySem.W.Frag) (ta : TA) : TI := fun σ H R => ta σ H fun vs H1 => ∃ a b xs ys, vs = [.ref a, .ref b] ∧ SqL K H1 a xs ∧ SqL K H1 b ys ∧ ∀ z TI TO, H1 z = none → R (Itez K a b z TI TO) (upd H1 z (zFree z TI TO))
theorem pi_ez {X : Cx} {e e2 : Expr} {ta : TA} {p p2 pos pos2 tpos : Pos} {elts : List Expr} {kk : Nat} (hg : Gl X "enumerate") (hm : X.mg "enumerate" = none) (hg2 : Gl X "zip") (hm2 : X.mg "zip" = none) (ha : PA X [e, e2] ta)
    (hs : starEach [e, e2] X.env = (false, eval e X.env) :: starEach [e2] X.env := by rfl) (hpl : (backTo pos2 (starEach [e2] X.env)).any (·.1) = false := by rfl)
    (hs1 : starEach [.Call (.Name "zip" p2) [e, e2] [] pos2] X.env = [(false, eval (.Call (.Name "zip" p2) [e, e2] [] pos2) X.env)] := by rfl) :
    PI X (.Tuple elts kk tpos) (.Call (.Name "enumerate" p) [.Call (.Name "zip" p2) [e, e2] [] pos2] [] pos) (iEZ X.K ta) := by
  refine ⟨fun pins s σ H R I h => ?_⟩
  refine Call_ (ld_blt I hg hm boot_enumerate (PyProof.Rows.callWith_type1 ?_ hs1 rfl))
  rw [hs1]
  show wpAny _ _ (spliced ((false, _) :: [])) _ _ s
  refine Calls.spliced_cons ?_
  show wpAny _ _ (eval _ X.env) _ _ s
  refine (Call_ (ld_blt I hg2 hm2 PyProof.Rows.boot_zip (PyProof.Rows.callWith_type1 (thn (ha.run pos2 pins s σ H _ I h) fun us s1 ⟨vs, H1, I1, r1, q1⟩ => ?_) hs hpl)))
  obtain ⟨a, b, xs, ys, rfl, hqx, hqy, q⟩ := q1
  cases r1 with
  | cons r rr =>
    cases rr with
    | cons r' rr =>
      cases rr
      cases r
      cases r'
      obtain ⟨its, rv, p1, _⟩ := I1.list hqx
      obtain ⟨its2, rv2, p2', _⟩ := I1.list hqy
      have la : a < s1.heap.objs.size := p1.lt
      have lb : b < s1.heap.objs.size := p2'.lt
      refine call_zip_2 p1.isList p2'.isList fun h' hz hTI hTO h1 h2 hsz hk => ?_
      refine Calls.spliced_nil ?_
      refine call_ez (s := { s1 with heap := h' }) hz fun h2' he hsz2 hk2 => wpAny_pyIter_enum he ?_
      have kk2 : ∀ c o, s1.heap.get? c = some o → h2'.get? c = some o := fun c o r => hk2 c o (hk c o r)
      have hz2 : IsZip h2' (s1.heap.objs.size + 4) (s1.heap.objs.size + 2) (s1.heap.objs.size + 3) .none := hk2 _ _ hz
      have zn : H1 (s1.heap.objs.size + 4) = none := I1.hok.fresh (Nat.le_add_right _ _)
      have J : Inv X pins σ (upd H1 (s1.heap.objs.size + 4) (zFree (s1.heap.objs.size + 4) (s1.heap.objs.size + 2) (s1.heap.objs.size + 3))) { s1 with heap := h2' } :=
        I1.laid (t' := s1.toks) (a := s1.heap.objs.size + 4) kk2 (Nat.le_add_right _ _) ⟨hz2, ⟨_, hz2⟩, fun g1 g2 r k => k _ r⟩
      have es : ({ s1 with heap := h' } : Shared).heap.objs.size = s1.heap.objs.size + 5 := hsz
      rw [es] at he ⊢
      have ne5 : ∀ j, j < 5 → s1.heap.objs.size + 5 ≠ s1.heap.objs.size + j := fun j hj => by
        generalize s1.heap.objs.size = n0
        omega
      have D := PySem.W.ktu_apart s1.heap.objs.size a b la lb
      refine ⟨s1.heap.objs.size + 5, [s1.heap.objs.size + 5, s1.heap.objs.size + 2, s1.heap.objs.size + 3, s1.heap.objs.size, s1.heap.objs.size + 1], _, _, _, rfl, J, turn_ez D (ne5 4 (by decide)) (ne5 2 (by decide)) (ne5 3 (by decide)) (ne5 0 (by decide)) (ne5 1 (by decide)),
        ⟨⟨.none, he⟩, hk2 _ _ hTI, ⟨_, _, hk2 _ _ hTO⟩, h1.at fun o r => hk2 _ o r, h2.at fun o r => hk2 _ o r⟩, fun c hc => ?_, q _ _ _ zn⟩
      have h5 : c = s1.heap.objs.size + 5 ∨ c = s1.heap.objs.size + 2 ∨ c = s1.heap.objs.size + 3 ∨ c = s1.heap.objs.size ∨ c = s1.heap.objs.size + 1 := by simpa using hc
      have ne4 : ∀ j, j ≠ 4 → s1.heap.objs.size + j ≠ s1.heap.objs.size + 4 := fun j hj => by
        generalize s1.heap.objs.size = n0
        omega
      have hle : s1.heap.objs.size ≤ c ∧ c ≠ s1.heap.objs.size + 4 := by
        rcases h5 with rfl | rfl | rfl | rfl | rfl
        · exact ⟨Nat.le_add_right _ _, ne4 5 (by decide)⟩
        · exact ⟨Nat.le_add_right _ _, ne4 2 (by decide)⟩
        · exact ⟨Nat.le_add_right _ _, ne4 3 (by decide)⟩
        · exact ⟨Nat.le_refl _, ne4 0 (by decide)⟩
        · exact ⟨Nat.le_add_right _ _, ne4 1 (by decide)⟩
      refine I1.fpOk hle.1 ?_
      rw [upd_ne hle.2]
      exact I1.hok.fresh hle.1
end GL
namespace GL
open PySem PySem.Spec PyProof.Rows L2
def clsB (K : PySem.W.Frag) (C : Addr) : Bool :=
  decide (PySem.W.findIn K (.ref C) "__setattr__" = some (some (.builtin "object.__setattr__"))) && decide (PySem.W.subIn K (.ref C) (.type "BaseException") = some true) &&
  decide (PySem.W.typeIn K (.ref C) = some (.type "type")) && PySem.W.keepIn K (.ref C) && decide (PySem.W.findIn K (.ref C) "__getattribute__" = some (some (.builtin "BaseException.__getattribute__"))) &&
  decide (PySem.W.findIn K (.ref C) "__getattr__" = some none) && PySem.W.hasDictIn K C && decide (PySem.W.findIn K (.ref C) "__class__" = some (some (.builtin "object.__class__"))) &&
  decide (PySem.W.mroIn K C (.type "object") = some true) && decide (PySem.W.specialIn K (.builtin "object.__class__") "__get__" = some (some (.builtin "getset_descriptor.__get__"))) && decide (PySem.W.takesIn K (.builtin "object.__class__") = some true)
theorem clsX_of {K : PySem.W.Frag} {C : Addr} {nm q : Str} {N : Addr} {bs bm : List Value} {sn : List Str} {sub : List Value} {ab : Bool} {col : Option Bool} {dd : Option Addr} {k0 k1 k2 k3 k5 : Option Value}
    (l : K.lookup C = some (excClassObj nm q C N bs bm true sn sub ab col dd k0 k1 k2 k3 k5 "ValueError.__new__")) (r : PySem.HandSPX.refsVE bm = true) (h : clsB K C = true) : ClsX K C := by
  unfold clsB at h
  simp only [Bool.and_eq_true, decide_eq_true_eq] at h
  obtain ⟨⟨⟨⟨⟨⟨⟨⟨⟨⟨h1, h2⟩, h3⟩, h4⟩, h5⟩, h6⟩, h7⟩, h8⟩, h9⟩, h10⟩, h11⟩ := h
  exact ⟨⟨⟨_, _, _, _, _, _, _, _, _, _, _, _, _, _, _, l, r⟩, h1, h2, h3, h4⟩, h5, h6, h7, h8, h9, h10, h11⟩
def matB (K : PySem.W.Frag) (cs : Nat → Addr) (n : Nat) (t : Nat → Nat → Bool) : Bool := (List.range n).all fun i => (List.range n).all fun j => decide (PySem.W.kitOne K (.ref (cs i)) (.ref (cs j)) = some (t i j))
theorem mat_ok {K : PySem.W.Frag} {cs : Nat → Addr} {n : Nat} {t : Nat → Nat → Bool} (h : matB K cs n t = true) (i j : Nat) (hi : i < n) (hj : j < n) : PySem.W.kitOne K (.ref (cs i)) (.ref (cs j)) = some (t i j) := by
  have h1 := List.all_eq_true.mp h i (List.mem_range.mpr hi)
  exact of_decide_eq_true (List.all_eq_true.mp h1 j (List.mem_range.mpr hj))
def bltB (K : PySem.W.Frag) (cs : Nat → Addr) (n : Nat) (v : Value) : Bool := (List.range n).all fun i => decide (PySem.W.kitOne K (.ref (cs i)) v = some true)
theorem blt_ok {K : PySem.W.Frag} {cs : Nat → Addr} {n : Nat} {v : Value} (h : bltB K cs n v = true) (i : Nat) (hi : i < n) : PySem.W.kitOne K (.ref (cs i)) v = some true := of_decide_eq_true (List.all_eq_true.mp h i (List.mem_range.mpr hi))
def noB (K : PySem.W.Frag) (cs : Nat → Addr) (n : Nat) (vs : List Value) : Bool := (List.range n).all fun i => decide (PySem.W.kitAny K (.ref (cs i)) vs = some false)
theorem no_ok {K : PySem.W.Frag} {cs : Nat → Addr} {n : Nat} {vs : List Value} (h : noB K cs n vs = true) (i : Nat) (hi : i < n) : PySem.W.kitAny K (.ref (cs i)) vs = some false := of_decide_eq_true (List.all_eq_true.mp h i (List.mem_range.mpr hi))
def gcI {α : Type} (us ws : List α) : List α := ws
def gcI2 {α : Type} (us ws : List α) : List α := match ws with
  | [w0, w1] => [w1, w0]
  | _ => []
theorem hrc {zs : List V} {ws : List Value} (h : zs.length = 1) (r : Vals zs ws) : Vals (gcI [] zs) (gcI [] ws) := r
theorem hrc2 {zs : List V} {ws : List Value} (h : zs.length = 2) (r : Vals zs ws) : Vals (gcI2 [] zs) (gcI2 [] ws) := match zs, ws, r, h with
  | [_, _], [_, _], .cons r0 (.cons r1 .nil), _ => .cons r1 (.cons r0 .nil)
/-- !=: a list and the empty list; or data -/
def rNeX (K : PySem.W.Frag) : R2 := fun x y H Q => (∃ (a b : Addr) (xs : List V), x = .ref a ∧ y = .ref b ∧ H a = some (.lst xs) ∧ H b = some (.lst []) ∧ xs = [] ∧ Q (.bl false) H) ∨ rNeD K x y H Q
theorem op_neX {X : Cx} (hu : X.A.units + 64 < cLine) : OpR X (compareOp .NotEq) (rNeX X.K) := by
  intro pins s σ H x y v u Q I rx ry h
  rcases h with ⟨a, b, xs, rfl, rfl, ha, hb, rfl, q⟩ | h
  · exact op_neD hu pins s σ H _ _ v u Q I rx ry ⟨.list [], .list [], .lst (SqL.of ha) .nil, .lst (SqL.of hb) .nil, rfl, rfl, q⟩
  · exact op_neD hu pins s σ H x y v u Q I rx ry h
end GL
/-! loops over enumerate(zip(..)); comprehensions that keep nothing. -/
namespace GL
open PySem PySem.Spec PyProof.Rows L2
theorem for_ez {K : PySem.W.Frag} {a b z TI TO : Addr} {xs ys : List V} {n : Nat} {g : TG} {tb : TS} {D : Ends} {σ : L2.St} {H : Hp} (hx : xs.length = n) (hy : ys.length = n) (n0 : 0 < n) (Pv : Nat → L2.St → Hp → Prop) (h0 : Pv 0 σ H)
    (hG : ∀ i σ H, Pv i σ H → SqL K H a xs ∧ SqL K H b ys ∧ Zst z TI TO H ∧ (0 < i → ∃ T ts, H z = some (zHeld z TI TO T) ∧ H T = some (.tup ts)))
    (hs : ∀ i σ H P T x y zo H', i < n → Pv i σ H → xs[i]? = some x → ys[i]? = some y → H P = none → H T = none → T ≠ P → H' = upd (upd (upd H z zo) T (.tup [x, y])) P (.tup [.int (i : Nat), .ref T]) → (∃ T ts, H' z = some (zHeld z TI TO T) ∧ H' T = some (.tup ts)) →
      g (.ref P) σ H' fun σ2 H2 => tb { D with nx := Pv (i + 1), ct := Pv (i + 1), bk := D.nx } σ2 H2) (hd : ∀ σ H, Pv n σ H → D.nx σ H) :
    ∃ W : Nat → Nat → L2.St → Hp → Prop, (∃ m, W 0 m σ H) ∧ ∀ i m σ H, W i m σ H →
      ((Itez K a b z TI TO).stop i H ∧ D.nx σ H) ∨ ((Itez K a b z TI TO).go i H ∧ ∃ N : L2.St → Hp → Prop, (∀ σ' H', N σ' H' → ∃ m', m' < m ∧ W (i + 1) m' σ' H') ∧ ∀ x H', (Itez K a b z TI TO).yld i H x H' → g x σ H' fun σ2 H2 => tb { D with nx := N, ct := N, bk := D.nx } σ2 H2) := by
  refine ⟨fun i m σ H => m = n - i ∧ i ≤ n ∧ Pv i σ H, ⟨n, by simp, Nat.zero_le _, h0⟩, ?_⟩
  rintro i m σ H ⟨rfl, hi, p⟩
  obtain ⟨q1, q2, q3, q4⟩ := hG i σ H p
  by_cases hlt : i < n
  · have e1 : i < xs.length := by omega
    have e2 : i < ys.length := by omega
    refine .inr ⟨⟨q3, xs, ys, xs[i], ys[i], q1, q2, by simp [e1], by simp [e2]⟩, Pv (i + 1), fun σ' H' p' => ⟨n - (i + 1), by omega, rfl, hlt, p'⟩, fun v H' y => ?_⟩
    obtain ⟨P, T, x, y, zo, rfl, h1, h2, h3, h4, h5, h6, h7⟩ := y
    exact hs i σ H P T x y zo H' hlt p (h6 xs q1) (h7 ys q2) h1 h2 h3 h4 h5
  · have e : i = n := by omega
    subst e
    exact .inl ⟨⟨q4 n0, xs, ys, q1, q2, .inl (by omega)⟩, hd σ H p⟩
/-- nothing is kept of the comprehension -/
theorem lc_none {p : Addr} {σ : L2.St} {H : Hp} {te : TE} {wi : TI} {tt : TT} {j : Nat} {Q : VK} (Pr : List V → Hp → Prop)
    (src : ∀ R : It → Hp → Prop, (∀ J H1 xs, Ex H H1 → Pr xs H1 → Walk J xs.length (fun H2 => Kp p H1 H2) (YAt xs) → R J H1) → wi σ H R)
    (ht : ∀ xs H1, Ex H H1 → Pr xs H1 → ∀ x, x ∈ xs → ∀ H2, Ex H1 H2 → ∀ Q1 : Bool → Hp → Prop, (∀ H3, Ex H2 H3 → Q1 false H3) → tt ((σ.set j none).set j (some x)) H2 Q1)
    (q : ∀ D H2, H D = none → H2 D = some (.lst []) → Ex H H2 → Q (.ref D) H2) : tLc wi (gName j) tt te [j] σ H Q := by
  refine src _ fun J H1 xs e1 pr w D hD => ?_
  refine lc_it w (fun i H2 => H2 D = some (.lst []) ∧ Ex H1 H2) ⟨upd_same, Ex.nw hD⟩ (fun i H2 _ g => Ex.kp g.2) ?_ fun H2 g => ?_
  · rintro i x H2 H3 hi ⟨g1, g2⟩ ⟨rfl, hx⟩
    have hm : x ∈ xs := List.mem_of_getElem? hx
    refine ⟨?_, ?_⟩
    · show ((σ.set j none).set j (some x)).set j none = σ.set j none
      rw [List.set_set, List.set_set]
    · exact ht xs H1 e1 pr x hm H3 g2 _ fun H4 e4 => iteF ⟨e4 _ _ g1, g2.tr e4⟩
  · exact q D H2 (e1.no hD) g.1 (e1.tr g.2)
/-! rows of made exceptions: of the classes js, all with the one field -/
def Es (cs : Nat → Addr) (f : Str) (one : V) (H : Hp) : List V → List Nat → Prop := Paired fun v j => ∃ a, v = .ref a ∧ Ef H a (cs j) [(f, one)]
theorem Es.ex {cs : Nat → Addr} {f : Str} {one : V} {H H' : Hp} (e : Ex H H') : ∀ {vs : List V} {js : List Nat}, Es cs f one H vs js → Es cs f one H' vs js
  | _, _, .nil => .nil
  | _, _, .cons ⟨a, ea, h⟩ r => .cons ⟨a, ea, h.ex e⟩ (Es.ex e r)
theorem Es.get {cs : Nat → Addr} {f : Str} {one : V} {H : Hp} : ∀ {vs : List V} {js : List Nat}, Es cs f one H vs js → ∀ (i : Nat) (x : V), vs[i]? = some x → ∃ j a, js[i]? = some j ∧ x = .ref a ∧ Ef H a (cs j) [(f, one)]
  | _, _, .nil, i, x, h => by cases h
  | _, _, .cons ⟨a, ea, h⟩ r, 0, x, hx => by cases hx; exact ⟨_, a, rfl, ea, h⟩
  | _, _, .cons _ r, i + 1, x, hx => by
    obtain ⟨j, a, h1, h2, h3⟩ := Es.get r i x hx
    exact ⟨j, a, h1, h2, h3⟩
theorem Es.app {cs : Nat → Addr} {f : Str} {one : V} {H : Hp} : ∀ {vs ws : List V} {js ks : List Nat}, Es cs f one H vs js → Es cs f one H ws ks → Es cs f one H (vs ++ ws) (js ++ ks)
  | _, _, _, _, .nil, h => h
  | _, _, _, _, .cons h r, h' => .cons h (Es.app r h')
def ErsE (cs : Nat → Addr) (f : Str) (one : V) (σ : L2.St) (js : List Nat) (ta : TA) : Prop := ∀ (H : Hp) (Q : List V → Hp → Prop), (∀ vs H', Ex H H' → Es cs f one H' vs js → Q vs H') → ta σ H Q
section
variable {cs : Nat → Addr} {f : Str} {one : V} {σ : L2.St} {js : List Nat} {ta : TA} {i j : Nat}
theorem ErsE.nil : ErsE cs f one σ [] tNil := fun H Q k => k [] H (Ex.rfl' H) .nil
theorem ErsE.pos (hi : σ[i]? = some (some one)) (r : ErsE cs f one σ js ta) : ErsE cs f one σ (j :: js) (tCons (tCall (spC1 (cs j) f) [] (fun _ _ _ => False) (tCons (tVar i) tNil)) ta) := fun H Q k =>
  ⟨_, hi, one, rfl, fun a H1 _ e1 o1 => r H1 _ fun vs H2 e2 es => k _ H2 (e1.tr e2) (.cons ⟨a, rfl, o1.ef.ex e2⟩ es)⟩
theorem ErsE.kw (hi : σ[i]? = some (some one)) (r : ErsE cs f one σ js ta) : ErsE cs f one σ (j :: js) (tCons (tKw 0 1 (spC1 (cs j) f) gcI (fun _ _ _ => False) tNil (tCons (tVar i) tNil)) ta) := fun H Q k =>
  ⟨_, hi, rfl, rfl, one, rfl, fun a H1 _ e1 o1 => r H1 _ fun vs H2 e2 es => k _ H2 (e1.tr e2) (.cons ⟨a, rfl, o1.ef.ex e2⟩ es)⟩
/-- .. in a list -/
theorem ErsE.lst {Q : VK} {H : Hp} (h : ErsE cs f one σ js ta) (hl : js.length ≤ 1000) (q : ∀ D vs H', H D = none → Ex H H' → H' D = some (.lst vs) → Es cs f one H' vs js → Q (.ref D) H') : tLst ta σ H Q := by
  refine h H _ fun vs H1 e1 es => ⟨?_, fun D hD => ?_⟩
  · have : vs.length = js.length := Paired.length es
    exact sz_le (by omega)
  · have e2 := Ex.nw (o := .lst vs) hD
    exact q D vs _ (e1.no hD) (e1.tr e2) upd_same (es.ex e2)
end
end GL
namespace Mine
open PySem PySem.Spec PyProof.Rows L2 GL
def topS (i : Nat) : Stmt := PySem.Challenge.pw_priceblind_k00_errors_of_the_store.main.body.getD i (.Pass ⟨0, 0, 0, 0⟩)
abbrev s_Lbin : Stmt := topS 20
abbrev N_Lbin : List Str := ["_law_script", "_law_cell"]
abbrev P_Lbin : List Str := ["_law_script"]
theorem sc_Lbin : FnScope N_Lbin P_Lbin (defScope s_Lbin) := ⟨rfl, rfl, rfl, by decide +kernel, rfl, by decide +kernel, by decide +kernel⟩
abbrev s_Lreach : Stmt := topS 21
abbrev N_Lreach : List Str := ["_law_bin_here", "_law_many", "_law_left", "_law_turn", "_law_cell", "_law_mixed"]
abbrev P_Lreach : List Str := ["_law_bin_here", "_law_many"]
theorem sc_Lreach : FnScope N_Lreach P_Lreach (defScope s_Lreach) := ⟨rfl, rfl, rfl, by decide +kernel, rfl, by decide +kernel, by decide +kernel⟩
abbrev s_Lpick : Stmt := topS 22
abbrev N_Lpick : List Str := ["_law_bin_here", "_law_some"]
abbrev P_Lpick : List Str := ["_law_bin_here", "_law_some"]
theorem sc_Lpick : FnScope N_Lpick P_Lpick (defScope s_Lpick) := ⟨rfl, rfl, rfl, by decide +kernel, rfl, by decide +kernel, by decide +kernel⟩
abbrev s_Lthing : Stmt := topS 23
abbrev N_Lthing : List Str := ["_law_bin_here", "_law_number", "_law_some"]
abbrev P_Lthing : List Str := ["_law_bin_here"]
theorem sc_Lthing : FnScope N_Lthing P_Lthing (defScope s_Lthing) := ⟨rfl, rfl, rfl, by decide +kernel, rfl, by decide +kernel, by decide +kernel⟩
abbrev s_Lclasses : Stmt := topS 24
abbrev N_Lclasses : List Str := ["_law_error", "_law_found"]
abbrev P_Lclasses : List Str := ["_law_error"]
theorem sc_Lclasses : FnScope N_Lclasses P_Lclasses (defScope s_Lclasses) := ⟨rfl, rfl, rfl, by decide +kernel, rfl, by decide +kernel, by decide +kernel⟩
abbrev s_Lalone : Stmt := topS 25
abbrev N_Lalone : List Str := ["_law_error", "_law_spot", "_law_at"]
abbrev P_Lalone : List Str := ["_law_error", "_law_spot"]
theorem sc_Lalone : FnScope N_Lalone P_Lalone (defScope s_Lalone) := ⟨rfl, rfl, rfl, by decide +kernel, rfl, by decide +kernel, by decide +kernel⟩
abbrev s_Lparts_right : Stmt := topS 26
abbrev N_Lparts_right : List Str := ["_law_one", "_law_made", "_law_named", "_law_spot", "_law_errors", "_law_error"]
abbrev P_Lparts_right : List Str := ["_law_one"]
theorem sc_Lparts_right : FnScope N_Lparts_right P_Lparts_right (defScope s_Lparts_right) := ⟨rfl, rfl, rfl, by decide +kernel, rfl, by decide +kernel, by decide +kernel⟩
abbrev s_Lfields_right : Stmt := topS 27
abbrev N_Lfields_right : List Str := ["_law_one", "_law_other", "_law_rows", "_law_told", "_law_row", "_law_error", "_law_missing"]
abbrev P_Lfields_right : List Str := ["_law_one", "_law_other"]
theorem sc_Lfields_right : FnScope N_Lfields_right P_Lfields_right (defScope s_Lfields_right) := ⟨rfl, rfl, rfl, by decide +kernel, rfl, by decide +kernel, by decide +kernel⟩
abbrev s_Lcaught : Stmt := topS 28
abbrev N_Lcaught : List Str := ["_law_one", "_law_found", "caught"]
abbrev P_Lcaught : List Str := ["_law_one"]
theorem sc_Lcaught : FnScope N_Lcaught P_Lcaught (defScope s_Lcaught) := ⟨rfl, rfl, rfl, by decide +kernel, rfl, by decide +kernel, by decide +kernel⟩
abbrev s_law : Stmt := topS 29
abbrev N_law : List Str := ["_law_script", "_law_bin_here", "_law_turn", "_law_one", "_law_other"]
abbrev P_law : List Str := ["_law_script"]
theorem sc_law : FnScope N_law P_law (defScope s_law) := ⟨rfl, rfl, rfl, by decide +kernel, rfl, by decide +kernel, by decide +kernel⟩
def clsBody : Stmt → List Stmt
  | .ClassDef _ _ _ b _ _ _ _ _ _ _ => b
  | _ => []
abbrev s_BadNumber_init : Stmt := (clsBody (topS 2)).getD 0 (.Pass ⟨0, 0, 0, 0⟩)
abbrev N_BadNumber_init : List Str := ["self", "part"]
theorem sc_BadNumber_init : FnScope N_BadNumber_init N_BadNumber_init (defScope s_BadNumber_init) := ⟨rfl, rfl, rfl, by decide +kernel, rfl, by decide +kernel, by decide +kernel⟩
abbrev s_BadName_init : Stmt := (clsBody (topS 3)).getD 0 (.Pass ⟨0, 0, 0, 0⟩)
abbrev N_BadName_init : List Str := ["self", "part"]
theorem sc_BadName_init : FnScope N_BadName_init N_BadName_init (defScope s_BadName_init) := ⟨rfl, rfl, rfl, by decide +kernel, rfl, by decide +kernel, by decide +kernel⟩
abbrev s_BadContents_init : Stmt := (clsBody (topS 4)).getD 0 (.Pass ⟨0, 0, 0, 0⟩)
abbrev N_BadContents_init : List Str := ["self", "part"]
theorem sc_BadContents_init : FnScope N_BadContents_init N_BadContents_init (defScope s_BadContents_init) := ⟨rfl, rfl, rfl, by decide +kernel, rfl, by decide +kernel, by decide +kernel⟩
abbrev s_BadDisk_init : Stmt := (clsBody (topS 5)).getD 0 (.Pass ⟨0, 0, 0, 0⟩)
abbrev N_BadDisk_init : List Str := ["self", "part"]
theorem sc_BadDisk_init : FnScope N_BadDisk_init N_BadDisk_init (defScope s_BadDisk_init) := ⟨rfl, rfl, rfl, by decide +kernel, rfl, by decide +kernel, by decide +kernel⟩
abbrev s_BadLayout_init : Stmt := (clsBody (topS 6)).getD 0 (.Pass ⟨0, 0, 0, 0⟩)
abbrev N_BadLayout_init : List Str := ["self", "part"]
theorem sc_BadLayout_init : FnScope N_BadLayout_init N_BadLayout_init (defScope s_BadLayout_init) := ⟨rfl, rfl, rfl, by decide +kernel, rfl, by decide +kernel, by decide +kernel⟩
abbrev s_BadDeeds_init : Stmt := (clsBody (topS 7)).getD 0 (.Pass ⟨0, 0, 0, 0⟩)
abbrev N_BadDeeds_init : List Str := ["self", "part"]
theorem sc_BadDeeds_init : FnScope N_BadDeeds_init N_BadDeeds_init (defScope s_BadDeeds_init) := ⟨rfl, rfl, rfl, by decide +kernel, rfl, by decide +kernel, by decide +kernel⟩
abbrev s_BadPrices_init : Stmt := (clsBody (topS 8)).getD 0 (.Pass ⟨0, 0, 0, 0⟩)
abbrev N_BadPrices_init : List Str := ["self", "part"]
theorem sc_BadPrices_init : FnScope N_BadPrices_init N_BadPrices_init (defScope s_BadPrices_init) := ⟨rfl, rfl, rfl, by decide +kernel, rfl, by decide +kernel, by decide +kernel⟩
abbrev s_BadStore_init : Stmt := (clsBody (topS 9)).getD 0 (.Pass ⟨0, 0, 0, 0⟩)
abbrev N_BadStore_init : List Str := ["self", "part"]
theorem sc_BadStore_init : FnScope N_BadStore_init N_BadStore_init (defScope s_BadStore_init) := ⟨rfl, rfl, rfl, by decide +kernel, rfl, by decide +kernel, by decide +kernel⟩
abbrev s_Misfit_init : Stmt := (clsBody (topS 10)).getD 0 (.Pass ⟨0, 0, 0, 0⟩)
abbrev N_Misfit_init : List Str := ["self", "part"]
theorem sc_Misfit_init : FnScope N_Misfit_init N_Misfit_init (defScope s_Misfit_init) := ⟨rfl, rfl, rfl, by decide +kernel, rfl, by decide +kernel, by decide +kernel⟩
abbrev s_Missing_init : Stmt := (clsBody (topS 11)).getD 0 (.Pass ⟨0, 0, 0, 0⟩)
abbrev N_Missing_init : List Str := ["self", "value"]
theorem sc_Missing_init : FnScope N_Missing_init N_Missing_init (defScope s_Missing_init) := ⟨rfl, rfl, rfl, by decide +kernel, rfl, by decide +kernel, by decide +kernel⟩
abbrev s_NoFile_init : Stmt := (clsBody (topS 12)).getD 0 (.Pass ⟨0, 0, 0, 0⟩)
abbrev N_NoFile_init : List Str := ["self", "value"]
theorem sc_NoFile_init : FnScope N_NoFile_init N_NoFile_init (defScope s_NoFile_init) := ⟨rfl, rfl, rfl, by decide +kernel, rfl, by decide +kernel, by decide +kernel⟩
abbrev s_NoView_init : Stmt := (clsBody (topS 13)).getD 0 (.Pass ⟨0, 0, 0, 0⟩)
abbrev N_NoView_init : List Str := ["self", "value"]
theorem sc_NoView_init : FnScope N_NoView_init N_NoView_init (defScope s_NoView_init) := ⟨rfl, rfl, rfl, by decide +kernel, rfl, by decide +kernel, by decide +kernel⟩
abbrev s_Twice_init : Stmt := (clsBody (topS 14)).getD 0 (.Pass ⟨0, 0, 0, 0⟩)
abbrev N_Twice_init : List Str := ["self", "value"]
theorem sc_Twice_init : FnScope N_Twice_init N_Twice_init (defScope s_Twice_init) := ⟨rfl, rfl, rfl, by decide +kernel, rfl, by decide +kernel, by decide +kernel⟩
abbrev s_TooMany_init : Stmt := (clsBody (topS 15)).getD 0 (.Pass ⟨0, 0, 0, 0⟩)
abbrev N_TooMany_init : List Str := ["self", "what", "most"]
theorem sc_TooMany_init : FnScope N_TooMany_init N_TooMany_init (defScope s_TooMany_init) := ⟨rfl, rfl, rfl, by decide +kernel, rfl, by decide +kernel, by decide +kernel⟩
abbrev s_Impossible_init : Stmt := (clsBody (topS 16)).getD 0 (.Pass ⟨0, 0, 0, 0⟩)
abbrev N_Impossible_init : List Str := ["self", "paper"]
theorem sc_Impossible_init : FnScope N_Impossible_init N_Impossible_init (defScope s_Impossible_init) := ⟨rfl, rfl, rfl, by decide +kernel, rfl, by decide +kernel, by decide +kernel⟩
abbrev s_BadText_init : Stmt := (clsBody (topS 17)).getD 0 (.Pass ⟨0, 0, 0, 0⟩)
abbrev N_BadText_init : List Str := ["self", "item"]
theorem sc_BadText_init : FnScope N_BadText_init N_BadText_init (defScope s_BadText_init) := ⟨rfl, rfl, rfl, by decide +kernel, rfl, by decide +kernel, by decide +kernel⟩
def subT (i j : Nat) : Bool := i == j || j == 0 || (j == 10 && (i == 11 || i == 12))
structure Txt (K : PySem.W.Frag) (mg : Str → Option Value) (fs : Nat → Addr) (fd : Nat → FuncData) (tk : Nat → Tok) (cs : Nat → Addr) : Prop where
  f_Lbin : Fun K "_law_bin" "_law_bin" s_Lbin (fs 0) (fd 0)
  m_Lbin : mg "_law_bin" = some (.ref (fs 0))
  f_Lreach : Fun K "_law_reach" "_law_reach" s_Lreach (fs 1) (fd 1)
  m_Lreach : mg "_law_reach" = some (.ref (fs 1))
  f_Lpick : Fun K "_law_pick" "_law_pick" s_Lpick (fs 2) (fd 2)
  m_Lpick : mg "_law_pick" = some (.ref (fs 2))
  f_Lthing : Fun K "_law_thing" "_law_thing" s_Lthing (fs 3) (fd 3)
  m_Lthing : mg "_law_thing" = some (.ref (fs 3))
  f_Lclasses : Fun K "_law_classes" "_law_classes" s_Lclasses (fs 4) (fd 4)
  m_Lclasses : mg "_law_classes" = some (.ref (fs 4))
  f_Lalone : Fun K "_law_alone" "_law_alone" s_Lalone (fs 5) (fd 5)
  m_Lalone : mg "_law_alone" = some (.ref (fs 5))
  f_Lparts_right : Fun K "_law_parts_right" "_law_parts_right" s_Lparts_right (fs 6) (fd 6)
  m_Lparts_right : mg "_law_parts_right" = some (.ref (fs 6))
  f_Lfields_right : Fun K "_law_fields_right" "_law_fields_right" s_Lfields_right (fs 7) (fd 7)
  m_Lfields_right : mg "_law_fields_right" = some (.ref (fs 7))
  f_Lcaught : Fun K "_law_caught" "_law_caught" s_Lcaught (fs 8) (fd 8)
  m_Lcaught : mg "_law_caught" = some (.ref (fs 8))
  f_law : Fun K "law" "law" s_law (fs 9) (fd 9)
  m_law : mg "law" = some (.ref (fs 9))
  z_ArithmeticError : mg "ArithmeticError" = none
  z_AttributeError : mg "AttributeError" = none
  z_LookupError : mg "LookupError" = none
  z_RuntimeError : mg "RuntimeError" = none
  z_TypeError : mg "TypeError" = none
  z_ValueError : mg "ValueError" = none
  z_abs : mg "abs" = none
  z_enumerate : mg "enumerate" = none
  z_int : mg "int" = none
  z_isinstance : mg "isinstance" = none
  z_len : mg "len" = none
  z_range : mg "range" = none
  z_repr : mg "repr" = none
  z_str : mg "str" = none
  z_zip : mg "zip" = none
  x_StripError : ClsX K (cs 0)
  m_StripError : mg "StripError" = some (.ref (cs 0))
  k_StripError : PySem.W.keepIn K (.ref (cs 0)) = true
  q_StripError : PySem.W.excIn K (cs 0) [.type "ValueError", .type "Exception", .type "BaseException", .type "object"] "ValueError.__new__" = true
  x_BadNumber : ClsX K (cs 1)
  m_BadNumber : mg "BadNumber" = some (.ref (cs 1))
  f_BadNumber_init : Fun K "__init__" "BadNumber.__init__" s_BadNumber_init (fs 10) (fd 10)
  i_BadNumber : PySem.W.findIn K (.ref (cs 1)) "__init__" = some (some (.ref (fs 10)))
  t_BadNumber : PySem.W.typeIn K (.ref (fs 10)) = some (.type "function")
  n_BadNumber_part : PySem.W.findIn K (.ref (cs 1)) "part" = some none
  x_BadName : ClsX K (cs 2)
  m_BadName : mg "BadName" = some (.ref (cs 2))
  f_BadName_init : Fun K "__init__" "BadName.__init__" s_BadName_init (fs 11) (fd 11)
  i_BadName : PySem.W.findIn K (.ref (cs 2)) "__init__" = some (some (.ref (fs 11)))
  t_BadName : PySem.W.typeIn K (.ref (fs 11)) = some (.type "function")
  n_BadName_part : PySem.W.findIn K (.ref (cs 2)) "part" = some none
  x_BadContents : ClsX K (cs 3)
  m_BadContents : mg "BadContents" = some (.ref (cs 3))
  f_BadContents_init : Fun K "__init__" "BadContents.__init__" s_BadContents_init (fs 12) (fd 12)
  i_BadContents : PySem.W.findIn K (.ref (cs 3)) "__init__" = some (some (.ref (fs 12)))
  t_BadContents : PySem.W.typeIn K (.ref (fs 12)) = some (.type "function")
  n_BadContents_part : PySem.W.findIn K (.ref (cs 3)) "part" = some none
  x_BadDisk : ClsX K (cs 4)
  m_BadDisk : mg "BadDisk" = some (.ref (cs 4))
  f_BadDisk_init : Fun K "__init__" "BadDisk.__init__" s_BadDisk_init (fs 13) (fd 13)
  i_BadDisk : PySem.W.findIn K (.ref (cs 4)) "__init__" = some (some (.ref (fs 13)))
  t_BadDisk : PySem.W.typeIn K (.ref (fs 13)) = some (.type "function")
  n_BadDisk_part : PySem.W.findIn K (.ref (cs 4)) "part" = some none
  x_BadLayout : ClsX K (cs 5)
  m_BadLayout : mg "BadLayout" = some (.ref (cs 5))
  f_BadLayout_init : Fun K "__init__" "BadLayout.__init__" s_BadLayout_init (fs 14) (fd 14)
  i_BadLayout : PySem.W.findIn K (.ref (cs 5)) "__init__" = some (some (.ref (fs 14)))
  t_BadLayout : PySem.W.typeIn K (.ref (fs 14)) = some (.type "function")
  n_BadLayout_part : PySem.W.findIn K (.ref (cs 5)) "part" = some none
  x_BadDeeds : ClsX K (cs 6)
  m_BadDeeds : mg "BadDeeds" = some (.ref (cs 6))
  f_BadDeeds_init : Fun K "__init__" "BadDeeds.__init__" s_BadDeeds_init (fs 15) (fd 15)
  i_BadDeeds : PySem.W.findIn K (.ref (cs 6)) "__init__" = some (some (.ref (fs 15)))
  t_BadDeeds : PySem.W.typeIn K (.ref (fs 15)) = some (.type "function")
  n_BadDeeds_part : PySem.W.findIn K (.ref (cs 6)) "part" = some none
  x_BadPrices : ClsX K (cs 7)
  m_BadPrices : mg "BadPrices" = some (.ref (cs 7))
  f_BadPrices_init : Fun K "__init__" "BadPrices.__init__" s_BadPrices_init (fs 16) (fd 16)
  i_BadPrices : PySem.W.findIn K (.ref (cs 7)) "__init__" = some (some (.ref (fs 16)))
  t_BadPrices : PySem.W.typeIn K (.ref (fs 16)) = some (.type "function")
  n_BadPrices_part : PySem.W.findIn K (.ref (cs 7)) "part" = some none
  x_BadStore : ClsX K (cs 8)
  m_BadStore : mg "BadStore" = some (.ref (cs 8))
  f_BadStore_init : Fun K "__init__" "BadStore.__init__" s_BadStore_init (fs 17) (fd 17)
  i_BadStore : PySem.W.findIn K (.ref (cs 8)) "__init__" = some (some (.ref (fs 17)))
  t_BadStore : PySem.W.typeIn K (.ref (fs 17)) = some (.type "function")
  n_BadStore_part : PySem.W.findIn K (.ref (cs 8)) "part" = some none
  x_Misfit : ClsX K (cs 9)
  m_Misfit : mg "Misfit" = some (.ref (cs 9))
  f_Misfit_init : Fun K "__init__" "Misfit.__init__" s_Misfit_init (fs 18) (fd 18)
  i_Misfit : PySem.W.findIn K (.ref (cs 9)) "__init__" = some (some (.ref (fs 18)))
  t_Misfit : PySem.W.typeIn K (.ref (fs 18)) = some (.type "function")
  n_Misfit_part : PySem.W.findIn K (.ref (cs 9)) "part" = some none
  x_Missing : ClsX K (cs 10)
  m_Missing : mg "Missing" = some (.ref (cs 10))
  f_Missing_init : Fun K "__init__" "Missing.__init__" s_Missing_init (fs 19) (fd 19)
  i_Missing : PySem.W.findIn K (.ref (cs 10)) "__init__" = some (some (.ref (fs 19)))
  t_Missing : PySem.W.typeIn K (.ref (fs 19)) = some (.type "function")
  n_Missing_value : PySem.W.findIn K (.ref (cs 10)) "value" = some none
  x_NoFile : ClsX K (cs 11)
  m_NoFile : mg "NoFile" = some (.ref (cs 11))
  f_NoFile_init : Fun K "__init__" "NoFile.__init__" s_NoFile_init (fs 20) (fd 20)
  i_NoFile : PySem.W.findIn K (.ref (cs 11)) "__init__" = some (some (.ref (fs 20)))
  t_NoFile : PySem.W.typeIn K (.ref (fs 20)) = some (.type "function")
  n_NoFile_value : PySem.W.findIn K (.ref (cs 11)) "value" = some none
  x_NoView : ClsX K (cs 12)
  m_NoView : mg "NoView" = some (.ref (cs 12))
  f_NoView_init : Fun K "__init__" "NoView.__init__" s_NoView_init (fs 21) (fd 21)
  i_NoView : PySem.W.findIn K (.ref (cs 12)) "__init__" = some (some (.ref (fs 21)))
  t_NoView : PySem.W.typeIn K (.ref (fs 21)) = some (.type "function")
  n_NoView_value : PySem.W.findIn K (.ref (cs 12)) "value" = some none
  x_Twice : ClsX K (cs 13)
  m_Twice : mg "Twice" = some (.ref (cs 13))
  f_Twice_init : Fun K "__init__" "Twice.__init__" s_Twice_init (fs 22) (fd 22)
  i_Twice : PySem.W.findIn K (.ref (cs 13)) "__init__" = some (some (.ref (fs 22)))
  t_Twice : PySem.W.typeIn K (.ref (fs 22)) = some (.type "function")
  n_Twice_value : PySem.W.findIn K (.ref (cs 13)) "value" = some none
  x_TooMany : ClsX K (cs 14)
  m_TooMany : mg "TooMany" = some (.ref (cs 14))
  f_TooMany_init : Fun K "__init__" "TooMany.__init__" s_TooMany_init (fs 23) (fd 23)
  i_TooMany : PySem.W.findIn K (.ref (cs 14)) "__init__" = some (some (.ref (fs 23)))
  t_TooMany : PySem.W.typeIn K (.ref (fs 23)) = some (.type "function")
  n_TooMany_what : PySem.W.findIn K (.ref (cs 14)) "what" = some none
  n_TooMany_most : PySem.W.findIn K (.ref (cs 14)) "most" = some none
  x_Impossible : ClsX K (cs 15)
  m_Impossible : mg "Impossible" = some (.ref (cs 15))
  f_Impossible_init : Fun K "__init__" "Impossible.__init__" s_Impossible_init (fs 24) (fd 24)
  i_Impossible : PySem.W.findIn K (.ref (cs 15)) "__init__" = some (some (.ref (fs 24)))
  t_Impossible : PySem.W.typeIn K (.ref (fs 24)) = some (.type "function")
  n_Impossible_paper : PySem.W.findIn K (.ref (cs 15)) "paper" = some none
  x_BadText : ClsX K (cs 16)
  m_BadText : mg "BadText" = some (.ref (cs 16))
  f_BadText_init : Fun K "__init__" "BadText.__init__" s_BadText_init (fs 25) (fd 25)
  i_BadText : PySem.W.findIn K (.ref (cs 16)) "__init__" = some (some (.ref (fs 25)))
  t_BadText : PySem.W.typeIn K (.ref (fs 25)) = some (.type "function")
  n_BadText_item : PySem.W.findIn K (.ref (cs 16)) "item" = some none
  x_Out : ClsX K (cs 17)
  m_Out : mg "Out" = some (.ref (cs 17))
  k_Out : PySem.W.keepIn K (.ref (cs 17)) = true
  q_Out : PySem.W.excIn K (cs 17) [.type "ValueError", .type "Exception", .type "BaseException", .type "object"] "ValueError.__new__" = true
  isi : ∀ i j, i < 18 → j < 18 → PySem.W.kitOne K (.ref (cs i)) (.ref (cs j)) = some (subT i j)
  isv : ∀ i, i < 18 → PySem.W.kitOne K (.ref (cs i)) (.type "ValueError") = some true
  isn : ∀ i, i < 18 → PySem.W.kitAny K (.ref (cs i)) [.type "TypeError", .type "LookupError", .type "ArithmeticError", .type "RuntimeError", .type "AttributeError"] = some false
  ex1 : PySem.W.exmAny K (.ref (cs 9)) [.ref (cs 1), .ref (cs 10), .ref (cs 17)] = some false
  ex2 : PySem.W.exmOne K (.ref (cs 9)) (.ref (cs 0)) = some true
  ex3 : PySem.W.exmAny K (.ref (cs 12)) [.ref (cs 11), .ref (cs 9)] = some false
  ex4 : PySem.W.exmOne K (.ref (cs 12)) (.ref (cs 10)) = some true
  ex5 : PySem.W.exmOne K (.ref (cs 17)) (.ref (cs 0)) = some true
section
variable {K : PySem.W.Frag} {mg : Str → Option Value} {fs : Nat → Addr} {fd : Nat → FuncData} {tk : Nat → Tok} {cs : Nat → Addr}
theorem b_Lbin (T : Txt K mg fs fd tk cs) : Binds K (fd 0) P_Lbin [] := T.f_Lbin.binds fun _ _ _ _ _ _ us hl => match us, hl with | [_], _ => rfl
theorem b_Lreach (T : Txt K mg fs fd tk cs) : Binds K (fd 1) P_Lreach [] := T.f_Lreach.binds fun _ _ _ _ _ _ us hl => match us, hl with | [_, _], _ => rfl
theorem b_Lpick (T : Txt K mg fs fd tk cs) : Binds K (fd 2) P_Lpick [] := T.f_Lpick.binds fun _ _ _ _ _ _ us hl => match us, hl with | [_, _], _ => rfl
theorem b_Lthing (T : Txt K mg fs fd tk cs) : Binds K (fd 3) P_Lthing [] := T.f_Lthing.binds fun _ _ _ _ _ _ us hl => match us, hl with | [_], _ => rfl
theorem b_Lclasses (T : Txt K mg fs fd tk cs) : Binds K (fd 4) P_Lclasses [] := T.f_Lclasses.binds fun _ _ _ _ _ _ us hl => match us, hl with | [_], _ => rfl
theorem b_Lalone (T : Txt K mg fs fd tk cs) : Binds K (fd 5) P_Lalone [] := T.f_Lalone.binds fun _ _ _ _ _ _ us hl => match us, hl with | [_, _], _ => rfl
theorem b_Lparts_right (T : Txt K mg fs fd tk cs) : Binds K (fd 6) P_Lparts_right [] := T.f_Lparts_right.binds fun _ _ _ _ _ _ us hl => match us, hl with | [_], _ => rfl
theorem b_Lfields_right (T : Txt K mg fs fd tk cs) : Binds K (fd 7) P_Lfields_right [] := T.f_Lfields_right.binds fun _ _ _ _ _ _ us hl => match us, hl with | [_, _], _ => rfl
theorem b_Lcaught (T : Txt K mg fs fd tk cs) : Binds K (fd 8) P_Lcaught [] := T.f_Lcaught.binds fun _ _ _ _ _ _ us hl => match us, hl with | [_], _ => rfl
theorem b_law (T : Txt K mg fs fd tk cs) : Binds K (fd 9) P_law [] := T.f_law.binds fun _ _ _ _ _ _ us hl => match us, hl with | [_], _ => rfl
theorem b_BadNumber_init (T : Txt K mg fs fd tk cs) : Binds K (fd 10) N_BadNumber_init [] := T.f_BadNumber_init.binds fun _ _ _ _ _ _ us hl => match us, hl with | [_, _], _ => rfl
theorem b_BadName_init (T : Txt K mg fs fd tk cs) : Binds K (fd 11) N_BadName_init [] := T.f_BadName_init.binds fun _ _ _ _ _ _ us hl => match us, hl with | [_, _], _ => rfl
theorem b_BadContents_init (T : Txt K mg fs fd tk cs) : Binds K (fd 12) N_BadContents_init [] := T.f_BadContents_init.binds fun _ _ _ _ _ _ us hl => match us, hl with | [_, _], _ => rfl
theorem b_BadDisk_init (T : Txt K mg fs fd tk cs) : Binds K (fd 13) N_BadDisk_init [] := T.f_BadDisk_init.binds fun _ _ _ _ _ _ us hl => match us, hl with | [_, _], _ => rfl
theorem b_BadLayout_init (T : Txt K mg fs fd tk cs) : Binds K (fd 14) N_BadLayout_init [] := T.f_BadLayout_init.binds fun _ _ _ _ _ _ us hl => match us, hl with | [_, _], _ => rfl
theorem b_BadDeeds_init (T : Txt K mg fs fd tk cs) : Binds K (fd 15) N_BadDeeds_init [] := T.f_BadDeeds_init.binds fun _ _ _ _ _ _ us hl => match us, hl with | [_, _], _ => rfl
theorem b_BadPrices_init (T : Txt K mg fs fd tk cs) : Binds K (fd 16) N_BadPrices_init [] := T.f_BadPrices_init.binds fun _ _ _ _ _ _ us hl => match us, hl with | [_, _], _ => rfl
theorem b_BadStore_init (T : Txt K mg fs fd tk cs) : Binds K (fd 17) N_BadStore_init [] := T.f_BadStore_init.binds fun _ _ _ _ _ _ us hl => match us, hl with | [_, _], _ => rfl
theorem b_Misfit_init (T : Txt K mg fs fd tk cs) : Binds K (fd 18) N_Misfit_init [] := T.f_Misfit_init.binds fun _ _ _ _ _ _ us hl => match us, hl with | [_, _], _ => rfl
theorem b_Missing_init (T : Txt K mg fs fd tk cs) : Binds K (fd 19) N_Missing_init [] := T.f_Missing_init.binds fun _ _ _ _ _ _ us hl => match us, hl with | [_, _], _ => rfl
theorem b_NoFile_init (T : Txt K mg fs fd tk cs) : Binds K (fd 20) N_NoFile_init [] := T.f_NoFile_init.binds fun _ _ _ _ _ _ us hl => match us, hl with | [_, _], _ => rfl
theorem b_NoView_init (T : Txt K mg fs fd tk cs) : Binds K (fd 21) N_NoView_init [] := T.f_NoView_init.binds fun _ _ _ _ _ _ us hl => match us, hl with | [_, _], _ => rfl
theorem b_Twice_init (T : Txt K mg fs fd tk cs) : Binds K (fd 22) N_Twice_init [] := T.f_Twice_init.binds fun _ _ _ _ _ _ us hl => match us, hl with | [_, _], _ => rfl
theorem b_TooMany_init (T : Txt K mg fs fd tk cs) : Binds K (fd 23) N_TooMany_init [] := T.f_TooMany_init.binds fun _ _ _ _ _ _ us hl => match us, hl with | [_, _, _], _ => rfl
theorem b_Impossible_init (T : Txt K mg fs fd tk cs) : Binds K (fd 24) N_Impossible_init [] := T.f_Impossible_init.binds fun _ _ _ _ _ _ us hl => match us, hl with | [_, _], _ => rfl
theorem b_BadText_init (T : Txt K mg fs fd tk cs) : Binds K (fd 25) N_BadText_init [] := T.f_BadText_init.binds fun _ _ _ _ _ _ us hl => match us, hl with | [_, _], _ => rfl
def g_kw_BadLayout_init_1_part {α : Type} (us ws : List α) : List α := match us, ws with
  | [u0], [w0] => [u0, w0]
  | _, _ => []
theorem kw_BadLayout_init_1_part (T : Txt K mg fs fd tk cs) : KwB K (fd 14) N_BadLayout_init 1 ["part"] g_kw_BadLayout_init_1_part := by
  obtain ⟨oc, od, kV, doc, pm, an, cd, ct, osl, e, _⟩ := T.f_BadLayout_init.ex
  refine ⟨fun s us ws h1 h2 => ?_, fun {vs us zs ws} h1 h2 r1 r2 => ?_⟩
  · rw [e]
    exact match us, ws, h1, h2 with | [_], [_], _, _ => .of_eq rfl
  · exact match vs, us, zs, ws, r1, r2, h1, h2 with | [_], [_], [_], [_], (.cons ru0 (.nil)), (.cons rw0 (.nil)), _, _ => .cons ru0 (.cons rw0 (.nil))
theorem hgc_BadLayout {α : Type} (a : α) (ws : List α) (h : ws.length = 1) : g_kw_BadLayout_init_1_part [a] ws = a :: gcI [] ws := match ws, h with | [_], _ => rfl
def g_kw_BadDisk_init_1_part {α : Type} (us ws : List α) : List α := match us, ws with
  | [u0], [w0] => [u0, w0]
  | _, _ => []
theorem kw_BadDisk_init_1_part (T : Txt K mg fs fd tk cs) : KwB K (fd 13) N_BadDisk_init 1 ["part"] g_kw_BadDisk_init_1_part := by
  obtain ⟨oc, od, kV, doc, pm, an, cd, ct, osl, e, _⟩ := T.f_BadDisk_init.ex
  refine ⟨fun s us ws h1 h2 => ?_, fun {vs us zs ws} h1 h2 r1 r2 => ?_⟩
  · rw [e]
    exact match us, ws, h1, h2 with | [_], [_], _, _ => .of_eq rfl
  · exact match vs, us, zs, ws, r1, r2, h1, h2 with | [_], [_], [_], [_], (.cons ru0 (.nil)), (.cons rw0 (.nil)), _, _ => .cons ru0 (.cons rw0 (.nil))
theorem hgc_BadDisk {α : Type} (a : α) (ws : List α) (h : ws.length = 1) : g_kw_BadDisk_init_1_part [a] ws = a :: gcI [] ws := match ws, h with | [_], _ => rfl
def g_kw_BadContents_init_1_part {α : Type} (us ws : List α) : List α := match us, ws with
  | [u0], [w0] => [u0, w0]
  | _, _ => []
theorem kw_BadContents_init_1_part (T : Txt K mg fs fd tk cs) : KwB K (fd 12) N_BadContents_init 1 ["part"] g_kw_BadContents_init_1_part := by
  obtain ⟨oc, od, kV, doc, pm, an, cd, ct, osl, e, _⟩ := T.f_BadContents_init.ex
  refine ⟨fun s us ws h1 h2 => ?_, fun {vs us zs ws} h1 h2 r1 r2 => ?_⟩
  · rw [e]
    exact match us, ws, h1, h2 with | [_], [_], _, _ => .of_eq rfl
  · exact match vs, us, zs, ws, r1, r2, h1, h2 with | [_], [_], [_], [_], (.cons ru0 (.nil)), (.cons rw0 (.nil)), _, _ => .cons ru0 (.cons rw0 (.nil))
theorem hgc_BadContents {α : Type} (a : α) (ws : List α) (h : ws.length = 1) : g_kw_BadContents_init_1_part [a] ws = a :: gcI [] ws := match ws, h with | [_], _ => rfl
def g_kw_BadName_init_1_part {α : Type} (us ws : List α) : List α := match us, ws with
  | [u0], [w0] => [u0, w0]
  | _, _ => []
theorem kw_BadName_init_1_part (T : Txt K mg fs fd tk cs) : KwB K (fd 11) N_BadName_init 1 ["part"] g_kw_BadName_init_1_part := by
  obtain ⟨oc, od, kV, doc, pm, an, cd, ct, osl, e, _⟩ := T.f_BadName_init.ex
  refine ⟨fun s us ws h1 h2 => ?_, fun {vs us zs ws} h1 h2 r1 r2 => ?_⟩
  · rw [e]
    exact match us, ws, h1, h2 with | [_], [_], _, _ => .of_eq rfl
  · exact match vs, us, zs, ws, r1, r2, h1, h2 with | [_], [_], [_], [_], (.cons ru0 (.nil)), (.cons rw0 (.nil)), _, _ => .cons ru0 (.cons rw0 (.nil))
theorem hgc_BadName {α : Type} (a : α) (ws : List α) (h : ws.length = 1) : g_kw_BadName_init_1_part [a] ws = a :: gcI [] ws := match ws, h with | [_], _ => rfl
def g_kw_BadNumber_init_1_part {α : Type} (us ws : List α) : List α := match us, ws with
  | [u0], [w0] => [u0, w0]
  | _, _ => []
theorem kw_BadNumber_init_1_part (T : Txt K mg fs fd tk cs) : KwB K (fd 10) N_BadNumber_init 1 ["part"] g_kw_BadNumber_init_1_part := by
  obtain ⟨oc, od, kV, doc, pm, an, cd, ct, osl, e, _⟩ := T.f_BadNumber_init.ex
  refine ⟨fun s us ws h1 h2 => ?_, fun {vs us zs ws} h1 h2 r1 r2 => ?_⟩
  · rw [e]
    exact match us, ws, h1, h2 with | [_], [_], _, _ => .of_eq rfl
  · exact match vs, us, zs, ws, r1, r2, h1, h2 with | [_], [_], [_], [_], (.cons ru0 (.nil)), (.cons rw0 (.nil)), _, _ => .cons ru0 (.cons rw0 (.nil))
theorem hgc_BadNumber {α : Type} (a : α) (ws : List α) (h : ws.length = 1) : g_kw_BadNumber_init_1_part [a] ws = a :: gcI [] ws := match ws, h with | [_], _ => rfl
def g_kw_Misfit_init_1_part {α : Type} (us ws : List α) : List α := match us, ws with
  | [u0], [w0] => [u0, w0]
  | _, _ => []
theorem kw_Misfit_init_1_part (T : Txt K mg fs fd tk cs) : KwB K (fd 18) N_Misfit_init 1 ["part"] g_kw_Misfit_init_1_part := by
  obtain ⟨oc, od, kV, doc, pm, an, cd, ct, osl, e, _⟩ := T.f_Misfit_init.ex
  refine ⟨fun s us ws h1 h2 => ?_, fun {vs us zs ws} h1 h2 r1 r2 => ?_⟩
  · rw [e]
    exact match us, ws, h1, h2 with | [_], [_], _, _ => .of_eq rfl
  · exact match vs, us, zs, ws, r1, r2, h1, h2 with | [_], [_], [_], [_], (.cons ru0 (.nil)), (.cons rw0 (.nil)), _, _ => .cons ru0 (.cons rw0 (.nil))
theorem hgc_Misfit {α : Type} (a : α) (ws : List α) (h : ws.length = 1) : g_kw_Misfit_init_1_part [a] ws = a :: gcI [] ws := match ws, h with | [_], _ => rfl
def g_kw_BadStore_init_1_part {α : Type} (us ws : List α) : List α := match us, ws with
  | [u0], [w0] => [u0, w0]
  | _, _ => []
theorem kw_BadStore_init_1_part (T : Txt K mg fs fd tk cs) : KwB K (fd 17) N_BadStore_init 1 ["part"] g_kw_BadStore_init_1_part := by
  obtain ⟨oc, od, kV, doc, pm, an, cd, ct, osl, e, _⟩ := T.f_BadStore_init.ex
  refine ⟨fun s us ws h1 h2 => ?_, fun {vs us zs ws} h1 h2 r1 r2 => ?_⟩
  · rw [e]
    exact match us, ws, h1, h2 with | [_], [_], _, _ => .of_eq rfl
  · exact match vs, us, zs, ws, r1, r2, h1, h2 with | [_], [_], [_], [_], (.cons ru0 (.nil)), (.cons rw0 (.nil)), _, _ => .cons ru0 (.cons rw0 (.nil))
theorem hgc_BadStore {α : Type} (a : α) (ws : List α) (h : ws.length = 1) : g_kw_BadStore_init_1_part [a] ws = a :: gcI [] ws := match ws, h with | [_], _ => rfl
def g_kw_BadPrices_init_1_part {α : Type} (us ws : List α) : List α := match us, ws with
  | [u0], [w0] => [u0, w0]
  | _, _ => []
theorem kw_BadPrices_init_1_part (T : Txt K mg fs fd tk cs) : KwB K (fd 16) N_BadPrices_init 1 ["part"] g_kw_BadPrices_init_1_part := by
  obtain ⟨oc, od, kV, doc, pm, an, cd, ct, osl, e, _⟩ := T.f_BadPrices_init.ex
  refine ⟨fun s us ws h1 h2 => ?_, fun {vs us zs ws} h1 h2 r1 r2 => ?_⟩
  · rw [e]
    exact match us, ws, h1, h2 with | [_], [_], _, _ => .of_eq rfl
  · exact match vs, us, zs, ws, r1, r2, h1, h2 with | [_], [_], [_], [_], (.cons ru0 (.nil)), (.cons rw0 (.nil)), _, _ => .cons ru0 (.cons rw0 (.nil))
theorem hgc_BadPrices {α : Type} (a : α) (ws : List α) (h : ws.length = 1) : g_kw_BadPrices_init_1_part [a] ws = a :: gcI [] ws := match ws, h with | [_], _ => rfl
def g_kw_BadDeeds_init_1_part {α : Type} (us ws : List α) : List α := match us, ws with
  | [u0], [w0] => [u0, w0]
  | _, _ => []
theorem kw_BadDeeds_init_1_part (T : Txt K mg fs fd tk cs) : KwB K (fd 15) N_BadDeeds_init 1 ["part"] g_kw_BadDeeds_init_1_part := by
  obtain ⟨oc, od, kV, doc, pm, an, cd, ct, osl, e, _⟩ := T.f_BadDeeds_init.ex
  refine ⟨fun s us ws h1 h2 => ?_, fun {vs us zs ws} h1 h2 r1 r2 => ?_⟩
  · rw [e]
    exact match us, ws, h1, h2 with | [_], [_], _, _ => .of_eq rfl
  · exact match vs, us, zs, ws, r1, r2, h1, h2 with | [_], [_], [_], [_], (.cons ru0 (.nil)), (.cons rw0 (.nil)), _, _ => .cons ru0 (.cons rw0 (.nil))
theorem hgc_BadDeeds {α : Type} (a : α) (ws : List α) (h : ws.length = 1) : g_kw_BadDeeds_init_1_part [a] ws = a :: gcI [] ws := match ws, h with | [_], _ => rfl
def g_kw_Twice_init_1_value {α : Type} (us ws : List α) : List α := match us, ws with
  | [u0], [w0] => [u0, w0]
  | _, _ => []
theorem kw_Twice_init_1_value (T : Txt K mg fs fd tk cs) : KwB K (fd 22) N_Twice_init 1 ["value"] g_kw_Twice_init_1_value := by
  obtain ⟨oc, od, kV, doc, pm, an, cd, ct, osl, e, _⟩ := T.f_Twice_init.ex
  refine ⟨fun s us ws h1 h2 => ?_, fun {vs us zs ws} h1 h2 r1 r2 => ?_⟩
  · rw [e]
    exact match us, ws, h1, h2 with | [_], [_], _, _ => .of_eq rfl
  · exact match vs, us, zs, ws, r1, r2, h1, h2 with | [_], [_], [_], [_], (.cons ru0 (.nil)), (.cons rw0 (.nil)), _, _ => .cons ru0 (.cons rw0 (.nil))
theorem hgc_Twice {α : Type} (a : α) (ws : List α) (h : ws.length = 1) : g_kw_Twice_init_1_value [a] ws = a :: gcI [] ws := match ws, h with | [_], _ => rfl
def g_kw_NoView_init_1_value {α : Type} (us ws : List α) : List α := match us, ws with
  | [u0], [w0] => [u0, w0]
  | _, _ => []
theorem kw_NoView_init_1_value (T : Txt K mg fs fd tk cs) : KwB K (fd 21) N_NoView_init 1 ["value"] g_kw_NoView_init_1_value := by
  obtain ⟨oc, od, kV, doc, pm, an, cd, ct, osl, e, _⟩ := T.f_NoView_init.ex
  refine ⟨fun s us ws h1 h2 => ?_, fun {vs us zs ws} h1 h2 r1 r2 => ?_⟩
  · rw [e]
    exact match us, ws, h1, h2 with | [_], [_], _, _ => .of_eq rfl
  · exact match vs, us, zs, ws, r1, r2, h1, h2 with | [_], [_], [_], [_], (.cons ru0 (.nil)), (.cons rw0 (.nil)), _, _ => .cons ru0 (.cons rw0 (.nil))
theorem hgc_NoView {α : Type} (a : α) (ws : List α) (h : ws.length = 1) : g_kw_NoView_init_1_value [a] ws = a :: gcI [] ws := match ws, h with | [_], _ => rfl
def g_kw_NoFile_init_1_value {α : Type} (us ws : List α) : List α := match us, ws with
  | [u0], [w0] => [u0, w0]
  | _, _ => []
theorem kw_NoFile_init_1_value (T : Txt K mg fs fd tk cs) : KwB K (fd 20) N_NoFile_init 1 ["value"] g_kw_NoFile_init_1_value := by
  obtain ⟨oc, od, kV, doc, pm, an, cd, ct, osl, e, _⟩ := T.f_NoFile_init.ex
  refine ⟨fun s us ws h1 h2 => ?_, fun {vs us zs ws} h1 h2 r1 r2 => ?_⟩
  · rw [e]
    exact match us, ws, h1, h2 with | [_], [_], _, _ => .of_eq rfl
  · exact match vs, us, zs, ws, r1, r2, h1, h2 with | [_], [_], [_], [_], (.cons ru0 (.nil)), (.cons rw0 (.nil)), _, _ => .cons ru0 (.cons rw0 (.nil))
theorem hgc_NoFile {α : Type} (a : α) (ws : List α) (h : ws.length = 1) : g_kw_NoFile_init_1_value [a] ws = a :: gcI [] ws := match ws, h with | [_], _ => rfl
def g_kw_BadText_init_1_item {α : Type} (us ws : List α) : List α := match us, ws with
  | [u0], [w0] => [u0, w0]
  | _, _ => []
theorem kw_BadText_init_1_item (T : Txt K mg fs fd tk cs) : KwB K (fd 25) N_BadText_init 1 ["item"] g_kw_BadText_init_1_item := by
  obtain ⟨oc, od, kV, doc, pm, an, cd, ct, osl, e, _⟩ := T.f_BadText_init.ex
  refine ⟨fun s us ws h1 h2 => ?_, fun {vs us zs ws} h1 h2 r1 r2 => ?_⟩
  · rw [e]
    exact match us, ws, h1, h2 with | [_], [_], _, _ => .of_eq rfl
  · exact match vs, us, zs, ws, r1, r2, h1, h2 with | [_], [_], [_], [_], (.cons ru0 (.nil)), (.cons rw0 (.nil)), _, _ => .cons ru0 (.cons rw0 (.nil))
theorem hgc_BadText {α : Type} (a : α) (ws : List α) (h : ws.length = 1) : g_kw_BadText_init_1_item [a] ws = a :: gcI [] ws := match ws, h with | [_], _ => rfl
def g_kw_Impossible_init_1_paper {α : Type} (us ws : List α) : List α := match us, ws with
  | [u0], [w0] => [u0, w0]
  | _, _ => []
theorem kw_Impossible_init_1_paper (T : Txt K mg fs fd tk cs) : KwB K (fd 24) N_Impossible_init 1 ["paper"] g_kw_Impossible_init_1_paper := by
  obtain ⟨oc, od, kV, doc, pm, an, cd, ct, osl, e, _⟩ := T.f_Impossible_init.ex
  refine ⟨fun s us ws h1 h2 => ?_, fun {vs us zs ws} h1 h2 r1 r2 => ?_⟩
  · rw [e]
    exact match us, ws, h1, h2 with | [_], [_], _, _ => .of_eq rfl
  · exact match vs, us, zs, ws, r1, r2, h1, h2 with | [_], [_], [_], [_], (.cons ru0 (.nil)), (.cons rw0 (.nil)), _, _ => .cons ru0 (.cons rw0 (.nil))
theorem hgc_Impossible {α : Type} (a : α) (ws : List α) (h : ws.length = 1) : g_kw_Impossible_init_1_paper [a] ws = a :: gcI [] ws := match ws, h with | [_], _ => rfl
def g_kw_TooMany_init_1_most_what {α : Type} (us ws : List α) : List α := match us, ws with
  | [u0], [w0, w1] => [u0, w1, w0]
  | _, _ => []
theorem kw_TooMany_init_1_most_what (T : Txt K mg fs fd tk cs) : KwB K (fd 23) N_TooMany_init 1 ["most", "what"] g_kw_TooMany_init_1_most_what := by
  obtain ⟨oc, od, kV, doc, pm, an, cd, ct, osl, e, _⟩ := T.f_TooMany_init.ex
  refine ⟨fun s us ws h1 h2 => ?_, fun {vs us zs ws} h1 h2 r1 r2 => ?_⟩
  · rw [e]
    exact match us, ws, h1, h2 with | [_], [_, _], _, _ => .of_eq rfl
  · exact match vs, us, zs, ws, r1, r2, h1, h2 with | [_], [_], [_, _], [_, _], (.cons ru0 (.nil)), (.cons rw0 (.cons rw1 (.nil))), _, _ => .cons ru0 (.cons rw1 (.cons rw0 (.nil)))
theorem hgc2_TooMany {α : Type} (a : α) (ws : List α) (h : ws.length = 2) : g_kw_TooMany_init_1_most_what [a] ws = a :: gcI2 [] ws := match ws, h with | [_, _], _ => rfl
def g_kw_Missing_init_1_value {α : Type} (us ws : List α) : List α := match us, ws with
  | [u0], [w0] => [u0, w0]
  | _, _ => []
theorem kw_Missing_init_1_value (T : Txt K mg fs fd tk cs) : KwB K (fd 19) N_Missing_init 1 ["value"] g_kw_Missing_init_1_value := by
  obtain ⟨oc, od, kV, doc, pm, an, cd, ct, osl, e, _⟩ := T.f_Missing_init.ex
  refine ⟨fun s us ws h1 h2 => ?_, fun {vs us zs ws} h1 h2 r1 r2 => ?_⟩
  · rw [e]
    exact match us, ws, h1, h2 with | [_], [_], _, _ => .of_eq rfl
  · exact match vs, us, zs, ws, r1, r2, h1, h2 with | [_], [_], [_], [_], (.cons ru0 (.nil)), (.cons rw0 (.nil)), _, _ => .cons ru0 (.cons rw0 (.nil))
theorem hgc_Missing {α : Type} (a : α) (ws : List α) (h : ws.length = 1) : g_kw_Missing_init_1_value [a] ws = a :: gcI [] ws := match ws, h with | [_], _ => rfl
end
/-- the data at v, out of reach of what is drawn from -/
def Th (p : Addr) (H : Hp) (v : V) : Prop := ∃ d G, Dz G v d 5 2000 ∧ Ex G H ∧ G p = none
theorem Th.kp {p : Addr} {H H' : Hp} {v : V} (k : Kp p H H') (h : Th p H v) : Th p H' v := by
  obtain ⟨d, G, h1, h2, h3⟩ := h
  exact ⟨d, G, h1, fun a o e => k a o (fun z => by rw [z, h3] at e; cases e) (h2 a o e), h3⟩
theorem Th.ex {p : Addr} {H H' : Hp} {v : V} (k : Ex H H') (h : Th p H v) : Th p H' v := h.kp (Ex.kp k)
def clsOf (s : Nat) : Nat := if s < 9 then s + 1 else s + 2
def cl (i : Nat) : List Bool := (List.range 16).map fun s => subT i (clsOf s)
theorem cl_spot : ∀ s, s < 16 → cl (clsOf s) = (List.range 16).map fun t => t == s := by decide
theorem miss_spot : ∀ s, s < 16 → subT (clsOf s) 10 = (s == 9 || s == 10) := by decide
theorem base_spot : ∀ s, s < 16 → subT (clsOf s) 0 = true ∧ clsOf s < 18 := by decide
def spThing : Sp := fun vs H Q _ => ∃ (p c : Addr) (n : Nat), vs = [.ref p] ∧ Rk H p c n ∧ n < 99000 ∧ ∀ v H', Th p H' v → Rk H' p c (n + 2) → Kp p H H' → Q v H'
def spClasses (cs : Nat → Addr) : Sp := fun vs H Q _ => ∃ (a : Addr) (i : Nat), vs = [.ref a] ∧ i < 18 ∧ Ei H a (cs i) ∧ ∀ b H', H b = none → Ex H H' → H' b = some (.lst ((cl i).map V.bl)) → Q (.ref b) H'
def spAlone (cs : Nat → Addr) : Sp := fun vs H Q _ => ∃ (a : Addr) (s : Nat), vs = [.ref a, .int s] ∧ s < 16 ∧ Ei H a (cs (clsOf s)) ∧ ∀ H', Ex H H' → Q (.bl true) H'
def spOne : Sp := fun vs H Q _ => ∃ (p : Addr) (v : V), vs = [v] ∧ Th p H v ∧ ∀ H', Ex H H' → Q (.bl true) H'
def spTwo : Sp := fun vs H Q _ => ∃ (p : Addr) (v w : V), vs = [v, w] ∧ Th p H v ∧ Th p H w ∧ ∀ H', Ex H H' → Q (.bl true) H'
def spLaw (K : PySem.W.Frag) : Sp := fun vs H Q _ => ∃ (a : Addr) (ns : List Int), vs = [.ref a] ∧ SqL K H a (ns.map V.int) ∧ ns.length ≤ 63 ∧ ∀ H', Q (.bl true) H'
theorem law_pre {K : PySem.W.Frag} {H : Hp} {a : Addr} {ns : List Int} (hl : ns.length ≤ 63) (hS : SqL K H a (ns.map V.int)) : spLaw K [.ref a] H (fun v _ => v = .bl true) fun _ _ _ => False := ⟨a, ns, rfl, hS, hl, fun _ => rfl⟩

section
variable {P : Program} {w : World} {K : PySem.W.Frag} {mg : Str → Option Value} {base : Heap} {fs : Nat → Addr} {fd : Nat → FuncData} {tk : Nat → Tok} {cs : Nat → Addr}
theorem ok_BadNumber_init (T : Txt K mg fs fd tk cs) : FnG P w K mg base CX0 1 (fs 10) (fd 10) N_BadNumber_init (spI1 (cs 1) "part") := by
  refine Fun.okG T.f_BadNumber_init sc_BadNumber_init (fun vs H Q E h => ?_) (fun cd A out s H vs Q E gd hr h => ?_)
  · obtain ⟨a, x, rfl, _⟩ := h
    rfl
  · obtain ⟨a, x, rfl, ha, k⟩ := h
    exact ⟨_, PSs.nox (pss_one (ps_ost (pv 0) (pv 1))), ⟨_, rfl, _, rfl, a, cs 1, rfl, T.x_BadNumber.ox, T.n_BadNumber_part, .inl ⟨ha, fun dx hd hne => k dx hd hne⟩⟩⟩
theorem ok_BadName_init (T : Txt K mg fs fd tk cs) : FnG P w K mg base CX0 1 (fs 11) (fd 11) N_BadName_init (spI1 (cs 2) "part") := by
  refine Fun.okG T.f_BadName_init sc_BadName_init (fun vs H Q E h => ?_) (fun cd A out s H vs Q E gd hr h => ?_)
  · obtain ⟨a, x, rfl, _⟩ := h
    rfl
  · obtain ⟨a, x, rfl, ha, k⟩ := h
    exact ⟨_, PSs.nox (pss_one (ps_ost (pv 0) (pv 1))), ⟨_, rfl, _, rfl, a, cs 2, rfl, T.x_BadName.ox, T.n_BadName_part, .inl ⟨ha, fun dx hd hne => k dx hd hne⟩⟩⟩
theorem ok_BadContents_init (T : Txt K mg fs fd tk cs) : FnG P w K mg base CX0 1 (fs 12) (fd 12) N_BadContents_init (spI1 (cs 3) "part") := by
  refine Fun.okG T.f_BadContents_init sc_BadContents_init (fun vs H Q E h => ?_) (fun cd A out s H vs Q E gd hr h => ?_)
  · obtain ⟨a, x, rfl, _⟩ := h
    rfl
  · obtain ⟨a, x, rfl, ha, k⟩ := h
    exact ⟨_, PSs.nox (pss_one (ps_ost (pv 0) (pv 1))), ⟨_, rfl, _, rfl, a, cs 3, rfl, T.x_BadContents.ox, T.n_BadContents_part, .inl ⟨ha, fun dx hd hne => k dx hd hne⟩⟩⟩
theorem ok_BadDisk_init (T : Txt K mg fs fd tk cs) : FnG P w K mg base CX0 1 (fs 13) (fd 13) N_BadDisk_init (spI1 (cs 4) "part") := by
  refine Fun.okG T.f_BadDisk_init sc_BadDisk_init (fun vs H Q E h => ?_) (fun cd A out s H vs Q E gd hr h => ?_)
  · obtain ⟨a, x, rfl, _⟩ := h
    rfl
  · obtain ⟨a, x, rfl, ha, k⟩ := h
    exact ⟨_, PSs.nox (pss_one (ps_ost (pv 0) (pv 1))), ⟨_, rfl, _, rfl, a, cs 4, rfl, T.x_BadDisk.ox, T.n_BadDisk_part, .inl ⟨ha, fun dx hd hne => k dx hd hne⟩⟩⟩
theorem ok_BadLayout_init (T : Txt K mg fs fd tk cs) : FnG P w K mg base CX0 1 (fs 14) (fd 14) N_BadLayout_init (spI1 (cs 5) "part") := by
  refine Fun.okG T.f_BadLayout_init sc_BadLayout_init (fun vs H Q E h => ?_) (fun cd A out s H vs Q E gd hr h => ?_)
  · obtain ⟨a, x, rfl, _⟩ := h
    rfl
  · obtain ⟨a, x, rfl, ha, k⟩ := h
    exact ⟨_, PSs.nox (pss_one (ps_ost (pv 0) (pv 1))), ⟨_, rfl, _, rfl, a, cs 5, rfl, T.x_BadLayout.ox, T.n_BadLayout_part, .inl ⟨ha, fun dx hd hne => k dx hd hne⟩⟩⟩
theorem ok_BadDeeds_init (T : Txt K mg fs fd tk cs) : FnG P w K mg base CX0 1 (fs 15) (fd 15) N_BadDeeds_init (spI1 (cs 6) "part") := by
  refine Fun.okG T.f_BadDeeds_init sc_BadDeeds_init (fun vs H Q E h => ?_) (fun cd A out s H vs Q E gd hr h => ?_)
  · obtain ⟨a, x, rfl, _⟩ := h
    rfl
  · obtain ⟨a, x, rfl, ha, k⟩ := h
    exact ⟨_, PSs.nox (pss_one (ps_ost (pv 0) (pv 1))), ⟨_, rfl, _, rfl, a, cs 6, rfl, T.x_BadDeeds.ox, T.n_BadDeeds_part, .inl ⟨ha, fun dx hd hne => k dx hd hne⟩⟩⟩
theorem ok_BadPrices_init (T : Txt K mg fs fd tk cs) : FnG P w K mg base CX0 1 (fs 16) (fd 16) N_BadPrices_init (spI1 (cs 7) "part") := by
  refine Fun.okG T.f_BadPrices_init sc_BadPrices_init (fun vs H Q E h => ?_) (fun cd A out s H vs Q E gd hr h => ?_)
  · obtain ⟨a, x, rfl, _⟩ := h
    rfl
  · obtain ⟨a, x, rfl, ha, k⟩ := h
    exact ⟨_, PSs.nox (pss_one (ps_ost (pv 0) (pv 1))), ⟨_, rfl, _, rfl, a, cs 7, rfl, T.x_BadPrices.ox, T.n_BadPrices_part, .inl ⟨ha, fun dx hd hne => k dx hd hne⟩⟩⟩
theorem ok_BadStore_init (T : Txt K mg fs fd tk cs) : FnG P w K mg base CX0 1 (fs 17) (fd 17) N_BadStore_init (spI1 (cs 8) "part") := by
  refine Fun.okG T.f_BadStore_init sc_BadStore_init (fun vs H Q E h => ?_) (fun cd A out s H vs Q E gd hr h => ?_)
  · obtain ⟨a, x, rfl, _⟩ := h
    rfl
  · obtain ⟨a, x, rfl, ha, k⟩ := h
    exact ⟨_, PSs.nox (pss_one (ps_ost (pv 0) (pv 1))), ⟨_, rfl, _, rfl, a, cs 8, rfl, T.x_BadStore.ox, T.n_BadStore_part, .inl ⟨ha, fun dx hd hne => k dx hd hne⟩⟩⟩
theorem ok_Misfit_init (T : Txt K mg fs fd tk cs) : FnG P w K mg base CX0 1 (fs 18) (fd 18) N_Misfit_init (spI1 (cs 9) "part") := by
  refine Fun.okG T.f_Misfit_init sc_Misfit_init (fun vs H Q E h => ?_) (fun cd A out s H vs Q E gd hr h => ?_)
  · obtain ⟨a, x, rfl, _⟩ := h
    rfl
  · obtain ⟨a, x, rfl, ha, k⟩ := h
    exact ⟨_, PSs.nox (pss_one (ps_ost (pv 0) (pv 1))), ⟨_, rfl, _, rfl, a, cs 9, rfl, T.x_Misfit.ox, T.n_Misfit_part, .inl ⟨ha, fun dx hd hne => k dx hd hne⟩⟩⟩
theorem ok_Missing_init (T : Txt K mg fs fd tk cs) : FnG P w K mg base CX0 1 (fs 19) (fd 19) N_Missing_init (spI1 (cs 10) "value") := by
  refine Fun.okG T.f_Missing_init sc_Missing_init (fun vs H Q E h => ?_) (fun cd A out s H vs Q E gd hr h => ?_)
  · obtain ⟨a, x, rfl, _⟩ := h
    rfl
  · obtain ⟨a, x, rfl, ha, k⟩ := h
    exact ⟨_, PSs.nox (pss_one (ps_ost (pv 0) (pv 1))), ⟨_, rfl, _, rfl, a, cs 10, rfl, T.x_Missing.ox, T.n_Missing_value, .inl ⟨ha, fun dx hd hne => k dx hd hne⟩⟩⟩
theorem ok_NoFile_init (T : Txt K mg fs fd tk cs) : FnG P w K mg base CX0 1 (fs 20) (fd 20) N_NoFile_init (spI1 (cs 11) "value") := by
  refine Fun.okG T.f_NoFile_init sc_NoFile_init (fun vs H Q E h => ?_) (fun cd A out s H vs Q E gd hr h => ?_)
  · obtain ⟨a, x, rfl, _⟩ := h
    rfl
  · obtain ⟨a, x, rfl, ha, k⟩ := h
    exact ⟨_, PSs.nox (pss_one (ps_ost (pv 0) (pv 1))), ⟨_, rfl, _, rfl, a, cs 11, rfl, T.x_NoFile.ox, T.n_NoFile_value, .inl ⟨ha, fun dx hd hne => k dx hd hne⟩⟩⟩
theorem ok_NoView_init (T : Txt K mg fs fd tk cs) : FnG P w K mg base CX0 1 (fs 21) (fd 21) N_NoView_init (spI1 (cs 12) "value") := by
  refine Fun.okG T.f_NoView_init sc_NoView_init (fun vs H Q E h => ?_) (fun cd A out s H vs Q E gd hr h => ?_)
  · obtain ⟨a, x, rfl, _⟩ := h
    rfl
  · obtain ⟨a, x, rfl, ha, k⟩ := h
    exact ⟨_, PSs.nox (pss_one (ps_ost (pv 0) (pv 1))), ⟨_, rfl, _, rfl, a, cs 12, rfl, T.x_NoView.ox, T.n_NoView_value, .inl ⟨ha, fun dx hd hne => k dx hd hne⟩⟩⟩
theorem ok_Twice_init (T : Txt K mg fs fd tk cs) : FnG P w K mg base CX0 1 (fs 22) (fd 22) N_Twice_init (spI1 (cs 13) "value") := by
  refine Fun.okG T.f_Twice_init sc_Twice_init (fun vs H Q E h => ?_) (fun cd A out s H vs Q E gd hr h => ?_)
  · obtain ⟨a, x, rfl, _⟩ := h
    rfl
  · obtain ⟨a, x, rfl, ha, k⟩ := h
    exact ⟨_, PSs.nox (pss_one (ps_ost (pv 0) (pv 1))), ⟨_, rfl, _, rfl, a, cs 13, rfl, T.x_Twice.ox, T.n_Twice_value, .inl ⟨ha, fun dx hd hne => k dx hd hne⟩⟩⟩
theorem ok_TooMany_init (T : Txt K mg fs fd tk cs) : FnG P w K mg base CX0 1 (fs 23) (fd 23) N_TooMany_init (spI2 (cs 14) "what" "most") := by
  refine Fun.okG T.f_TooMany_init sc_TooMany_init (fun vs H Q E h => ?_) (fun cd A out s H vs Q E gd hr h => ?_)
  · obtain ⟨a, x, y, rfl, _⟩ := h
    rfl
  · obtain ⟨a, x, y, rfl, ha, k⟩ := h
    refine ⟨_, PSs.nox (pss_cons (ps_ost (pv 0) (pv 1)) (pss_one (ps_ost (pv 0) (pv 2)))), ⟨_, rfl, _, rfl, a, cs 14, rfl, T.x_TooMany.ox, T.n_TooMany_what, .inl ⟨ha, fun dx hd hne => ?_⟩⟩⟩
    exact ⟨_, rfl, _, rfl, a, cs 14, rfl, T.x_TooMany.ox, T.n_TooMany_most, .inr ⟨dx, [(("what" : Str), x)], upd_same, by rw [upd_ne hne, upd_same], (show 1 ≤ 900 by decide), k dx hd hne⟩⟩
theorem ok_Impossible_init (T : Txt K mg fs fd tk cs) : FnG P w K mg base CX0 1 (fs 24) (fd 24) N_Impossible_init (spI1 (cs 15) "paper") := by
  refine Fun.okG T.f_Impossible_init sc_Impossible_init (fun vs H Q E h => ?_) (fun cd A out s H vs Q E gd hr h => ?_)
  · obtain ⟨a, x, rfl, _⟩ := h
    rfl
  · obtain ⟨a, x, rfl, ha, k⟩ := h
    exact ⟨_, PSs.nox (pss_one (ps_ost (pv 0) (pv 1))), ⟨_, rfl, _, rfl, a, cs 15, rfl, T.x_Impossible.ox, T.n_Impossible_paper, .inl ⟨ha, fun dx hd hne => k dx hd hne⟩⟩⟩
theorem ok_BadText_init (T : Txt K mg fs fd tk cs) : FnG P w K mg base CX0 1 (fs 25) (fd 25) N_BadText_init (spI1 (cs 16) "item") := by
  refine Fun.okG T.f_BadText_init sc_BadText_init (fun vs H Q E h => ?_) (fun cd A out s H vs Q E gd hr h => ?_)
  · obtain ⟨a, x, rfl, _⟩ := h
    rfl
  · obtain ⟨a, x, rfl, ha, k⟩ := h
    exact ⟨_, PSs.nox (pss_one (ps_ost (pv 0) (pv 1))), ⟨_, rfl, _, rfl, a, cs 16, rfl, T.x_BadText.ox, T.n_BadText_item, .inl ⟨ha, fun dx hd hne => k dx hd hne⟩⟩⟩
end
end Mine
namespace Mine
open PySem PySem.Spec PyProof.Rows L2 GL
section
variable {P : Program} {w : World} {K : PySem.W.Frag} {mg : Str → Option Value} {base : Heap} {fs : Nat → Addr} {fd : Nat → FuncData} {tk : Nat → Tok} {cs : Nat → Addr}
theorem ok_Lbin (T : Txt K mg fs fd tk cs) : FnG P w K mg base CX0 1 (fs 0) (fd 0) P_Lbin (spRack K) := by
  refine Fun.okG T.f_Lbin sc_Lbin (fun vs H Q E h => ?_) (fun cd A out s H vs Q E gd hr h => ?_)
  · obtain ⟨a, ns, rfl, _⟩ := h
    rfl
  · obtain ⟨a, ns, rfl, hS, hl, k⟩ := h
    refine ⟨_, PSs.nox ((pss_one (ps_ret (pe_lst (pa_cons (pe_lc (own := [("_law_cell", 1)]) (g := gName 1) (tt := tYes) rfl sc_Lbin.nd (pi_list (pe_slice sl_list (pv 0) po_none (po_some (pe_int)))) (blkOk_by (own := [("_law_cell", 1)]) (N := N_Lbin) (sc := defScope s_Lbin) (by decide +kernel)) (fun _ _ _ _ _ => (pg_name (i := 1) sc_Lbin.nd rfl (Or.inl rfl))) (fun _ _ _ _ _ => pts_nil) (fun _ _ _ _ _ => pe_callTy call_int1 (by rfl) T.z_int (by decide +kernel) (pa_cons (pv 1) pa_nil))) (pa_cons (pe_int) (pa_cons (pe_int) pa_nil))))))), ?_⟩
    refine ⟨_, rfl, _, rfl, a, _, rfl, hS, fun q hq => ?_⟩
    obtain ⟨ms, em, lm, _⟩ := cut_ints ns none (some 57)
    have e0 : Ex H (upd H q (.lst (cutV (ns.map V.int) none (some 57)))) := Ex.nw hq
    have gq : (upd H q (.lst (cutV (ns.map V.int) none (some 57)))) q = some (.lst (ms.map V.int)) := by rw [em]; exact upd_same
    generalize upd H q (.lst (cutV (ns.map V.int) none (some 57))) = G at e0 gq
    refine ⟨q, rfl, ⟨_, SqL.of gq⟩, fun D hD => ?_⟩
    refine lc_list (K := K) (a := q) (xs := ms.map V.int) (fun i H' => H' D = some (.lst ((ms.take i).map V.int)) ∧ Ex G H') ⟨upd_same, Ex.nw hD⟩ (fun i H' _ p => SqL.of (p.2 _ _ gq)) ?_ ?_
    · rintro i x H' hx ⟨p1, p2⟩
      obtain ⟨z, hz, rfl⟩ := map_get hx
      have hi := lt_of_get hz
      refine ⟨rfl, ?_⟩
      refine ⟨_, rfl, .inl ⟨z, rfl, _, p1, ?_, ?_, p2.up hD⟩⟩
      · rw [List.length_map, List.length_take]; exact sz_ok (by omega)
      · rw [take_step hz, List.map_append]; exact upd_same
    · rintro H' ⟨p1, p2⟩
      rw [List.length_map, List.take_length] at p1
      refine ⟨(show 3 ≤ sizeLine by decide), fun p hp => ?_⟩
      have e3 : Ex H' (upd H' p (.lst [.ref D, .int 0, .int 0])) := Ex.nw hp
      exact k p D _ ((e0.tr p2).no hp) ⟨⟨ms, 0, 0, upd_same, e3 _ _ p1, ne_of_none p1 hp, by omega, by decide, by decide, by decide⟩⟩ ((e0.tr p2).tr e3)
theorem ok_Lreach (T : Txt K mg fs fd tk cs) : FnG P w K mg base CX0 1 (fs 1) (fd 1) P_Lreach spDraw := by
  refine Fun.okG T.f_Lreach sc_Lreach (fun vs H Q E h => ?_) (fun cd A out s H vs Q E gd hr h => ?_)
  · obtain ⟨p, c, many, n, rfl, _⟩ := h
    rfl
  · obtain ⟨p, c, many, n, rfl, r, hn, m0, m1, k⟩ := h
    refine ⟨_, PSs.nox ((pss_cons (ps_if (pt_cmpR op_gt (pe_ix ix_list (pv 0) (pe_int) (fun _ _ => rfl)) (pe_int) (nomark _))
        (pss_cons (ps_set (i := 2) sc_Lreach.nd rfl (by first | exact Or.inl rfl | exact Or.inr rfl) (pe_ix ix_list (pv 0) (pe_int) (fun _ _ => rfl)))
        (pss_cons (ps_asg (pe_op op_fdiv (pe_callTy call_int1 (by rfl) T.z_int (by decide +kernel) (pa_cons (pv 2) pa_nil)) (pv 1)) (pg_sub (pv 0) (pe_int) set_list))
        (pss_one (ps_ret (pe_op op_mod (pe_callTy call_int1 (by rfl) T.z_int (by decide +kernel) (pa_cons (pv 2) pa_nil)) (pv 1))))))
        pss_nil)
      (pss_cons (ps_set (i := 3) sc_Lreach.nd rfl (by first | exact Or.inl rfl | exact Or.inr rfl) (pe_ix ix_list (pv 0) (pe_int) (fun _ _ => rfl)))
      (pss_cons (ps_asg (pe_op op_add (pv 3) (pe_int)) (pg_sub (pv 0) (pe_int) set_list))
      (pss_cons (ps_set (i := 4) sc_Lreach.nd rfl (by first | exact Or.inl rfl | exact Or.inr rfl) (pe_op op_add (pe_op op_mul (pe_int) (pv 3)) (pe_int)))
      (Evl.pss_cut (ps_if (pt_cmpR (op_neX hr.units) (pe_ix ix_list (pv 0) (pe_int) (fun _ _ => rfl)) (pe_lst pa_nil) (nomark _))
        (pss_one (ps_set (i := 4) sc_Lreach.nd rfl (by first | exact Or.inl rfl | exact Or.inr rfl) (pe_ix ix_list (pe_ix ix_list (pv 0) (pe_int) (fun _ _ => rfl)) (pe_op op_mod (pe_callTy call_int1 (by rfl) T.z_int (by decide +kernel) (pa_cons (pv 3) pa_nil)) (pe_callB call_len_seq (by rfl) T.z_len (by decide +kernel) (pa_cons (pe_ix ix_list (pv 0) (pe_int) (fun _ _ => rfl)) pa_nil))) (fun _ _ => rfl))))
        pss_nil)
      (Evl.pss_cut (ps_if (PW.pt (pw_and (pt_cmpR op_lt (pv 3) (pe_callB call_len_seq (by rfl) T.z_len (by decide +kernel) (pa_cons (pe_ix ix_list (pv 0) (pe_int) (fun _ _ => rfl)) pa_nil)) (nomark _)) (pw_and1 (pt_cmpR op_ge (pe_callB call_abs (by rfl) T.z_abs (by decide +kernel) (pa_cons (pv 4) pa_nil)) (pe_op op_pow (pe_int) (pe_int)) (nomark _)))))
        (pss_cons (ps_set (i := 2) sc_Lreach.nd rfl (by first | exact Or.inl rfl | exact Or.inr rfl) (pe_op op_add (pe_op op_mul (pe_int) (pe_op op_sub (pe_callB call_abs (by rfl) T.z_abs (by decide +kernel) (pa_cons (pv 4) pa_nil)) (pe_op op_pow (pe_int) (pe_int)))) (pe_callTy call_int1 (by rfl) T.z_int (by decide +kernel) (pa_cons (pe_cmpR op_lt (pv 4) (pe_int) (nomark _)) pa_nil))))
        (pss_cons (ps_asg (pe_op op_fdiv (pe_callTy call_int1 (by rfl) T.z_int (by decide +kernel) (pa_cons (pv 2) pa_nil)) (pv 1)) (pg_sub (pv 0) (pe_int) set_list))
        (pss_one (ps_ret (pe_op op_mod (pe_callTy call_int1 (by rfl) T.z_int (by decide +kernel) (pa_cons (pv 2) pa_nil)) (pv 1))))))
        pss_nil)
      (pss_cons (ps_set (i := 5) sc_Lreach.nd rfl (by first | exact Or.inl rfl | exact Or.inr rfl) (pe_op op_mod (pe_callTy call_int1 (by rfl) T.z_int (by decide +kernel) (pa_cons (pe_op op_pow (pe_op op_add (pe_op op_add (pe_op op_mod (pe_callTy call_int1 (by rfl) T.z_int (by decide +kernel) (pa_cons (pv 4) pa_nil)) (pe_int)) (pe_op op_mul (pe_int) (pv 3))) (pe_int)) (pe_int)) pa_nil)) (pe_int)))
      (pss_cons (ps_set (i := 5) sc_Lreach.nd rfl (by first | exact Or.inl rfl | exact Or.inr rfl) (pe_op op_mod (pe_callTy call_int1 (by rfl) T.z_int (by decide +kernel) (pa_cons (pe_op op_pow (pe_op op_add (pe_op op_add (pe_op op_mul (pv 5) (pe_op op_add (pe_op op_mul (pe_int) (pv 3)) (pe_int))) (pe_op op_mul (pe_op op_mul (pe_int) (pv 3)) (pv 3))) (pe_int)) (pe_int)) pa_nil)) (pe_int)))
      (pss_one (ps_ret (pe_op op_mod (pe_callTy call_int1 (by rfl) T.z_int (by decide +kernel) (pa_cons (pe_op op_fdiv (pv 5) (pe_int)) pa_nil)) (pv 1))))))))))))), ?_⟩
    obtain ⟨ns, t, l, h1, h2, hcp, hlen, t0, tn, l0⟩ := r.ex
    refine ⟨_, rfl, p, _, 2, .int l, rfl, rfl, SqL.of h1, rfl, l, 0, rfl, rfl, _, rfl, ?_⟩
    by_cases hl : 0 < l
    · rw [decide_eq_true hl]
      refine iteT ?_
      refine ⟨_, rfl, p, _, 2, .int l, rfl, rfl, SqL.of h1, rfl, ?_⟩
      refine ⟨_, rfl, .inl ⟨l, rfl, _, rfl, l, many, rfl, rfl, ⟨m0, m1⟩, ?_⟩⟩
      refine ⟨_, rfl, p, _, 2, 2, rfl, rfl, h1, rfl, ?_⟩
      refine ⟨_, rfl, .inl ⟨l, rfl, _, rfl, l, many, rfl, rfl, m0, ?_⟩⟩
      refine k _ _ (Int.emod_nonneg _ (by omega)) (Int.emod_lt_of_pos _ m0) ⟨⟨ns, t, l / many, upd_same, by rw [upd_ne hcp]; exact h2, hcp, hlen, t0, by omega, Int.ediv_nonneg l0 (by omega)⟩⟩ (Kp.up (Kp.rfl' H))
    · rw [decide_eq_false hl]
      refine iteF ?_
      -- turn = rack[1]; rack[1] = turn + 1
      refine ⟨_, rfl, p, _, 1, .int t, rfl, rfl, SqL.of h1, rfl, ?_⟩
      refine ⟨_, rfl, t, 1, rfl, rfl, ?_⟩
      refine ⟨_, rfl, p, _, 1, 1, rfl, rfl, h1, rfl, ?_⟩
      generalize hG : upd H p (.lst [V.ref c, .int (t + 1), .int l]) = G
      have g1 : G p = some (.lst [.ref c, .int (t + 1), .int l]) := by rw [← hG]; exact upd_same
      have g2 : G c = some (.lst (ns.map V.int)) := by rw [← hG, upd_ne hcp]; exact h2
      have g3 : Kp p H G := by rw [← hG]; exact Kp.up (Kp.rfl' H)
      have hG' : upd H p (.lst (List.set [V.ref c, .int t, .int l] 1 (.int (t + 1)))) = G := hG
      rw [hG']
      -- cell = 43787 * turn + 6131
      refine ⟨_, rfl, _, _, rfl, rfl, .inl ⟨by decide, by decide⟩, _, _, rfl, rfl, ?_⟩
      -- if rack[0] != []: cell = ..
      refine ⟨fun σ' G' => ∃ cell : Int, σ' = [some (.ref p), some (.int many), none, some (.int t), some (.int cell), none] ∧ Ex G G', ?_, ?_⟩
      · refine ⟨_, rfl, p, _, 0, .ref c, rfl, rfl, SqL.of g1, rfl, Nat.zero_le _, fun q hq => ?_⟩
        have e1 : Ex G (upd G q (.lst [])) := Ex.nw hq
        refine .inr ⟨.list (ns.map PyData.int), .list [], .lst (SqL.of (e1 _ _ g2)) (dp_ints ns), .lst (SqL.of upd_same) .nil, shaped_ints ns, rfl, _, rfl, ?_⟩
        cases ns with
        | nil => exact iteF ⟨_, rfl, e1⟩
        | cons a r =>
          refine iteT ?_
          have hp : (0 : Int) < ((a :: r).length : Int) := by simp only [List.length_cons]; omega
          obtain ⟨j, hj⟩ : ∃ j : Nat, t % ((a :: r).length : Int) = (j : Int) := ⟨(t % ((a :: r).length : Int)).toNat, (Int.toNat_of_nonneg (Int.emod_nonneg _ (by omega))).symm⟩
          have hj2 : j < (a :: r).length := by have := Int.emod_lt_of_pos t hp; omega
          have hx : ((a :: r).map V.int)[j]? = some (.int ((a :: r)[j])) := by rw [List.getElem?_map, List.getElem?_eq_getElem hj2]; rfl
          have hy : atI ((a :: r).map V.int) (t % (((a :: r).map V.int).length : Int)) = some (.int ((a :: r)[j])) := by rw [List.length_map, hj]; exact atI_nat hx
          refine ⟨_, rfl, p, _, 0, .ref c, rfl, rfl, SqL.of (e1 _ _ g1), rfl, ?_⟩
          refine ⟨_, rfl, .inl ⟨t, rfl, ?_⟩⟩
          refine ⟨_, rfl, p, _, 0, .ref c, rfl, rfl, SqL.of (e1 _ _ g1), rfl, c, _, rfl, .inl (SqL.of (e1 _ _ g2)), t, _, rfl, rfl, (by simp only [List.length_map]; exact hp), ?_⟩
          refine ⟨c, _, _, _, rfl, rfl, SqL.of (e1 _ _ g2), hy, ?_⟩
          exact ⟨_, rfl, e1⟩
      · rintro σ' G' ⟨cell, rfl, e2⟩
        have f1 := e2 _ _ g1
        have f2 := e2 _ _ g2
        have f3 : Kp p H G' := g3.ex e2
        have pw : CPow 10 18 := ⟨by decide, by decide, by decide⟩
        refine ⟨fun σ2 G2 => σ2 = [some (.ref p), some (.int many), none, some (.int t), some (.int cell), none] ∧ G2 = G', ?_, ?_⟩
        · -- turn < len(rack[0]) and abs(cell) >= 10 ** 18
          refine ⟨_, rfl, _, rfl, p, _, 0, .ref c, rfl, rfl, SqL.of f1, rfl, c, _, rfl, .inl (SqL.of f2), t, _, rfl, rfl, _, rfl, ?_⟩
          by_cases c1 : t < ((ns.map V.int).length : Int)
          · rw [decide_eq_true c1]
            refine iteT ⟨_, rfl, cell, rfl, 10, 18, rfl, rfl, pw, _, _, rfl, rfl, _, rfl, ?_⟩
            by_cases c2 : (10 : Int) ^ (18 : Int).toNat ≤ (if cell < 0 then -cell else cell)
            · rw [decide_eq_true c2]
              refine iteT ?_
              refine ⟨_, rfl, cell, rfl, 10, 18, rfl, rfl, pw, _, _, rfl, rfl, 2, _, rfl, rfl, .inl ⟨by decide, by decide⟩, _, rfl, cell, 0, rfl, rfl, .inr ⟨_, rfl, _, _, rfl, rfl, ?_⟩⟩
              have hle : 0 ≤ 2 * ((if cell < 0 then -cell else cell) - (10 : Int) ^ (18 : Int).toNat) + (if decide (cell < 0) = true then (1 : Int) else 0) := by
                have : 0 ≤ (if decide (cell < 0) = true then (1 : Int) else 0) := by split <;> decide
                omega
              refine ⟨_, rfl, .inl ⟨_, rfl, _, rfl, _, many, rfl, rfl, ⟨m0, m1⟩, ?_⟩⟩
              refine ⟨_, rfl, p, _, 2, 2, rfl, rfl, f1, rfl, ?_⟩
              refine ⟨_, rfl, .inl ⟨_, rfl, _, rfl, _, many, rfl, rfl, m0, ?_⟩⟩
              exact k _ _ (Int.emod_nonneg _ (by omega)) (Int.emod_lt_of_pos _ m0) ⟨⟨ns, t + 1, _, upd_same, by rw [upd_ne hcp]; exact f2, hcp, hlen, by omega, by omega, Int.ediv_nonneg hle (by omega)⟩⟩ (Kp.up f3)
            · rw [decide_eq_false c2]
              exact iteF ⟨rfl, rfl⟩
          · rw [decide_eq_false c1]
            exact iteF (iteF ⟨rfl, rfl⟩)
        · rintro σ2 G2 ⟨rfl, rfl⟩
          have b1 : 0 ≤ cell % 2147483587 := Int.emod_nonneg _ (by decide)
          have b2 : cell % 2147483587 < 2147483587 := Int.emod_lt_of_pos _ (by decide)
          refine ⟨_, rfl, .inl ⟨cell, rfl, cell, _, rfl, rfl, (by show (0 : Int) < 2147483587; decide), _, rfl, _, t, rfl, rfl, .inl ⟨by decide, by decide⟩, _, _, rfl, rfl, _, _, rfl, rfl, _, 5, rfl, rfl, ⟨by decide, by decide, ?_⟩, .inl ⟨_, rfl, _, _, rfl, rfl, (by show (0 : Int) < 2147483563; decide), ?_⟩⟩⟩
          · show (cell % 2147483587 + 50123 * t + 6131).natAbs < 2 ^ 64
            omega
          have d1 : 0 ≤ (cell % 2147483587 + 50123 * t + 6131) ^ (5 : Int).toNat % 2147483563 := Int.emod_nonneg _ (by decide)
          have d2 : (cell % 2147483587 + 50123 * t + 6131) ^ (5 : Int).toNat % 2147483563 < 2147483563 := Int.emod_lt_of_pos _ (by decide)
          refine ⟨_, rfl, _, rfl, _, _, rfl, rfl, .inl ⟨by decide, by decide⟩, _, _, rfl, rfl, _, _, rfl, rfl, .inl ⟨?_, ?_⟩, _, rfl, _, _, rfl, rfl, .inl ⟨by decide, by decide⟩, _, rfl, _, _, rfl, rfl, .inr ⟨?_, ?_⟩, _, _, rfl, rfl, _, _, rfl, rfl, _, _, rfl, rfl, ⟨by decide, by decide, ?_⟩,
            .inl ⟨_, rfl, _, _, rfl, rfl, (by show (0 : Int) < 2147483579; decide), ?_⟩⟩
          · exact Int.lt_of_lt_of_le (by decide) d1
          · exact Int.lt_trans d2 (by decide)
          · show -(2 ^ 64) < t
            omega
          · show t < 2 ^ 64
            omega
          · exact mix_small d1 (Int.lt_trans d2 (by decide)) t0 (by omega) (by decide) (by decide) (by decide) (by decide) (by decide) (by decide)
          · refine ⟨_, rfl, _, _, rfl, rfl, ⟨by decide, by decide⟩, .inl ⟨_, rfl, _, rfl, _, many, rfl, rfl, m0, ?_⟩⟩
            exact k _ _ (Int.emod_nonneg _ (by omega)) (Int.emod_lt_of_pos _ m0) ⟨⟨ns, t + 1, l, f1, f2, hcp, hlen, by omega, by omega, l0⟩⟩ f3
theorem ok_Lpick (T : Txt K mg fs fd tk cs) : FnG P w K mg base CX0 2 (fs 2) (fd 2) P_Lpick spPick := by
  refine Fun.okG T.f_Lpick sc_Lpick (fun vs H Q E h => ?_) (fun cd A out s H vs Q E gd hr h => ?_)
  · obtain ⟨p, c, x, n, rfl, _⟩ := h
    rfl
  · obtain ⟨p, c, x, n, rfl, r, hn, h⟩ := h
    refine ⟨_, PSs.nox ((pss_one (ps_ret (pe_ix ix_seq (pv 1) (pg_call (ok_Lreach T) gd (hr.mono (by decide)) (by rfl) T.m_Lreach T.f_Lreach.kp (b_Lreach T) .nil pass0 (pa_cons (pv 0) (pa_cons (pe_callB call_len (by rfl) T.z_len (by decide +kernel) (pa_cons (pv 1) pa_nil)) pa_nil))) (fun _ _ => rfl))))), ?_⟩
    refine ⟨_, rfl, _, rfl, _, rfl, ?_⟩
    rcases h with ⟨a, xs, rfl, na, ha, ne, hl, k⟩ | ⟨z, rfl, z0, z1, k⟩
    · refine ⟨_, xs.length, rfl, .inl ⟨xs, SqL.of ha, rfl⟩, p, c, _, n, rfl, r, hn, ?_, by omega, fun i H' i0 i1 r' kp => ?_⟩
      · have := List.length_pos_iff.mpr ne; omega
      obtain ⟨j, rfl⟩ : ∃ j : Nat, i = (j : Int) := ⟨i.toNat, (Int.toNat_of_nonneg i0).symm⟩
      have hj : j < xs.length := by omega
      exact .inl ⟨a, xs, j, xs[j], rfl, rfl, SqL.of (kp _ _ na ha), atI_nat (List.getElem?_eq_getElem hj), k _ _ (List.getElem_mem hj) r' kp⟩
    · refine ⟨_, z.length, rfl, ⟨?_, rfl⟩, p, c, _, n, rfl, r, hn, by omega, by omega, fun i H' i0 i1 r' kp => ?_⟩
      · exact Nat.le_trans (Nat.le_of_lt z1) (by decide)
      obtain ⟨j, rfl⟩ : ∃ j : Nat, i = (j : Int) := ⟨i.toNat, (Int.toNat_of_nonneg i0).symm⟩
      have hj : j < z.cps.toList.length := by rw [Array.length_toList]; show j < z.length; omega
      exact .inr (.inr ⟨z, j, z.cps.toList[j], rfl, rfl, Nat.le_trans (Nat.le_of_lt z1) (by decide), atI_nat (List.getElem?_eq_getElem hj), k _ _ (List.getElem_mem hj) r' kp⟩)
end
end Mine
namespace Mine
open PySem PySem.Spec PyProof.Rows L2 GL
open L2H (RoomH)
section
variable {P : Program} {w : World} {K : PySem.W.Frag} {mg : Str → Option Value} {base : Heap} {fs : Nat → Addr} {fd : Nat → FuncData} {tk : Nat → Tok} {cs : Nat → Addr}
theorem clsX_all (T : Txt K mg fs fd tk cs) : ∀ i, i < 18 → ClsX K (cs i) := fun i hi => by
  match i, hi with
  | 0, _ => exact T.x_StripError
  | 1, _ => exact T.x_BadNumber
  | 2, _ => exact T.x_BadName
  | 3, _ => exact T.x_BadContents
  | 4, _ => exact T.x_BadDisk
  | 5, _ => exact T.x_BadLayout
  | 6, _ => exact T.x_BadDeeds
  | 7, _ => exact T.x_BadPrices
  | 8, _ => exact T.x_BadStore
  | 9, _ => exact T.x_Misfit
  | 10, _ => exact T.x_Missing
  | 11, _ => exact T.x_NoFile
  | 12, _ => exact T.x_NoView
  | 13, _ => exact T.x_Twice
  | 14, _ => exact T.x_TooMany
  | 15, _ => exact T.x_Impossible
  | 16, _ => exact T.x_BadText
  | 17, _ => exact T.x_Out
  | i + 18, h => omega
theorem okq_Lclasses (T : Txt K mg fs fd tk cs) : FnQ P w K mg base CX0 1 (fs 4) (fd 4) P_Lclasses (spClasses cs) := by
  refine Fun.okQ T.f_Lclasses sc_Lclasses (fun vs H Q E h => ?_) (fun cd A out s H vs Q E hr h => ?_)
  · obtain ⟨a, i, rfl, _⟩ := h
    rfl
  · obtain ⟨a, i, rfl, hi, he, k⟩ := h
    have cx := clsX_all T i hi
    refine ⟨_, PSs.nox ((pss_cons (ps_set (i := 1) sc_Lclasses.nd rfl (by first | exact Or.inl rfl | exact Or.inr rfl) (pe_lst (pa_cons (pe_callB call_isX (by rfl) T.z_isinstance (by decide +kernel) (pa_cons (pv 0) (pa_cons (pe_glob (v := .ref (cs 1)) (by rfl) T.m_BadNumber rfl) pa_nil))) (pa_cons (pe_callB call_isX (by rfl) T.z_isinstance (by decide +kernel) (pa_cons (pv 0) (pa_cons (pe_glob (v := .ref (cs 2)) (by rfl) T.m_BadName rfl) pa_nil))) (pa_cons (pe_callB call_isX (by rfl) T.z_isinstance (by decide +kernel) (pa_cons (pv 0) (pa_cons (pe_glob (v := .ref (cs 3)) (by rfl) T.m_BadContents rfl) pa_nil))) (pa_cons (pe_callB call_isX (by rfl) T.z_isinstance (by decide +kernel) (pa_cons (pv 0) (pa_cons (pe_glob (v := .ref (cs 4)) (by rfl) T.m_BadDisk rfl) pa_nil))) pa_nil))))))
      (pss_cons (ps_set (i := 1) sc_Lclasses.nd rfl (by first | exact Or.inl rfl | exact Or.inr rfl) (pe_op op_cat (pv 1) (pe_lst (pa_cons (pe_callB call_isX (by rfl) T.z_isinstance (by decide +kernel) (pa_cons (pv 0) (pa_cons (pe_glob (v := .ref (cs 5)) (by rfl) T.m_BadLayout rfl) pa_nil))) (pa_cons (pe_callB call_isX (by rfl) T.z_isinstance (by decide +kernel) (pa_cons (pv 0) (pa_cons (pe_glob (v := .ref (cs 6)) (by rfl) T.m_BadDeeds rfl) pa_nil))) (pa_cons (pe_callB call_isX (by rfl) T.z_isinstance (by decide +kernel) (pa_cons (pv 0) (pa_cons (pe_glob (v := .ref (cs 7)) (by rfl) T.m_BadPrices rfl) pa_nil))) (pa_cons (pe_callB call_isX (by rfl) T.z_isinstance (by decide +kernel) (pa_cons (pv 0) (pa_cons (pe_glob (v := .ref (cs 8)) (by rfl) T.m_BadStore rfl) pa_nil))) pa_nil)))))))
      (pss_cons (ps_set (i := 1) sc_Lclasses.nd rfl (by first | exact Or.inl rfl | exact Or.inr rfl) (pe_op op_cat (pv 1) (pe_lst (pa_cons (pe_callB call_isX (by rfl) T.z_isinstance (by decide +kernel) (pa_cons (pv 0) (pa_cons (pe_glob (v := .ref (cs 9)) (by rfl) T.m_Misfit rfl) pa_nil))) (pa_cons (pe_callB call_isX (by rfl) T.z_isinstance (by decide +kernel) (pa_cons (pv 0) (pa_cons (pe_glob (v := .ref (cs 11)) (by rfl) T.m_NoFile rfl) pa_nil))) (pa_cons (pe_callB call_isX (by rfl) T.z_isinstance (by decide +kernel) (pa_cons (pv 0) (pa_cons (pe_glob (v := .ref (cs 12)) (by rfl) T.m_NoView rfl) pa_nil))) (pa_cons (pe_callB call_isX (by rfl) T.z_isinstance (by decide +kernel) (pa_cons (pv 0) (pa_cons (pe_glob (v := .ref (cs 13)) (by rfl) T.m_Twice rfl) pa_nil))) pa_nil)))))))
      (pss_one (ps_ret (pe_op op_cat (pv 1) (pe_lst (pa_cons (pe_callB call_isX (by rfl) T.z_isinstance (by decide +kernel) (pa_cons (pv 0) (pa_cons (pe_glob (v := .ref (cs 14)) (by rfl) T.m_TooMany rfl) pa_nil))) (pa_cons (pe_callB call_isX (by rfl) T.z_isinstance (by decide +kernel) (pa_cons (pv 0) (pa_cons (pe_glob (v := .ref (cs 15)) (by rfl) T.m_Impossible rfl) pa_nil))) (pa_cons (pe_callB call_isX (by rfl) T.z_isinstance (by decide +kernel) (pa_cons (pv 0) (pa_cons (pe_glob (v := .ref (cs 16)) (by rfl) T.m_BadText rfl) pa_nil))) (pa_cons (pe_callB call_isX (by rfl) T.z_isinstance (by decide +kernel) (pa_cons (pv 0) (pa_cons (pe_glob (v := .ref (cs 17)) (by rfl) T.m_Out rfl) pa_nil))) pa_nil)))))))))))), ?_⟩
    refine ⟨_, rfl, a, cs i, _, _, _, rfl, he, cx, fun u r => r, T.isi i 1 hi (by decide), ?_⟩
    refine ⟨_, rfl, a, cs i, _, _, _, rfl, he, cx, fun u r => r, T.isi i 2 hi (by decide), ?_⟩
    refine ⟨_, rfl, a, cs i, _, _, _, rfl, he, cx, fun u r => r, T.isi i 3 hi (by decide), ?_⟩
    refine ⟨_, rfl, a, cs i, _, _, _, rfl, he, cx, fun u r => r, T.isi i 4 hi (by decide), ?_⟩
    refine ⟨(show 4 ≤ sizeLine by decide), fun b0 hb0 => ?_⟩
    have y0 := Ex.nw (o := .lst [.bl (subT i 1), .bl (subT i 2), .bl (subT i 3), .bl (subT i 4)]) hb0
    have f0 := Ei.ex y0 he
    refine ⟨_, rfl, ?_⟩
    refine ⟨_, rfl, a, cs i, _, _, _, rfl, f0, cx, fun u r => r, T.isi i 5 hi (by decide), ?_⟩
    refine ⟨_, rfl, a, cs i, _, _, _, rfl, f0, cx, fun u r => r, T.isi i 6 hi (by decide), ?_⟩
    refine ⟨_, rfl, a, cs i, _, _, _, rfl, f0, cx, fun u r => r, T.isi i 7 hi (by decide), ?_⟩
    refine ⟨_, rfl, a, cs i, _, _, _, rfl, f0, cx, fun u r => r, T.isi i 8 hi (by decide), ?_⟩
    refine ⟨(show 4 ≤ sizeLine by decide), fun b1 hb1 => ?_⟩
    have y1 := Ex.nw (o := .lst [.bl (subT i 5), .bl (subT i 6), .bl (subT i 7), .bl (subT i 8)]) hb1
    have f1 := Ei.ex y1 f0
    refine ⟨b0, b1, _, _, rfl, rfl, y1 _ _ upd_same, upd_same, (show 8 ≤ sizeLine by decide), fun c1 hc1 => ?_⟩
    have z1 := Ex.nw (o := .lst [.bl (subT i 1), .bl (subT i 2), .bl (subT i 3), .bl (subT i 4), .bl (subT i 5), .bl (subT i 6), .bl (subT i 7), .bl (subT i 8)]) hc1
    have e1 := Ei.ex z1 f1
    refine ⟨_, rfl, ?_⟩
    refine ⟨_, rfl, a, cs i, _, _, _, rfl, e1, cx, fun u r => r, T.isi i 9 hi (by decide), ?_⟩
    refine ⟨_, rfl, a, cs i, _, _, _, rfl, e1, cx, fun u r => r, T.isi i 11 hi (by decide), ?_⟩
    refine ⟨_, rfl, a, cs i, _, _, _, rfl, e1, cx, fun u r => r, T.isi i 12 hi (by decide), ?_⟩
    refine ⟨_, rfl, a, cs i, _, _, _, rfl, e1, cx, fun u r => r, T.isi i 13 hi (by decide), ?_⟩
    refine ⟨(show 4 ≤ sizeLine by decide), fun b2 hb2 => ?_⟩
    have y2 := Ex.nw (o := .lst [.bl (subT i 9), .bl (subT i 11), .bl (subT i 12), .bl (subT i 13)]) hb2
    have f2 := Ei.ex y2 e1
    refine ⟨c1, b2, _, _, rfl, rfl, y2 _ _ upd_same, upd_same, (show 12 ≤ sizeLine by decide), fun c2 hc2 => ?_⟩
    have z2 := Ex.nw (o := .lst [.bl (subT i 1), .bl (subT i 2), .bl (subT i 3), .bl (subT i 4), .bl (subT i 5), .bl (subT i 6), .bl (subT i 7), .bl (subT i 8), .bl (subT i 9), .bl (subT i 11), .bl (subT i 12), .bl (subT i 13)]) hc2
    have e2 := Ei.ex z2 f2
    refine ⟨_, rfl, ?_⟩
    refine ⟨_, rfl, a, cs i, _, _, _, rfl, e2, cx, fun u r => r, T.isi i 14 hi (by decide), ?_⟩
    refine ⟨_, rfl, a, cs i, _, _, _, rfl, e2, cx, fun u r => r, T.isi i 15 hi (by decide), ?_⟩
    refine ⟨_, rfl, a, cs i, _, _, _, rfl, e2, cx, fun u r => r, T.isi i 16 hi (by decide), ?_⟩
    refine ⟨_, rfl, a, cs i, _, _, _, rfl, e2, cx, fun u r => r, T.isi i 17 hi (by decide), ?_⟩
    refine ⟨(show 4 ≤ sizeLine by decide), fun b3 hb3 => ?_⟩
    have y3 := Ex.nw (o := .lst [.bl (subT i 14), .bl (subT i 15), .bl (subT i 16), .bl (subT i 17)]) hb3
    have f3 := Ei.ex y3 e2
    refine ⟨c2, b3, _, _, rfl, rfl, y3 _ _ upd_same, upd_same, (show 16 ≤ sizeLine by decide), fun c3 hc3 => ?_⟩
    have z3 := Ex.nw (o := .lst [.bl (subT i 1), .bl (subT i 2), .bl (subT i 3), .bl (subT i 4), .bl (subT i 5), .bl (subT i 6), .bl (subT i 7), .bl (subT i 8), .bl (subT i 9), .bl (subT i 11), .bl (subT i 12), .bl (subT i 13), .bl (subT i 14), .bl (subT i 15), .bl (subT i 16), .bl (subT i 17)]) hc3
    have e3 := Ei.ex z3 f3
    exact k c3 _ ((((((y0.tr y1).tr z1).tr y2).tr z2).tr y3).no hc3) ((((((y0.tr y1).tr z1).tr y2).tr z2).tr y3).tr z3) upd_same
end
end Mine
namespace Mine
open PySem PySem.Spec PyProof.Rows L2 GL
section
variable {P : Program} {w : World} {K : PySem.W.Frag} {mg : Str → Option Value} {base : Heap} {fs : Nat → Addr} {fd : Nat → FuncData} {tk : Nat → Tok} {cs : Nat → Addr}
theorem ok_Lclasses (T : Txt K mg fs fd tk cs) : FnG P w K mg base CX0 1 (fs 4) (fd 4) P_Lclasses (spClasses cs) := (okq_Lclasses T).cold
theorem dp_bl2 {H : Hp} : ∀ bs : List Bool, SeqAt.shaped (.list (bs.map PyData.bool)) = true := fun bs => by
  have h := bools_show bs
  have h2 : ∀ bs : List Bool, PyData.canLayAll0 (bs.map PyData.bool) = true := fun bs => by
    induction bs with
    | nil => rfl
    | cons b r ih => simp only [List.map_cons, PyData.canLayAll0, PyData.canLay0, ih]; rfl
  show (PyData.canLay0 (.list _) && decide (PyData.depth (.list _) ≤ 64)) = true
  simp only [PyData.canLay0, PyData.depth, h2, h.2.2.1]; decide
theorem eqv_bl : ∀ bs ds : List Bool, PyData.eqvAll (bs.map PyData.bool) (ds.map PyData.bool) = decide (bs = ds)
  | [], [] => rfl
  | [], m :: ms => by simp [PyData.eqvAll]
  | n :: ns, [] => by simp [PyData.eqvAll]
  | n :: ns, m :: ms => by
    have ih := eqv_bl ns ms
    simp only [List.map_cons, PyData.eqvAll, ih]
    have e : PyData.eqv (.bool n) (.bool m) = decide (n = m) := by cases n <;> cases m <;> rfl
    rw [e]
    by_cases h : n = m <;> by_cases h' : ns = ms <;> simp [h, h']
theorem in_spot : ∀ s, s < 16 → inV (.int ((s : Nat) : Int)) [.int 9, .int 10] = (s == 9 || s == 10) := by decide
theorem ok_Lalone (T : Txt K mg fs fd tk cs) : FnG P w K mg base CX0 2 (fs 5) (fd 5) P_Lalone (spAlone cs) := by
  refine Fun.okG T.f_Lalone sc_Lalone (fun vs H Q E h => ?_) (fun cd A out s H vs Q E gd hr h => ?_)
  · obtain ⟨a, s, rfl, _⟩ := h
    rfl
  · obtain ⟨a, sp, rfl, hs, he, k⟩ := h
    obtain ⟨hb, hi⟩ := base_spot sp hs
    have cx := clsX_all T (clsOf sp) hi
    refine ⟨_, PSs.nox ((pss_cons (ps_if (PW.pt (pw_or (pt_not (pt_val (pe_callB call_isX (by rfl) T.z_isinstance (by decide +kernel) (pa_cons (pv 0) (pa_cons (pe_glob (v := .ref (cs 0)) (by rfl) T.m_StripError rfl) pa_nil))))) (pw_or1 (pt_not (pt_val (pe_callB call_isX (by rfl) T.z_isinstance (by decide +kernel) (pa_cons (pv 0) (pa_cons (pe_bltn (v := .ty "ValueError") (u := .type "ValueError") (by rfl) T.z_ValueError (by decide +kernel) rfl) pa_nil))))))))
        (pss_one (ps_ret (pe_bl)))
        pss_nil)
      (pss_cons (ps_if (pt_val (pe_callB call_isXT (by rfl) T.z_isinstance (by decide +kernel) (pa_cons (pv 0) (pa_cons (pe_tup (pa_cons (pe_bltn (v := .ty "TypeError") (u := .type "TypeError") (by rfl) T.z_TypeError (by decide +kernel) rfl) (pa_cons (pe_bltn (v := .ty "LookupError") (u := .type "LookupError") (by rfl) T.z_LookupError (by decide +kernel) rfl) (pa_cons (pe_bltn (v := .ty "ArithmeticError") (u := .type "ArithmeticError") (by rfl) T.z_ArithmeticError (by decide +kernel) rfl) (pa_cons (pe_bltn (v := .ty "RuntimeError") (u := .type "RuntimeError") (by rfl) T.z_RuntimeError (by decide +kernel) rfl) (pa_cons (pe_bltn (v := .ty "AttributeError") (u := .type "AttributeError") (by rfl) T.z_AttributeError (by decide +kernel) rfl) pa_nil)))))) pa_nil))))
        (pss_one (ps_ret (pe_bl)))
        pss_nil)
      (pss_one (ps_ret (pe_and (pe_cmpR (op_eqX hr.units) (pg_call (ok_Lclasses T) gd (hr.mono (by decide)) (by rfl) T.m_Lclasses T.f_Lclasses.kp (b_Lclasses T) .nil pass0 (pa_cons (pv 0) pa_nil)) (pe_lc (own := [("_law_at", 2)]) (g := gName 2) (tt := tYes) rfl sc_Lalone.nd (pi_range1 (by rfl) T.z_range (pa_cons (pe_int) pa_nil)) (blkOk_by (own := [("_law_at", 2)]) (N := N_Lalone) (sc := defScope s_Lalone) (by decide +kernel)) (fun _ _ _ _ _ => (pg_name (i := 2) sc_Lalone.nd rfl (Or.inl rfl))) (fun _ _ _ _ _ => pts_nil) (fun _ _ _ _ _ => pe_cmpR op_eq (pv 2) (pv 1) (nomark _))) (nomark _)) (pe_one (pe_cmpR op_eq (pe_callB call_isX (by rfl) T.z_isinstance (by decide +kernel) (pa_cons (pv 0) (pa_cons (pe_glob (v := .ref (cs 10)) (by rfl) T.m_Missing rfl) pa_nil))) (pe_cmpR op_in_seq (pv 1) (pe_tup (pa_cons (pe_int) (pa_cons (pe_int) pa_nil))) (by rfl)) (nomark _))))))))), ?_⟩
    refine ⟨_, rfl, a, _, _, _, _, rfl, he, cx, fun u r => r, T.isi (clsOf sp) 0 hi (by decide), _, rfl, ?_⟩
    rw [hb]
    refine iteF ?_
    refine ⟨_, rfl, a, _, _, _, _, rfl, he, cx, fun u r => r, T.isv (clsOf sp) hi, _, rfl, ?_⟩
    refine iteF ?_
    refine ⟨_, rfl, (show 5 ≤ sizeLine by decide), fun t ht => ?_⟩
    have y0 := Ex.nw (o := .tup [.ty "TypeError", .ty "LookupError", .ty "ArithmeticError", .ty "RuntimeError", .ty "AttributeError"]) ht
    refine ⟨a, _, t, _, _, _, rfl, upd_same, Ei.ex y0 he, cx, .cons (.ty _) (.cons (.ty _) (.cons (.ty _) (.cons (.ty _) (.cons (.ty _) .nil)))), T.isn (clsOf sp) hi, _, rfl, ?_⟩
    refine iteF ?_
    have he1 := Ei.ex y0 he
    generalize upd H t (.tup [.ty "TypeError", .ty "LookupError", .ty "ArithmeticError", .ty "RuntimeError", .ty "AttributeError"]) = H1 at y0 he1 ⊢
    refine ⟨_, rfl, a, clsOf sp, rfl, hi, he1, fun b H2 hb2 e2 g2 => ?_⟩
    refine lc_map (p := a) (xs := ups 16) (Src.range ⟨by decide, by decide⟩ fun Q2 q2 => q2 _ (Ex.rfl' _)) (by decide) (fun x => V.bl (decide (x = V.int sp))) (fun x hx H3 e3 Q1 q1 => ?_) fun D H3 hD gD e3 => ?_
    · unfold ups at hx
      obtain ⟨j, _, rfl⟩ := List.mem_map.mp hx
      exact ⟨_, rfl, _, rfl, rfl, q1 _ (Ex.rfl' _)⟩
    have eD : (ups 16).map (fun x => V.bl (decide (x = V.int sp))) = (cl (clsOf sp)).map V.bl := by
      rw [cl_spot sp hs]
      unfold ups
      rw [List.map_map, List.map_map]
      refine List.map_congr_left fun j _ => ?_
      show V.bl (decide (V.int (j : Int) = V.int (sp : Int))) = V.bl (j == sp)
      congr 1
      by_cases c : j = sp
      · subst c; simp
      · rw [decide_eq_false (fun e => c (by injection e with e; omega))]
        exact (beq_eq_false_iff_ne.mpr c).symm
    rw [eD] at gD
    refine .inr ⟨.list ((cl (clsOf sp)).map PyData.bool), .list ((cl (clsOf sp)).map PyData.bool), .lst (SqL.of (e3 _ _ g2)) (dp_bools _), .lst (SqL.of gD) (dp_bools _), dp_bl2 (H := H) _, dp_bl2 (H := H) _, _, rfl, ?_⟩
    have ee : PyData.eqv (.list ((cl (clsOf sp)).map PyData.bool)) (.list ((cl (clsOf sp)).map PyData.bool)) = true := by
      simp only [PyData.eqv]
      rw [eqv_bl]; exact decide_eq_true rfl
    rw [ee]
    refine iteT ?_
    have he3 := Ei.ex (e2.tr e3) he1
    refine ⟨_, rfl, a, _, _, _, _, rfl, he3, cx, fun u r => r, T.isi (clsOf sp) 10 hi (by decide), _, rfl, (show 2 ≤ sizeLine by decide), fun u hu => ?_⟩
    have y4 := Ex.nw (o := .tup [.int 9, .int 10]) hu
    refine ⟨u, _, rfl, .inr (SqT.of upd_same), rfl, rfl, rfl, ?_⟩
    have e9 : inV (.int (sp : Int)) [.int 9, .int 10] = (sp == 9 || sp == 10) := by
      exact in_spot sp hs
    rw [miss_spot sp hs]
    show Q (.bl (decide (V.bl (sp == 9 || sp == 10) = V.bl (inV (.int (sp : Int)) [.int 9, .int 10])))) _
    rw [e9, decide_eq_true rfl]
    exact k _ ((((y0.tr e2).tr e3)).tr y4)
def hide (p : Addr) (H : Hp) : Hp := fun a => if a = p then none else H a
theorem hide_at {p a : Addr} {H : Hp} {o : HO} (n : a ≠ p) (h : H a = some o) : hide p H a = some o := by unfold hide; rw [if_neg n]; exact h
theorem Th.of {p : Addr} {H H' : Hp} {v : V} {d : PyData} (h : Dz (hide p H) v d 5 2000) (k : Kp p H H') : Th p H' v :=
  ⟨d, hide p H, h, fun a o e => by
    unfold hide at e
    split at e
    · cases e
    · rename_i n; exact k a o n e, if_pos rfl⟩
theorem ok_Lthing (T : Txt K mg fs fd tk cs) : FnG P w K mg base CX0 3 (fs 3) (fd 3) P_Lthing spThing := by
  refine Fun.okG T.f_Lthing sc_Lthing (fun vs H Q E h => ?_) (fun cd A out s H vs Q E gd hr h => ?_)
  · obtain ⟨p, c, n, rfl, _⟩ := h
    rfl
  · obtain ⟨p, c, n, rfl, r, hn, k⟩ := h
    refine ⟨_, PSs.nox ((pss_cons (ps_set (i := 1) sc_Lthing.nd rfl (by first | exact Or.inl rfl | exact Or.inr rfl) (pe_op op_sub (pg_call (ok_Lreach T) gd (hr.mono (by decide)) (by rfl) T.m_Lreach T.f_Lreach.kp (b_Lreach T) .nil pass0 (pa_cons (pv 0) (pa_cons (pe_op op_pow (pe_int) (pe_int)) pa_nil))) (pe_int)))
      (pss_cons (ps_set (i := 2) sc_Lthing.nd rfl (by first | exact Or.inl rfl | exact Or.inr rfl) (pe_lst (pa_cons (pv 1) (pa_cons (pe_un un_neg (pv 1)) (pa_cons (pe_callTy call_str_int (by rfl) T.z_str (by decide +kernel) (pa_cons (pv 1) pa_nil)) (pa_cons (pe_str) (pa_cons (pe_non) (pa_cons (pe_bl) (pa_cons (pe_bl) (pa_cons (pe_lst (pa_cons (pv 1) pa_nil)) (pa_cons (pe_tup (pa_cons (pv 1) (pa_cons (pe_lst (pa_cons (pe_non) (pa_cons (pe_tup pa_nil) pa_nil))) pa_nil))) (pa_cons (pe_dnewK) (pa_cons (pe_disp (pps_cons (pe_str) (pv 1) pps_nil) (by rfl) (by rfl) (fun z => by cases z) (by decide)) (pa_cons (pe_op op_add (pe_op op_pow (pe_int) (pe_int)) (pv 1)) (pa_cons (pe_tup pa_nil) (pa_cons (pe_lst (pa_cons (pe_lst pa_nil) pa_nil)) pa_nil))))))))))))))))
      (pss_one (ps_ret (pg_call (ok_Lpick T) gd (hr.mono (by decide)) (by rfl) T.m_Lpick T.f_Lpick.kp (b_Lpick T) .nil pass0 (pa_cons (pv 0) (pa_cons (pv 2) pa_nil)))))))), ?_⟩
    have cp : CPow 10 6 := ⟨by decide, by decide, by decide⟩
    have cp5 : CPow 10 50 := ⟨by decide, by decide, by decide⟩
    refine ⟨_, rfl, 10, 6, rfl, rfl, cp, p, c, 10 ^ (6 : Int).toNat, n, rfl, r, by omega, by decide, by decide, fun m H1 m0 m1 k1 kp1 => ⟨_, _, rfl, rfl, ?_⟩⟩
    have hm : (m - 400000).natAbs < 10 ^ 7 := by
      have : (10 : Int) ^ (6 : Int).toNat = 1000000 := by decide
      omega
    show gName 1 (V.int (m - 400000)) _ _ _
    generalize m - 400000 = z at hm ⊢
    have hz60 : z.natAbs < 10 ^ 60 := Nat.lt_trans hm (by decide)
    have hzn : (-z).natAbs < 10 ^ 60 := by rw [Int.natAbs_neg]; exact hz60
    have hlog : z.natAbs.log2 < 1920 := by
      by_cases h0 : z.natAbs = 0
      · rw [h0]; decide
      · have h2 : z.natAbs.log2 < 200 := (Nat.log2_lt h0).mpr (Nat.lt_trans hz60 (by decide))
        omega
    have hbig : ((10 : Int) ^ (50 : Int).toNat + z).natAbs < 10 ^ 60 := by
      have e : (10 : Int) ^ (50 : Int).toNat = 100000000000000000000000000000000000000000000000000 := by decide
      rw [e]
      have e2 : (10 : Nat) ^ 60 = 1000000000000000000000000000000000000000000000000000000000000 := by decide
      rw [e2]
      omega
    have hlen : (Str.ofString (toString z)).length ≤ 100 := by
      rw [PySem.ofString_length]
      have := int_text_length_le10 (k := 7) (by decide) hm
      omega
    refine ⟨_, rfl, _, rfl, z, rfl, _, rfl, z, rfl, hlog, _, rfl, (show 1 ≤ sizeLine by decide), fun l1 hl1 => ?_⟩
    refine ⟨_, rfl, (show 0 ≤ sizeLine by decide), fun t0 ht0 => ⟨(show 2 ≤ sizeLine by decide), fun l2 hl2 => ⟨(show 2 ≤ sizeLine by decide), fun t1 ht1 => ?_⟩⟩⟩
    intro d0 hd0
    intro d1 hd1
    refine ⟨_, rfl, upd_same, [(.inr (Str.ofString "a"), .int z)], rfl, (show 1 ≤ 15 by decide), ?_⟩
    rw [upd_upd]
    refine ⟨10, 50, rfl, rfl, cp5, _, rfl, _, _, rfl, rfl, (show 0 ≤ sizeLine by decide), fun t2 ht2 => ⟨(show 0 ≤ sizeLine by decide), fun l3 hl3 => ⟨(show 1 ≤ sizeLine by decide), fun l4 hl4 => ⟨(show 14 ≤ sizeLine by decide), fun U hU => ?_⟩⟩⟩⟩
    have y1 := Ex.nw (o := .lst [.int z]) hl1
    have y2 := Ex.nw (o := .tup []) ht0
    have y3 := Ex.nw (o := .lst [.non, .ref t0]) hl2
    have y4 := Ex.nw (o := .tup [.int z, .ref l2]) ht1
    have y5 := Ex.nw (o := .dK []) hd0
    have y6 := Ex.nw (o := .dK (mergeK [] [((.inr (Str.ofString "a") : Key), V.int z)])) hd1
    have y7 := Ex.nw (o := .tup []) ht2
    have y8 := Ex.nw (o := .lst []) hl3
    have y9 := Ex.nw (o := .lst [.ref l3]) hl4
    have yU := Ex.nw (o := .lst [.int z, .int (-z), .str (Str.ofString (toString z)), .str (Str.ofString ""), .non, .bl true, .bl false, .ref l1, .ref t1, .ref d0, .ref d1, .int (10 ^ (50 : Int).toNat + z), .ref t2, .ref l4]) hU
    have x2 := y1.tr y2
    have x3 := x2.tr y3
    have x4 := x3.tr y4
    have x5 := x4.tr y5
    have x6 := x5.tr y6
    have x7 := x6.tr y7
    have x8 := x7.tr y8
    have x9 := x8.tr y9
    have xU := x9.tr yU
    have n1 := k1.ne hl1
    have n2 := (k1.kp y1).ne ht0
    have n3 := (k1.kp x2).ne hl2
    have n4 := (k1.kp x3).ne ht1
    have n5 := (k1.kp x4).ne hd0
    have n6 := (k1.kp x5).ne hd1
    have n7 := (k1.kp x6).ne ht2
    have n8 := (k1.kp x7).ne hl3
    have n9 := (k1.kp x8).ne hl4
    have nU := (k1.kp x9).ne hU
    have g9 := yU _ _ (upd_same (H := _) (a := l4) (o := .lst [.ref l3]))
    have z8 := y9.tr yU
    have g8 := z8 _ _ (upd_same (H := _) (a := l3) (o := .lst []))
    have z7 := y8.tr z8
    have g7 := z7 _ _ (upd_same (H := _) (a := t2) (o := .tup []))
    have z6 := y7.tr z7
    have g6 := z6 _ _ (upd_same (H := _) (a := d1) (o := .dK (mergeK [] [((.inr (Str.ofString "a") : Key), V.int z)])))
    have z5 := y6.tr z6
    have g5 := z5 _ _ (upd_same (H := _) (a := d0) (o := .dK []))
    have z4 := y5.tr z5
    have g4 := z4 _ _ (upd_same (H := _) (a := t1) (o := .tup [.int z, .ref l2]))
    have z3 := y4.tr z4
    have g3 := z3 _ _ (upd_same (H := _) (a := l2) (o := .lst [.non, .ref t0]))
    have z2 := y3.tr z3
    have g2 := z2 _ _ (upd_same (H := _) (a := t0) (o := .tup []))
    have g1 := (y2.tr z2) _ _ (upd_same (H := _) (a := l1) (o := .lst [.int z]))
    refine ⟨_, rfl, _, rfl, p, c, .ref U, n + 1, rfl, k1.kp xU, by omega, .inl ⟨U, _, rfl, nU, upd_same, by simp, by show 14 < 1000000; decide, fun v H9 hv k9 kp9 => ?_⟩⟩
    refine k v H9 ?_ k9 ((kp1.ex xU).tr kp9)
    clear z2 z3 z4 z5 z6 z7 z8 y1 y2 y3 y4 y5 y6 y7 y8 y9 yU x2 x3 x4 x5 x6 x7 x8 x9 xU k9 hl1 ht0 hl2 ht1 hd0 hd1 ht2 hl3 hl4 hU k
    have em : mergeK [] [((.inr (Str.ofString "a") : Key), V.int z)] = [(.inr (Str.ofString "a"), .int z)] := rfl
    rw [em] at *
    generalize upd _ U _ = HU at *
    have dz : ∀ {i : Int}, i.natAbs < 10 ^ 60 → Dz (hide p HU) (.int i) (.int i) 0 300 := fun h => Dz.int h
    simp only [List.mem_cons, List.not_mem_nil, or_false] at hv
    rcases hv with rfl | rfl | rfl | rfl | rfl | rfl | rfl | rfl | rfl | rfl | rfl | rfl | rfl | rfl
    · exact Th.of ((dz hz60).le (by decide) (by decide)) kp9
    · exact Th.of ((dz hzn).le (by decide) (by decide)) kp9
    · exact Th.of (Dz.str.le (by decide) (Nat.le_trans hlen (by decide))) kp9
    · exact Th.of (Dz.str.le (by decide) (by decide)) kp9
    · exact Th.of (Dz.non.le (by decide) (by decide)) kp9
    · exact Th.of (Dz.bl.le (by decide) (by decide)) kp9
    · exact Th.of (Dz.bl.le (by decide) (by decide)) kp9
    · exact Th.of ((Dz.lst (hide_at n1 g1) (.cons (dz hz60) .nil)).le (by decide) (by decide)) kp9
    · exact Th.of ((Dz.tup (hide_at n4 g4) (.cons (dz hz60) (.cons (Dz.lst (hide_at n3 g3) (.cons .non (.cons (Dz.tup (hide_at n2 g2) .nil) .nil))) .nil))).le (by decide) (by decide)) kp9
    · exact Th.of ((Dz.dic0 (hide_at n5 g5)).le (by decide) (by decide)) kp9
    · exact Th.of ((Dz.dic1 (hide_at n6 g6) (by decide) (dz hz60)).le (by decide) (by decide)) kp9
    · exact Th.of ((dz hbig).le (by decide) (by decide)) kp9
    · exact Th.of ((Dz.tup (hide_at n7 g7) .nil).le (by decide) (by decide)) kp9
    · exact Th.of ((Dz.lst (hide_at n9 g9) (.cons (Dz.lst (hide_at n8 g8) .nil) .nil)).le (by decide) (by decide)) kp9
end
end Mine
set_option maxHeartbeats 400000
namespace Mine
open PySem PySem.Spec PyProof.Rows L2 GL
section
variable {P : Program} {w : World} {K : PySem.W.Frag} {mg : Str → Option Value} {base : Heap} {fs : Nat → Addr} {fd : Nat → FuncData} {tk : Nat → Tok} {cs : Nat → Addr}
theorem for_ez2 {K : PySem.W.Frag} {a b z TI TO : Addr} {xs ys : List V} {n : Nat} {g : TG} {tb : TS} {nx : L2.St → Hp → Prop} {rt : VK} {σ : L2.St} {H : Hp} (hx : xs.length = n) (hy : ys.length = n) (n0 : 0 < n) (Pv : Nat → L2.St → Hp → Prop) (h0 : Pv 0 σ H)
    (hG : ∀ i σ H, Pv i σ H → SqL K H a xs ∧ SqL K H b ys ∧ Zst z TI TO H ∧ (0 < i → ∃ T ts, H z = some (zHeld z TI TO T) ∧ H T = some (.tup ts)))
    (hs : ∀ i σ H P T x y zo H', i < n → Pv i σ H → xs[i]? = some x → ys[i]? = some y → H P = none → H T = none → T ≠ P → H' = upd (upd (upd H z zo) T (.tup [x, y])) P (.tup [.int (i : Nat), .ref T]) → (∃ T ts, H' z = some (zHeld z TI TO T) ∧ H' T = some (.tup ts)) →
      g (.ref P) σ H' fun σ2 H2 => tb { nx := Pv (i + 1), rt := rt, bk := nx, ct := Pv (i + 1) } σ2 H2) (hd : ∀ σ H, Pv n σ H → nx σ H) :
    ∃ W : Nat → Nat → L2.St → Hp → Prop, (∃ m, W 0 m σ H) ∧ ∀ i m σ H, W i m σ H →
      ((Itez K a b z TI TO).stop i H ∧ nx σ H) ∨ ((Itez K a b z TI TO).go i H ∧ ∃ N : L2.St → Hp → Prop, (∀ σ' H', N σ' H' → ∃ m', m' < m ∧ W (i + 1) m' σ' H') ∧ ∀ x H', (Itez K a b z TI TO).yld i H x H' → g x σ H' fun σ2 H2 => tb { nx := N, rt := rt, bk := nx, ct := N } σ2 H2) := by
  refine ⟨fun i m σ H => m = n - i ∧ i ≤ n ∧ Pv i σ H, ⟨n, by simp, Nat.zero_le _, h0⟩, ?_⟩
  rintro i m σ H ⟨rfl, hi, p⟩
  obtain ⟨q1, q2, q3, q4⟩ := hG i σ H p
  by_cases hlt : i < n
  · have e1 : i < xs.length := by omega
    have e2 : i < ys.length := by omega
    refine .inr ⟨⟨q3, xs, ys, xs[i], ys[i], q1, q2, by simp [e1], by simp [e2]⟩, Pv (i + 1), fun σ' H' p' => ⟨n - (i + 1), by omega, rfl, hlt, p'⟩, fun v H' y => ?_⟩
    obtain ⟨P, T, x, y, zo, rfl, h1, h2, h3, h4, h5, h6, h7⟩ := y
    exact hs i σ H P T x y zo H' hlt p (h6 xs q1) (h7 ys q2) h1 h2 h3 h4 h5
  · have e : i = n := by omega
    subst e
    exact .inl ⟨⟨q4 n0, xs, ys, q1, q2, .inl (by omega)⟩, hd σ H p⟩
theorem Th.da {p : Addr} {H : Hp} {v : V} (h : Th p H v) : ∃ d, ∀ H', Ex H H' → Da H' v d := by
  obtain ⟨d, G, h1, h2, h3⟩ := h
  exact ⟨d, fun H' e => ((h1.ex h2).ex e).da (by decide) (by decide)⟩
theorem fld_part (T : Txt K mg fs fd tk cs) : ∀ s, s < 9 → PySem.W.findIn K (.ref (cs (s + 1))) "part" = some none := fun s hs => by
  match s, hs with
  | 0, _ => exact T.n_BadNumber_part
  | 1, _ => exact T.n_BadName_part
  | 2, _ => exact T.n_BadContents_part
  | 3, _ => exact T.n_BadDisk_part
  | 4, _ => exact T.n_BadLayout_part
  | 5, _ => exact T.n_BadDeeds_part
  | 6, _ => exact T.n_BadPrices_part
  | 7, _ => exact T.n_BadStore_part
  | 8, _ => exact T.n_Misfit_part
  | i + 9, h => omega
theorem js9 : ∀ i, i < 9 → [1, 2, 3, 4, 5, 6, 7, 8, 9][i]? = some (i + 1) := by decide
theorem ok_Lparts_right (sb : SmB base) (T : Txt K mg fs fd tk cs) : FnG P w K mg base CX0 3 (fs 6) (fd 6) P_Lparts_right spOne := by
  refine Fun.okG T.f_Lparts_right sc_Lparts_right (fun vs H Q E h => ?_) (fun cd A out s H vs Q E gd hr h => ?_)
  · obtain ⟨p, v, rfl, _⟩ := h
    rfl
  · obtain ⟨p, one, rfl, hT, k⟩ := h
    obtain ⟨d, hda⟩ := Th.da hT
    refine ⟨_, PSs.nox ((pss_cons (ps_set (i := 1) sc_Lparts_right.nd rfl (by first | exact Or.inl rfl | exact Or.inr rfl) (pe_lst (pa_cons (pe_newX T.x_BadNumber T.i_BadNumber T.t_BadNumber (ok_BadNumber_init T) gd (hr.mono (by decide)) pass0 inits1 (b_BadNumber_init T) (by rfl) T.m_BadNumber (pa_cons (pv 0) pa_nil)) (pa_cons (pe_newX T.x_BadName T.i_BadName T.t_BadName (ok_BadName_init T) gd (hr.mono (by decide)) pass0 inits1 (b_BadName_init T) (by rfl) T.m_BadName (pa_cons (pv 0) pa_nil)) (pa_cons (pe_newX T.x_BadContents T.i_BadContents T.t_BadContents (ok_BadContents_init T) gd (hr.mono (by decide)) pass0 inits1 (b_BadContents_init T) (by rfl) T.m_BadContents (pa_cons (pv 0) pa_nil)) (pa_cons (pe_newX T.x_BadDisk T.i_BadDisk T.t_BadDisk (ok_BadDisk_init T) gd (hr.mono (by decide)) pass0 inits1 (b_BadDisk_init T) (by rfl) T.m_BadDisk (pa_cons (pv 0) pa_nil)) (pa_cons (pe_newX T.x_BadLayout T.i_BadLayout T.t_BadLayout (ok_BadLayout_init T) gd (hr.mono (by decide)) pass0 inits1 (b_BadLayout_init T) (by rfl) T.m_BadLayout (pa_cons (pv 0) pa_nil)) (pa_cons (pe_newX T.x_BadDeeds T.i_BadDeeds T.t_BadDeeds (ok_BadDeeds_init T) gd (hr.mono (by decide)) pass0 inits1 (b_BadDeeds_init T) (by rfl) T.m_BadDeeds (pa_cons (pv 0) pa_nil)) (pa_cons (pe_newX T.x_BadPrices T.i_BadPrices T.t_BadPrices (ok_BadPrices_init T) gd (hr.mono (by decide)) pass0 inits1 (b_BadPrices_init T) (by rfl) T.m_BadPrices (pa_cons (pv 0) pa_nil)) (pa_cons (pe_newX T.x_BadStore T.i_BadStore T.t_BadStore (ok_BadStore_init T) gd (hr.mono (by decide)) pass0 inits1 (b_BadStore_init T) (by rfl) T.m_BadStore (pa_cons (pv 0) pa_nil)) (pa_cons (pe_newX T.x_Misfit T.i_Misfit T.t_Misfit (ok_Misfit_init T) gd (hr.mono (by decide)) pass0 inits1 (b_Misfit_init T) (by rfl) T.m_Misfit (pa_cons (pv 0) pa_nil)) pa_nil)))))))))))
      (pss_cons (ps_set (i := 2) sc_Lparts_right.nd rfl (by first | exact Or.inl rfl | exact Or.inr rfl) (pe_lst (pa_cons (pe_newK (gC := gcI) T.x_BadNumber T.i_BadNumber T.t_BadNumber (ok_BadNumber_init T) gd (hr.mono (by decide)) pass0 inits1 (kw_BadNumber_init_1_part T) hgc_BadNumber hrc (by rfl) T.m_BadNumber (pk_cons (pv 0) pk_nil)) (pa_cons (pe_newK (gC := gcI) T.x_BadName T.i_BadName T.t_BadName (ok_BadName_init T) gd (hr.mono (by decide)) pass0 inits1 (kw_BadName_init_1_part T) hgc_BadName hrc (by rfl) T.m_BadName (pk_cons (pv 0) pk_nil)) (pa_cons (pe_newK (gC := gcI) T.x_BadContents T.i_BadContents T.t_BadContents (ok_BadContents_init T) gd (hr.mono (by decide)) pass0 inits1 (kw_BadContents_init_1_part T) hgc_BadContents hrc (by rfl) T.m_BadContents (pk_cons (pv 0) pk_nil)) (pa_cons (pe_newK (gC := gcI) T.x_BadDisk T.i_BadDisk T.t_BadDisk (ok_BadDisk_init T) gd (hr.mono (by decide)) pass0 inits1 (kw_BadDisk_init_1_part T) hgc_BadDisk hrc (by rfl) T.m_BadDisk (pk_cons (pv 0) pk_nil)) (pa_cons (pe_newK (gC := gcI) T.x_BadLayout T.i_BadLayout T.t_BadLayout (ok_BadLayout_init T) gd (hr.mono (by decide)) pass0 inits1 (kw_BadLayout_init_1_part T) hgc_BadLayout hrc (by rfl) T.m_BadLayout (pk_cons (pv 0) pk_nil)) pa_nil)))))))
      (pss_cons (ps_set (i := 2) sc_Lparts_right.nd rfl (by first | exact Or.inl rfl | exact Or.inr rfl) (pe_op op_cat (pv 2) (pe_lst (pa_cons (pe_newK (gC := gcI) T.x_BadDeeds T.i_BadDeeds T.t_BadDeeds (ok_BadDeeds_init T) gd (hr.mono (by decide)) pass0 inits1 (kw_BadDeeds_init_1_part T) hgc_BadDeeds hrc (by rfl) T.m_BadDeeds (pk_cons (pv 0) pk_nil)) (pa_cons (pe_newK (gC := gcI) T.x_BadPrices T.i_BadPrices T.t_BadPrices (ok_BadPrices_init T) gd (hr.mono (by decide)) pass0 inits1 (kw_BadPrices_init_1_part T) hgc_BadPrices hrc (by rfl) T.m_BadPrices (pk_cons (pv 0) pk_nil)) (pa_cons (pe_newK (gC := gcI) T.x_BadStore T.i_BadStore T.t_BadStore (ok_BadStore_init T) gd (hr.mono (by decide)) pass0 inits1 (kw_BadStore_init_1_part T) hgc_BadStore hrc (by rfl) T.m_BadStore (pk_cons (pv 0) pk_nil)) (pa_cons (pe_newK (gC := gcI) T.x_Misfit T.i_Misfit T.t_Misfit (ok_Misfit_init T) gd (hr.mono (by decide)) pass0 inits1 (kw_Misfit_init_1_part T) hgc_Misfit hrc (by rfl) T.m_Misfit (pk_cons (pv 0) pk_nil)) pa_nil)))))))
      (pss_cons (ps_for PassesOwn.never rfl (pi_ez (by rfl) T.z_enumerate (by rfl) T.z_zip (pa_cons (pv 1) (pa_cons (pv 2) pa_nil))) (pg_tup rfl (pgs_cons (pg_name (i := 3) sc_Lparts_right.nd rfl (by first | exact Or.inl rfl | exact Or.inr rfl)) (pgs_cons (pg_name (i := 4) sc_Lparts_right.nd rfl (by first | exact Or.inl rfl | exact Or.inr rfl)) pgs_nil)))
        (pss_one (ps_if (pt_cmpR (op_neX hr.units) (pe_lc (own := [("_law_error", 5)]) (g := gName 5) rfl sc_Lparts_right.nd (pi_tup (pv 4)) (blkOk_by (own := [("_law_error", 5)]) (N := N_Lparts_right) (sc := defScope s_Lparts_right) (by decide +kernel)) (fun _ _ _ _ _ => (pg_name (i := 5) sc_Lparts_right.nd rfl (Or.inl rfl))) (fun _ _ _ _ _ => (pts_one (PW.pt (pw_or (pt_cmpR op_ne (pe_callB (call_reprQ sb gd hr) (by rfl) T.z_repr (by decide +kernel) (pa_cons ((show PE _ _ (tAtX K "part" (tVar 5)) from pe_atX (pv 5))) pa_nil)) (pe_callB (call_reprQ sb gd hr) (by rfl) T.z_repr (by decide +kernel) (pa_cons (pv 0) pa_nil)) (nomark _)) (pw_or1 (pt_not (pt_val (pg_call (ok_Lalone T) gd (hr.mono (by decide)) (by rfl) T.m_Lalone T.f_Lalone.kp (b_Lalone T) .nil pass0 (pa_cons (pv 5) (pa_cons (pv 3) pa_nil)))))))))) (fun _ _ _ _ _ => pv 5)) (pe_lst pa_nil) (nomark _))
          (pss_one (ps_ret (pe_bl)))
          pss_nil)))
      (pss_one (ps_ret (pe_bl)))))))), ?_⟩
    have c1 : ErsE cs ("part" : Str) one (L2.start N_Lparts_right [one]) [1, 2, 3, 4, 5, 6, 7, 8, 9] _ := (.pos (i := 0) rfl (.pos (i := 0) rfl (.pos (i := 0) rfl (.pos (i := 0) rfl (.pos (i := 0) rfl (.pos (i := 0) rfl (.pos (i := 0) rfl (.pos (i := 0) rfl (.pos (i := 0) rfl .nil)))))))))
    dsimp only [tSeq, tAsg, tLst]
    refine c1 H _ fun xs H1 e1 s1 => ⟨sz_le (by have : xs.length = 9 := Paired.length s1; omega), fun D1 hD1 => ?_⟩
    have y1 := Ex.nw (o := .lst xs) hD1
    have c2 : ErsE cs ("part" : Str) one ((L2.start N_Lparts_right [one]).set 1 (some (.ref D1))) [1, 2, 3, 4, 5] _ := (.kw (i := 0) rfl (.kw (i := 0) rfl (.kw (i := 0) rfl (.kw (i := 0) rfl (.kw (i := 0) rfl .nil)))))
    dsimp only [gName, tSeq, tAsg, tLst]
    refine c2 _ _ fun ys1 H2 e2 s2 => ⟨sz_le (by have : ys1.length = 5 := Paired.length s2; omega), fun D2 hD2 => ?_⟩
    have y2 := Ex.nw (o := .lst ys1) hD2
    have c3 : ErsE cs ("part" : Str) one (((L2.start N_Lparts_right [one]).set 1 (some (.ref D1))).set 2 (some (.ref D2))) [6, 7, 8, 9] _ := (.kw (i := 0) rfl (.kw (i := 0) rfl (.kw (i := 0) rfl (.kw (i := 0) rfl .nil))))
    dsimp only [gName, tSeq, tAsg, tLst, tOp]
    refine ⟨_, rfl, c3 _ _ fun ys2 H3 e3 s3 => ⟨sz_le (by have : ys2.length = 4 := Paired.length s3; omega), fun D3 hD3 => ?_⟩⟩
    have y3 := Ex.nw (o := .lst ys2) hD3
    have l1 : xs.length = 9 := Paired.length s1
    have l2 : ys1.length = 5 := Paired.length s2
    have l3 : ys2.length = 4 := Paired.length s3
    refine ⟨D2, D3, _, _, rfl, rfl, y3 _ _ (e3 _ _ upd_same), upd_same, sz_le (by omega), fun D4 hD4 => ?_⟩
    have y4 := Ex.nw (o := .lst (ys1 ++ ys2)) hD4
    have x34 := (e3.tr y3).tr y4
    have x24 := (e2.tr y2).tr x34
    have x4 := (e1.tr y1).tr x24
    have sx := s1.ex (y1.tr x24)
    have sy := (s2.ex (y2.tr x34)).app (s3.ex (y3.tr y4))
    have gx := x24 _ _ (upd_same (H := H1) (a := D1) (o := .lst xs))
    have gy := upd_same (H := upd H3 D3 (.lst ys2)) (a := D4) (o := .lst (ys1 ++ ys2))
    have ly : (ys1 ++ ys2).length = 9 := by rw [List.length_append]; omega
    generalize upd (upd H3 D3 (.lst ys2)) D4 (.lst (ys1 ++ ys2)) = H4 at x4 sx sy gx gy ⊢
    generalize ys1 ++ ys2 = ys at sy gy ly
    clear x24 x34 e1 e2 e3 y1 y2 y3 y4 s1 s2 s3
    dsimp only [tFor, gName]
    refine ⟨_, rfl, _, rfl, D1, D4, xs, ys, rfl, SqL.of gx, SqL.of gy, fun z TI TO hz => ?_⟩
    have yz := Ex.nw (o := zFree z TI TO) hz
    refine for_ez2 (K := K) l1 ly (by decide) (fun i σ' H' => (∃ u v, σ' = [some one, some (.ref D1), some (.ref D4), u, v, none]) ∧ Ex H4 H' ∧ Zst z TI TO H' ∧ (0 < i → ∃ T ts, H' z = some (zHeld z TI TO T) ∧ H' T = some (.tup ts)))
      ⟨⟨_, _, rfl⟩, yz, .inl upd_same, fun h => absurd h (by decide)⟩ (fun i σ' H' h => ⟨SqL.of (h.2.1 _ _ gx), SqL.of (h.2.1 _ _ gy), h.2.2.1, h.2.2.2⟩) ?_ ?_
    · rintro i σ' H5 P T' x y zo H6 hi ⟨⟨u, v, rfl⟩, e5, zs, zh⟩ hx hy hP hT' hne rfl held
      obtain ⟨j, a, hj, rfl, ea⟩ := sx.get i x hx
      obtain ⟨j', b, hj', rfl, eb⟩ := sy.get i y hy
      have hj2 : [1, 2, 3, 4, 5, 6, 7, 8, 9][i]? = some j' := hj'
      rw [js9 i hi] at hj hj2
      cases hj
      cases hj2
      have e6 : Ex H4 (upd (upd (upd H5 z zo) T' (.tup [.ref a, .ref b])) P (.tup [.int (i : Nat), .ref T'])) := fun q o hq => by
        have h5 := e5 _ _ hq
        have n1 : q ≠ P := fun e => by rw [e, hP] at h5; cases h5
        have n2 : q ≠ T' := fun e => by rw [e, hT'] at h5; cases h5
        have n3 : q ≠ z := fun e => by rw [e, hz] at hq; cases hq
        rw [upd_ne n1, upd_ne n2, upd_ne n3]; exact h5
      have gP := upd_same (H := upd (upd H5 z zo) T' (.tup [.ref a, .ref b])) (a := P) (o := .tup [.int (i : Nat), .ref T'])
      have gT : upd (upd (upd H5 z zo) T' (.tup [.ref a, .ref b])) P (.tup [.int (i : Nat), .ref T']) T' = some (.tup [.ref a, .ref b]) := by rw [upd_ne hne, upd_same]
      generalize upd (upd (upd H5 z zo) T' (.tup [.ref a, .ref b])) P (.tup [.int (i : Nat), .ref T']) = H6 at held e6 gP gT ⊢
      clear hP hT' zs zh e5 c1 c2 c3
      refine ⟨P, _, rfl, SqT.of gP, rfl, _, _, rfl, _, _, rfl, rfl, ?_⟩
      dsimp only [tIfS, tTest, tOp]
      refine lc_none (p := P) (fun xs H7 => (xs = [.ref a, .ref b] ∧ Ex H6 H7)) (fun R hR => ⟨_, rfl, T', rfl, ⟨_, SqT.of gT⟩, hR _ H6 [.ref a, .ref b] (Ex.rfl' H6) ⟨rfl, Ex.rfl' H6⟩ (walk_tup.mono (fun H2 k => SqT.of (k _ _ hne gT)) fun _ _ _ _ _ _ y => y)⟩) ?_ ?_
      · rintro xs H7 e7 ⟨rfl, e67⟩ v hv H8 e8 Q1 q1
        have hE : ∃ w, v = .ref w ∧ Ef H8 w (cs (i + 1)) [(("part" : Str), one)] := by
          simp only [List.mem_cons, List.not_mem_nil, or_false] at hv
          rcases hv with rfl | rfl
          · exact ⟨_, rfl, ((ea.ex e6).ex e67).ex e8⟩
          · exact ⟨_, rfl, ((eb.ex e6).ex e67).ex e8⟩
        obtain ⟨w', rfl, ew⟩ := hE
        have dd := hda H8 (((x4.tr e6).tr e67).tr e8)
        have lk : List.lookup ("part" : Str) [(("part" : Str), one)] = some one := by simp [List.lookup]
        refine ⟨_, rfl, w', cs (i + 1), _, one, rfl, ew, clsX_all T (i + 1) (by omega), fld_part T i hi, lk, one, d, rfl, dd, _, rfl, one, d, rfl, dd, rfl, _, rfl, ?_⟩
        rw [decide_eq_true rfl]
        refine iteF ?_
        have ci : clsOf i = i + 1 := by unfold clsOf; rw [if_pos hi]
        refine ⟨_, rfl, _, rfl, w', i, rfl, by omega, by rw [ci]; exact ew.ei, fun H9 e9 => ⟨_, rfl, ?_⟩⟩
        exact q1 H9 e9
      · intro D H7 hD g7 e7
        refine ⟨Nat.zero_le _, fun b2 hb2 => ?_⟩
        have y8 := Ex.nw (o := .lst []) hb2
        refine .inl ⟨D, b2, [], rfl, rfl, y8 _ _ g7, upd_same, rfl, _, rfl, iteF ?_⟩
        have e8 := e7.tr y8
        obtain ⟨T0, ts, h1, h2⟩ := held
        exact ⟨⟨_, _, rfl⟩, e6.tr e8, .inr ⟨T0, ts, e8 _ _ h1, e8 _ _ h2⟩, fun _ => ⟨T0, ts, e8 _ _ h1, e8 _ _ h2⟩⟩
    · rintro σ' H5 ⟨⟨u, v, rfl⟩, e5, _⟩
      exact k H5 (x4.tr e5)
end
end Mine
set_option maxHeartbeats 400000
namespace Mine
open PySem PySem.Spec PyProof.Rows L2 GL
theorem Th.dz {p : Addr} {H : Hp} {v : V} (h : Th p H v) : ∃ d, ∀ H', Ex H H' → Dz H' v d 5 2000 := by
  obtain ⟨d, G, h1, h2, h3⟩ := h
  exact ⟨d, fun H' e => (h1.ex h2).ex e⟩
theorem lk1 {f : Str} {v : V} : List.lookup f [(f, v)] = some v := by simp [List.lookup]
section
variable {K : PySem.W.Frag} {cs : Nat → Addr} {one : V} {σ : L2.St} {i j : Nat} {f : Str}
def Rw (cs : Nat → Addr) (one : V) (H : Hp) (v : V) (s : Nat) : Prop := ∃ t e f, v = .ref t ∧ H t = some (.tup [.int s, one, .ref e]) ∧ Ef H e (cs (clsOf s)) [(f, one)]
theorem Rw.ex {H H' : Hp} {v : V} {s : Nat} (k : Ex H H') (h : Rw cs one H v s) : Rw cs one H' v s := by
  obtain ⟨t, e, f, h1, h2, h3⟩ := h
  exact ⟨t, e, f, h1, k _ _ h2, h3.ex k⟩
theorem rowT (s : Nat) (hj : j = clsOf s) (hi : σ[i]? = some (some one)) (cx : ClsX K (cs j)) (hn : PySem.W.findIn K (.ref (cs j)) f = some none) (H : Hp) (Q : VK)
    (q : ∀ v H', Ex H H' → Rw cs one H' v s → Q v H') :
    tTup (tCons (tC (.int s)) (tCons (tAtX K f (tCall (spC1 (cs j) f) [] (fun _ _ _ => False) (tCons (tVar i) tNil))) (tCons (tKw 0 1 (spC1 (cs j) f) gcI (fun _ _ _ => False) tNil (tCons (tVar i) tNil)) tNil))) σ H Q := by
  subst hj
  refine ⟨_, hi, one, rfl, fun a H1 _ e1 o1 => ⟨a, cs (clsOf s), _, one, rfl, o1.ef, cx, hn, lk1, _, hi, rfl, rfl, one, rfl, fun b H2 _ e2 o2 => ⟨(show 3 ≤ sizeLine by decide), fun t ht => ?_⟩⟩⟩
  have y := Ex.nw (o := .tup [.int s, one, .ref b]) ht
  exact q _ _ ((e1.tr e2).tr y) ⟨t, b, f, rfl, upd_same, o2.ef.ex y⟩
theorem toldE (hi : σ[i]? = some (some one)) (cx : ClsX K (cs j)) (hn : PySem.W.findIn K (.ref (cs j)) f = some none) (H : Hp) (Q : VK) (q : ∀ H', Ex H H' → Q one H') :
    tAtX K f (tKw 0 1 (spC1 (cs j) f) gcI (fun _ _ _ => False) tNil (tCons (tVar i) tNil)) σ H Q :=
  ⟨_, hi, rfl, rfl, one, rfl, fun a H1 _ e1 o1 => ⟨a, cs j, _, one, rfl, o1.ef, cx, hn, lk1, q H1 e1⟩⟩
theorem toldP (hi : σ[i]? = some (some one)) (cx : ClsX K (cs j)) (hn : PySem.W.findIn K (.ref (cs j)) f = some none) (H : Hp) (Q : VK) (q : ∀ H', Ex H H' → Q one H') :
    tAtX K f (tCall (spC1 (cs j) f) [] (fun _ _ _ => False) (tCons (tVar i) tNil)) σ H Q :=
  ⟨_, hi, one, rfl, fun a H1 _ e1 o1 => ⟨a, cs j, _, one, rfl, o1.ef, cx, hn, lk1, q H1 e1⟩⟩
end
section
variable {P : Program} {w : World} {K : PySem.W.Frag} {mg : Str → Option Value} {base : Heap} {fs : Nat → Addr} {fd : Nat → FuncData} {tk : Nat → Tok} {cs : Nat → Addr}
theorem ok_Lfields_right (sb : SmB base) (T : Txt K mg fs fd tk cs) : FnG P w K mg base CX0 3 (fs 7) (fd 7) P_Lfields_right spTwo := by
  refine Fun.okG T.f_Lfields_right sc_Lfields_right (fun vs H Q E h => ?_) (fun cd A out s H vs Q E gd hr h => ?_)
  · obtain ⟨p, v, w, rfl, _⟩ := h
    rfl
  · obtain ⟨p, one, other, rfl, hT, hT2, k⟩ := h
    obtain ⟨d, hda⟩ := Th.dz hT
    obtain ⟨d2, hda2⟩ := Th.dz hT2
    refine ⟨_, PSs.nox ((pss_cons (ps_set (i := 2) sc_Lfields_right.nd rfl (by first | exact Or.inl rfl | exact Or.inr rfl) (pe_lst (pa_cons (pe_tup (pa_cons (pe_int) (pa_cons (pe_atX (f := "value") (pe_newX T.x_NoFile T.i_NoFile T.t_NoFile (ok_NoFile_init T) gd (hr.mono (by decide)) pass0 inits1 (b_NoFile_init T) (by rfl) T.m_NoFile (pa_cons (pv 0) pa_nil))) (pa_cons (pe_newK (gC := gcI) T.x_NoFile T.i_NoFile T.t_NoFile (ok_NoFile_init T) gd (hr.mono (by decide)) pass0 inits1 (kw_NoFile_init_1_value T) hgc_NoFile hrc (by rfl) T.m_NoFile (pk_cons (pv 0) pk_nil)) pa_nil)))) (pa_cons (pe_tup (pa_cons (pe_int) (pa_cons (pe_atX (f := "value") (pe_newX T.x_NoView T.i_NoView T.t_NoView (ok_NoView_init T) gd (hr.mono (by decide)) pass0 inits1 (b_NoView_init T) (by rfl) T.m_NoView (pa_cons (pv 0) pa_nil))) (pa_cons (pe_newK (gC := gcI) T.x_NoView T.i_NoView T.t_NoView (ok_NoView_init T) gd (hr.mono (by decide)) pass0 inits1 (kw_NoView_init_1_value T) hgc_NoView hrc (by rfl) T.m_NoView (pk_cons (pv 0) pk_nil)) pa_nil)))) (pa_cons (pe_tup (pa_cons (pe_int) (pa_cons (pe_atX (f := "value") (pe_newX T.x_Twice T.i_Twice T.t_Twice (ok_Twice_init T) gd (hr.mono (by decide)) pass0 inits1 (b_Twice_init T) (by rfl) T.m_Twice (pa_cons (pv 0) pa_nil))) (pa_cons (pe_newK (gC := gcI) T.x_Twice T.i_Twice T.t_Twice (ok_Twice_init T) gd (hr.mono (by decide)) pass0 inits1 (kw_Twice_init_1_value T) hgc_Twice hrc (by rfl) T.m_Twice (pk_cons (pv 0) pk_nil)) pa_nil)))) pa_nil)))))
      (pss_cons (ps_set (i := 2) sc_Lfields_right.nd rfl (by first | exact Or.inl rfl | exact Or.inr rfl) (pe_op op_cat (pv 2) (pe_lst (pa_cons (pe_tup (pa_cons (pe_int) (pa_cons (pe_atX (f := "paper") (pe_newX T.x_Impossible T.i_Impossible T.t_Impossible (ok_Impossible_init T) gd (hr.mono (by decide)) pass0 inits1 (b_Impossible_init T) (by rfl) T.m_Impossible (pa_cons (pv 0) pa_nil))) (pa_cons (pe_newK (gC := gcI) T.x_Impossible T.i_Impossible T.t_Impossible (ok_Impossible_init T) gd (hr.mono (by decide)) pass0 inits1 (kw_Impossible_init_1_paper T) hgc_Impossible hrc (by rfl) T.m_Impossible (pk_cons (pv 0) pk_nil)) pa_nil)))) (pa_cons (pe_tup (pa_cons (pe_int) (pa_cons (pe_atX (f := "item") (pe_newX T.x_BadText T.i_BadText T.t_BadText (ok_BadText_init T) gd (hr.mono (by decide)) pass0 inits1 (b_BadText_init T) (by rfl) T.m_BadText (pa_cons (pv 0) pa_nil))) (pa_cons (pe_newK (gC := gcI) T.x_BadText T.i_BadText T.t_BadText (ok_BadText_init T) gd (hr.mono (by decide)) pass0 inits1 (kw_BadText_init_1_item T) hgc_BadText hrc (by rfl) T.m_BadText (pk_cons (pv 0) pk_nil)) pa_nil)))) pa_nil)))))
      (pss_cons (ps_set (i := 3) sc_Lfields_right.nd rfl (by first | exact Or.inl rfl | exact Or.inr rfl) (pe_lst (pa_cons (pe_atX (f := "value") (pe_newK (gC := gcI) T.x_NoFile T.i_NoFile T.t_NoFile (ok_NoFile_init T) gd (hr.mono (by decide)) pass0 inits1 (kw_NoFile_init_1_value T) hgc_NoFile hrc (by rfl) T.m_NoFile (pk_cons (pv 0) pk_nil))) (pa_cons (pe_atX (f := "value") (pe_newK (gC := gcI) T.x_NoView T.i_NoView T.t_NoView (ok_NoView_init T) gd (hr.mono (by decide)) pass0 inits1 (kw_NoView_init_1_value T) hgc_NoView hrc (by rfl) T.m_NoView (pk_cons (pv 0) pk_nil))) (pa_cons (pe_atX (f := "value") (pe_newK (gC := gcI) T.x_Twice T.i_Twice T.t_Twice (ok_Twice_init T) gd (hr.mono (by decide)) pass0 inits1 (kw_Twice_init_1_value T) hgc_Twice hrc (by rfl) T.m_Twice (pk_cons (pv 0) pk_nil))) (pa_cons (pe_atX (f := "paper") (pe_newK (gC := gcI) T.x_Impossible T.i_Impossible T.t_Impossible (ok_Impossible_init T) gd (hr.mono (by decide)) pass0 inits1 (kw_Impossible_init_1_paper T) hgc_Impossible hrc (by rfl) T.m_Impossible (pk_cons (pv 0) pk_nil))) (pa_cons (pe_atX (f := "item") (pe_newK (gC := gcI) T.x_BadText T.i_BadText T.t_BadText (ok_BadText_init T) gd (hr.mono (by decide)) pass0 inits1 (kw_BadText_init_1_item T) hgc_BadText hrc (by rfl) T.m_BadText (pk_cons (pv 0) pk_nil))) pa_nil)))))))
      (pss_cons (ps_if (PW.pt (pw_or (pt_cmpR (op_neX hr.units) (pe_lc (own := [("_law_row", 4)]) (g := gName 4) rfl sc_Lfields_right.nd (pi_list (pv 2)) (blkOk_by (own := [("_law_row", 4)]) (N := N_Lfields_right) (sc := defScope s_Lfields_right) (by decide +kernel)) (fun _ _ _ _ _ => (pg_name (i := 4) sc_Lfields_right.nd rfl (Or.inl rfl))) (fun _ _ _ _ _ => (pts_one (PW.pt (pw_or (pt_cmpR op_ne (pe_callB (call_reprQ sb gd hr) (by rfl) T.z_repr (by decide +kernel) (pa_cons (pe_ix (show IxR _ (rIxT K) from ix_tup) (pv 4) (pe_int) (fun _ _ => rfl)) pa_nil)) (pe_callB (call_reprQ sb gd hr) (by rfl) T.z_repr (by decide +kernel) (pa_cons (pv 0) pa_nil)) (nomark _)) (pw_or1 (pt_not (pt_val (pg_call (ok_Lalone T) gd (hr.mono (by decide)) (by rfl) T.m_Lalone T.f_Lalone.kp (b_Lalone T) .nil pass0 (pa_cons (pe_ix (show IxR _ (rIxT K) from ix_tup) (pv 4) (pe_int) (fun _ _ => rfl)) (pa_cons (pe_ix (show IxR _ (rIxT K) from ix_tup) (pv 4) (pe_int) (fun _ _ => rfl)) pa_nil)))))))))) (fun _ _ _ _ _ => pv 4)) (pe_lst pa_nil) (nomark _)) (pw_or1 (pt_cmpR op_ne (pe_callB (call_reprQ sb gd hr) (by rfl) T.z_repr (by decide +kernel) (pa_cons (pv 3) pa_nil)) (pe_callB (call_reprQ sb gd hr) (by rfl) T.z_repr (by decide +kernel) (pa_cons (pe_op op_rep (pe_lst (pa_cons (pv 0) pa_nil)) (pe_int)) pa_nil)) (nomark _)))))
        (pss_one (ps_ret (pe_bl)))
        pss_nil)
      (pss_cons (ps_for PassesOwn.never rfl (pi_tup (pe_tup (pa_cons (pe_newX T.x_TooMany T.i_TooMany T.t_TooMany (ok_TooMany_init T) gd (hr.mono (by decide)) pass0 inits2 (b_TooMany_init T) (by rfl) T.m_TooMany (pa_cons (pv 0) (pa_cons (pv 1) pa_nil))) (pa_cons (pe_newK (gC := gcI2) T.x_TooMany T.i_TooMany T.t_TooMany (ok_TooMany_init T) gd (hr.mono (by decide)) pass0 inits2 (kw_TooMany_init_1_most_what T) hgc2_TooMany hrc2 (by rfl) T.m_TooMany (pk_cons (pv 1) (pk_cons (pv 0) pk_nil))) pa_nil)))) (pg_name (i := 5) sc_Lfields_right.nd rfl (by first | exact Or.inl rfl | exact Or.inr rfl))
        (pss_one (ps_if (PW.pt (pw_or (pt_cmpR op_ne (pe_callB (call_reprQ sb gd hr) (by rfl) T.z_repr (by decide +kernel) (pa_cons (pe_lst (pa_cons (pe_atX (f := "what") (pv 5)) (pa_cons (pe_atX (f := "most") (pv 5)) pa_nil))) pa_nil)) (pe_callB (call_reprQ sb gd hr) (by rfl) T.z_repr (by decide +kernel) (pa_cons (pe_lst (pa_cons (pv 0) (pa_cons (pv 1) pa_nil))) pa_nil)) (nomark _)) (pw_or1 (pt_not (pt_val (pg_call (ok_Lalone T) gd (hr.mono (by decide)) (by rfl) T.m_Lalone T.f_Lalone.kp (b_Lalone T) .nil pass0 (pa_cons (pv 5) (pa_cons (pe_int) pa_nil))))))))
          (pss_one (ps_ret (pe_bl)))
          pss_nil)))
      (pss_cons (ps_set (i := 6) sc_Lfields_right.nd rfl (by first | exact Or.inl rfl | exact Or.inr rfl) (pe_newK (gC := gcI) T.x_Missing T.i_Missing T.t_Missing (ok_Missing_init T) gd (hr.mono (by decide)) pass0 inits1 (kw_Missing_init_1_value T) hgc_Missing hrc (by rfl) T.m_Missing (pk_cons (pv 0) pk_nil)))
      (pss_cons (ps_if (PW.pt (pw_or (pt_not (pt_val (pe_callB call_isX (by rfl) T.z_isinstance (by decide +kernel) (pa_cons (pv 6) (pa_cons (pe_glob (v := .ref (cs 0)) (by rfl) T.m_StripError rfl) pa_nil))))) (pw_or (pt_cmpR op_ne (pe_callB (call_reprQ sb gd hr) (by rfl) T.z_repr (by decide +kernel) (pa_cons (pe_lst (pa_cons (pe_atX (f := "value") (pv 6)) (pa_cons (pe_atX (f := "value") (pe_newX T.x_Missing T.i_Missing T.t_Missing (ok_Missing_init T) gd (hr.mono (by decide)) pass0 inits1 (b_Missing_init T) (by rfl) T.m_Missing (pa_cons (pv 0) pa_nil))) pa_nil))) pa_nil)) (pe_callB (call_reprQ sb gd hr) (by rfl) T.z_repr (by decide +kernel) (pa_cons (pe_lst (pa_cons (pv 0) (pa_cons (pv 0) pa_nil))) pa_nil)) (nomark _)) (pw_or1 (pt_cmpR op_in_seq (pe_bl) (pg_call (ok_Lclasses T) gd (hr.mono (by decide)) (by rfl) T.m_Lclasses T.f_Lclasses.kp (b_Lclasses T) .nil pass0 (pa_cons (pv 6) pa_nil)) (by rfl))))))
        (pss_one (ps_ret (pe_bl)))
        pss_nil)
      (pss_one (ps_ret (pg_call (ok_Lalone T) gd (hr.mono (by decide)) (by rfl) T.m_Lalone T.f_Lalone.kp (b_Lalone T) .nil pass0 (pa_cons (pe_new0 F.excBase_ValueError T.q_Out T.m_Out T.k_Out (by rfl)) (pa_cons (pe_int) pa_nil))))))))))))), ?_⟩
    -- rows
    dsimp only [tSeq, tAsg, tLst, tCons, tNil]
    refine rowT (cs := cs) (one := one) (i := 0) 9 rfl rfl T.x_NoFile T.n_NoFile_value _ _ fun v1 H1 e1 r1 => ?_
    refine rowT (cs := cs) (one := one) (i := 0) 10 rfl rfl T.x_NoView T.n_NoView_value _ _ fun v2 H2 e2 r2 => ?_
    refine rowT (cs := cs) (one := one) (i := 0) 11 rfl rfl T.x_Twice T.n_Twice_value _ _ fun v3 H3 e3 r3 => ⟨(show 3 ≤ sizeLine by decide), fun D1 hD1 => ?_⟩
    have y1 := Ex.nw (o := .lst [v1, v2, v3]) hD1
    dsimp only [gName, tOp]
    refine ⟨_, rfl, ?_⟩
    dsimp only [tLst, tCons, tNil]
    refine rowT (cs := cs) (one := one) (i := 0) (σ := (L2.start N_Lfields_right [one, other]).set 2 (some (.ref D1))) 13 rfl rfl T.x_Impossible T.n_Impossible_paper _ _ fun v4 H4 e4 r4 => ?_
    refine rowT (cs := cs) (one := one) (i := 0) (σ := (L2.start N_Lfields_right [one, other]).set 2 (some (.ref D1))) 14 rfl rfl T.x_BadText T.n_BadText_item _ _ fun v5 H5 e5 r5 => ⟨(show 2 ≤ sizeLine by decide), fun D2 hD2 => ?_⟩
    have y2 := Ex.nw (o := .lst [v4, v5]) hD2
    refine ⟨D1, D2, _, _, rfl, rfl, y2 _ _ (e5 _ _ (e4 _ _ upd_same)), upd_same, (show 5 ≤ sizeLine by decide), fun D3 hD3 => ?_⟩
    have y3 := Ex.nw (o := .lst [v1, v2, v3, v4, v5]) hD3
    have x5 := (e5.tr y2).tr y3
    have x4 := e4.tr x5
    have x3 := y1.tr x4
    have x2 := e3.tr x3
    have x1 := e2.tr x2
    have x0 := e1.tr x1
    have q1 := r1.ex x1
    have q2 := r2.ex x2
    have q3 := r3.ex x3
    have q4 := r4.ex x5
    have q5 := r5.ex (y2.tr y3)
    have g3 : (upd (upd H5 D2 (.lst [v4, v5])) D3 (.lst ([v1, v2, v3] ++ [v4, v5]))) D3 = some (.lst [v1, v2, v3, v4, v5]) := upd_same
    have eL : ([v1, v2, v3] ++ [v4, v5] : List V) = [v1, v2, v3, v4, v5] := rfl
    rw [eL] at g3 ⊢
    generalize upd (upd H5 D2 (.lst [v4, v5])) D3 (.lst [v1, v2, v3, v4, v5]) = H6 at x0 q1 q2 q3 q4 q5 g3 ⊢
    clear e1 e2 e3 e4 e5 y1 y2 y3 x1 x2 x3 x4 x5 r1 r2 r3 r4 r5
    -- told
    have hS : ∀ H7 H8, Ex H6 H7 → Ex H7 H8 → Dz H8 one d 5 2000 := fun H7 H8 a b => hda H8 ((x0.tr a).tr b)
    dsimp only [gName, tSeq, tAsg, tLst, tCons, tNil]
    refine toldE (cs := cs) (i := 0) (σ := ((L2.start N_Lfields_right [one, other]).set 2 (some (.ref D1))).set 2 (some (.ref D3))) rfl T.x_NoFile T.n_NoFile_value _ _ fun H7 e7 => ?_
    refine toldE (cs := cs) (i := 0) (σ := ((L2.start N_Lfields_right [one, other]).set 2 (some (.ref D1))).set 2 (some (.ref D3))) rfl T.x_NoView T.n_NoView_value _ _ fun H8 e8 => ?_
    refine toldE (cs := cs) (i := 0) (σ := ((L2.start N_Lfields_right [one, other]).set 2 (some (.ref D1))).set 2 (some (.ref D3))) rfl T.x_Twice T.n_Twice_value _ _ fun H9 e9 => ?_
    refine toldE (cs := cs) (i := 0) (σ := ((L2.start N_Lfields_right [one, other]).set 2 (some (.ref D1))).set 2 (some (.ref D3))) rfl T.x_Impossible T.n_Impossible_paper _ _ fun H10 e10 => ?_
    refine toldE (cs := cs) (i := 0) (σ := ((L2.start N_Lfields_right [one, other]).set 2 (some (.ref D1))).set 2 (some (.ref D3))) rfl T.x_BadText T.n_BadText_item _ _ fun H11 e11 => ⟨(show 5 ≤ sizeLine by decide), fun D4 hD4 => ?_⟩
    have y4 := Ex.nw (o := .lst [one, one, one, one, one]) hD4
    have g4 := upd_same (H := H11) (a := D4) (o := .lst [one, one, one, one, one])
    have ne34 : D3 ≠ D4 := ne_of_none (((((e7.tr e8).tr e9).tr e10).tr e11) _ _ g3) hD4
    have x6 := ((((e7.tr e8).tr e9).tr e10).tr e11).tr y4
    generalize upd H11 D4 (.lst [one, one, one, one, one]) = H12 at g4 x6 ⊢
    clear e7 e8 e9 e10 e11 y4 hD4 hS
    have xx := x0.tr x6
    dsimp only [gName, tSeq, tIfS, tOr, tTest, tOp]
    refine lc_none (p := D4) (fun xs H7 => xs = [v1, v2, v3, v4, v5] ∧ Ex H12 H7) (fun R hR => ⟨_, rfl, D3, rfl, ⟨_, SqL.of (x6 _ _ g3)⟩, ?_⟩) ?_ ?_
    · have g3' := x6 _ _ g3
      exact hR _ H12 [v1, v2, v3, v4, v5] (Ex.rfl' H12) ⟨rfl, Ex.rfl' H12⟩ (walk_list.mono (fun H2 k => SqL.of (k _ _ ne34 g3')) fun _ _ _ _ _ _ y => y)
    · rintro xs H7 e7 ⟨rfl, e127⟩ v hv H8 e8 Q1 k1
      have hR : ∃ s, (s = 9 ∨ s = 10 ∨ s = 11 ∨ s = 13 ∨ s = 14) ∧ Rw cs one H8 v s := by
        simp only [List.mem_cons, List.not_mem_nil, or_false] at hv
        rcases hv with rfl | rfl | rfl | rfl | rfl
        · exact ⟨9, by decide, ((q1.ex x6).ex e127).ex e8⟩
        · exact ⟨10, by decide, ((q2.ex x6).ex e127).ex e8⟩
        · exact ⟨11, by decide, ((q3.ex x6).ex e127).ex e8⟩
        · exact ⟨13, by decide, ((q4.ex x6).ex e127).ex e8⟩
        · exact ⟨14, by decide, ((q5.ex x6).ex e127).ex e8⟩
      obtain ⟨sp, hsp, t, e, f, rfl, gt, ef⟩ := hR
      have hs : sp < 16 := by omega
      have dd : Da H8 one d := (hda H8 ((xx.tr e127).tr e8)).da (by decide) (by decide)
      refine ⟨_, rfl, t, _, 1, one, rfl, rfl, SqT.of gt, rfl, one, d, rfl, dd, _, rfl, one, d, rfl, dd, rfl, _, rfl, ?_⟩
      rw [decide_eq_true rfl]
      refine iteF ?_
      refine ⟨_, rfl, t, _, 2, .ref e, rfl, rfl, SqT.of gt, rfl, _, rfl, t, _, 0, .int sp, rfl, rfl, SqT.of gt, rfl, e, sp, rfl, hs, ef.ei, fun H9 e9 => ⟨_, rfl, ?_⟩⟩
      exact k1 H9 e9
    · intro D H7 hD g7 e7
      refine ⟨Nat.zero_le _, fun b2 hb2 => ?_⟩
      have y8 := Ex.nw (o := .lst []) hb2
      refine .inl ⟨D, b2, [], rfl, rfl, y8 _ _ g7, upd_same, rfl, _, rfl, iteF ?_⟩
      have x8 := xx.tr (e7.tr y8)
      have g4' := (e7.tr y8) _ _ g4
      generalize upd H7 b2 (.lst []) = H13 at x8 g4' ⊢
      clear e7 y8 g7 hD hb2 q1 q2 q3 q4 q5
      -- repr(told) != repr([one] * 5)
      have o1 : Dz H13 one d 5 2000 := hda H13 x8
      refine ⟨_, rfl, .ref D4, .list [d, d, d, d, d], rfl, (Dz.lst g4' (.cons o1 (.cons o1 (.cons o1 (.cons o1 (.cons o1 .nil)))))).da (by decide) (by decide), ?_⟩
      refine ⟨_, rfl, (show 1 ≤ sizeLine by decide), fun l hl => ?_⟩
      have y9 := Ex.nw (o := .lst [one]) hl
      refine ⟨l, 5, [one], rfl, rfl, upd_same, by decide, by decide, (show 1 * 5 ≤ sizeLine by decide), fun l2 hl2 => ?_⟩
      have y10 := Ex.nw (o := .lst (List.replicate (5 : Int).toNat [one]).flatten) hl2
      have g10 : (upd (upd H13 l (.lst [one])) l2 (.lst (List.replicate (5 : Int).toNat [one]).flatten)) l2 = some (.lst [one, one, one, one, one]) := upd_same
      have o2 := o1.ex (y9.tr y10)
      refine ⟨.ref l2, .list [d, d, d, d, d], rfl, (Dz.lst g10 (.cons o2 (.cons o2 (.cons o2 (.cons o2 (.cons o2 .nil)))))).da (by decide) (by decide), rfl, _, rfl, ?_⟩
      rw [decide_eq_true rfl]
      refine iteF ?_
      have x10 := x8.tr (y9.tr y10)
      generalize upd (upd H13 l (.lst [one])) l2 (.lst (List.replicate (5 : Int).toNat [one]).flatten) = H14 at x10 ⊢
      clear y9 y10 g10 o1 o2 hl hl2 x8 g4' xx x6 g4 g3 x0
      -- TooMany
      refine ⟨_, rfl, _, rfl, one, other, rfl, fun a H1 _ e1 o1 => ?_⟩
      refine ⟨_, rfl, _, rfl, rfl, rfl, one, other, rfl, fun b H2 _ e2 o2 => ⟨(show 2 ≤ sizeLine by decide), fun t ht => ?_⟩⟩
      have y3 := Ex.nw (o := .tup [.ref a, .ref b]) ht
      have f1 := o1.ef.ex (e2.tr y3)
      have f2 := o2.ef.ex y3
      have gt := upd_same (H := H2) (a := t) (o := .tup [.ref a, .ref b])
      have x11 := x10.tr ((e1.tr e2).tr y3)
      generalize upd H2 t (.tup [.ref a, .ref b]) = H3 at f1 f2 gt x11 ⊢
      clear e1 e2 y3 o1 o2 ht
      refine ⟨t, rfl, ⟨_, SqT.of gt⟩, ?_⟩
      refine for_it (walk_tup (K := K) (a := t) (xs := [.ref a, .ref b])) (fun i σ' H' => (∃ y, σ' = [some one, some other, some (.ref D3), some (.ref D4), none, y, none]) ∧ Ex H3 H') ⟨⟨_, rfl⟩, Ex.rfl' H3⟩ (fun i σ' H' _ g => SqT.of (g.2 _ _ gt)) ?_ ?_
      · rintro i x σ' H4 H5 hi ⟨⟨y, rfl⟩, e4⟩ ⟨rfl, hx⟩
        have hE : ∃ e, x = .ref e ∧ Ef H5 e (cs 14) [(("most" : Str), other), (("what" : Str), one)] := by
          have hm := List.mem_of_getElem? hx
          simp only [List.mem_cons, List.not_mem_nil, or_false] at hm
          rcases hm with rfl | rfl
          · exact ⟨a, rfl, f1.ex e4⟩
          · exact ⟨b, rfl, f2.ex e4⟩
        obtain ⟨e, rfl, ef⟩ := hE
        have l1 : List.lookup ("what" : Str) [(("most" : Str), other), (("what" : Str), one)] = some one := by rw [lookup_put, if_neg (by decide), lookup_put, if_pos rfl]
        have l2 : List.lookup ("most" : Str) [(("most" : Str), other), (("what" : Str), one)] = some other := by rw [lookup_put, if_pos rfl]
        have x12 := x11.tr e4
        refine ⟨_, rfl, e, cs 14, _, one, rfl, ef, T.x_TooMany, T.n_TooMany_what, l1, _, rfl, e, cs 14, _, other, rfl, ef, T.x_TooMany, T.n_TooMany_most, l2, (show 2 ≤ sizeLine by decide), fun l hl => ?_⟩
        have y6 := Ex.nw (o := .lst [one, other]) hl
        have p1 := hda _ (x12.tr y6)
        have p2 := hda2 _ (x12.tr y6)
        refine ⟨.ref l, .list [d, d2], rfl, (Dz.lst upd_same (.cons p1 (.cons p2 .nil))).da (by decide) (by decide), _, rfl, _, rfl, (show 2 ≤ sizeLine by decide), fun l3 hl3 => ?_⟩
        have y7 := Ex.nw (o := .lst [one, other]) hl3
        refine ⟨.ref l3, .list [d, d2], rfl, (Dz.lst upd_same (.cons (p1.ex y7) (.cons (p2.ex y7) .nil))).da (by decide) (by decide), rfl, _, rfl, ?_⟩
        rw [decide_eq_true rfl]
        refine iteF ?_
        refine ⟨_, rfl, e, 12, rfl, by decide, (ef.ex (y6.tr y7)).ei, fun H9 e9 => ⟨_, rfl, iteF ?_⟩⟩
        exact ⟨⟨_, rfl⟩, e4.tr ((y6.tr y7).tr e9)⟩
      · rintro σ' H4 ⟨⟨y, rfl⟩, e4⟩
        have x12 := x11.tr e4
        refine ⟨_, rfl, rfl, rfl, one, rfl, fun m H5 _ e5 o5 => ?_⟩
        have x13 := x12.tr e5
        refine ⟨_, rfl, m, cs 10, _, _, _, rfl, o5.ef.ei, T.x_Missing, fun u r => r, T.isi 10 0 (by decide) (by decide), _, rfl, iteF ?_⟩
        refine ⟨_, rfl, m, cs 10, _, one, rfl, o5.ef, T.x_Missing, T.n_Missing_value, lk1, _, rfl, one, rfl, fun m2 H6 _ e6 o6 => ⟨m2, cs 10, _, one, rfl, o6.ef, T.x_Missing, T.n_Missing_value, lk1, (show 2 ≤ sizeLine by decide), fun l hl => ?_⟩⟩
        have y7 := Ex.nw (o := .lst [one, one]) hl
        have x14 := x13.tr (e6.tr y7)
        have p1 := hda _ x14
        refine ⟨.ref l, .list [d, d], rfl, (Dz.lst upd_same (.cons p1 (.cons p1 .nil))).da (by decide) (by decide), _, rfl, _, rfl, (show 2 ≤ sizeLine by decide), fun l3 hl3 => ?_⟩
        have y8 := Ex.nw (o := .lst [one, one]) hl3
        refine ⟨.ref l3, .list [d, d], rfl, (Dz.lst upd_same (.cons (p1.ex y8) (.cons (p1.ex y8) .nil))).da (by decide) (by decide), rfl, _, rfl, ?_⟩
        rw [decide_eq_true rfl]
        refine iteF ?_
        refine ⟨_, rfl, m, 10, rfl, by decide, ((o5.ef.ex (e6.tr y7)).ex y8).ei, fun b9 H9 _ e9 g9 => ⟨b9, _, rfl, .inl (SqL.of g9), rfl, by decide, _, rfl, iteF ?_⟩⟩
        intro u H10 hu e10 ef
        exact ⟨u, 15, rfl, by decide, ef.ei, fun H11 e11 => k H11 ((x14.tr y8).tr ((e9.tr e10).tr e11))⟩
end
end Mine
set_option maxHeartbeats 400000
namespace Mine
open PySem PySem.Spec PyProof.Rows L2 GL
def tRaiseW (K : PySem.W.Frag) (H0 : Hp) (W : WX) (te : TE) : TS := fun _ σ H => te σ H fun x H1 => ∃ (a C : Addr) (d : Option Addr), x = .ref a ∧ H1 a = some (exo a C d) ∧ H0 a = none ∧ (PySem.W.subIn K (.ref C) (.type "BaseException") = some true ∧ PySem.W.typeIn K (.ref C) = some (.type "type")) ∧ W (.ref C) d σ (delH H1 a)
theorem ps_raiseW {X : Cx} {pn : List (Addr × Obj)} {xe : Value → Shared → Prop} {e : Expr} {te : TE} {W : WX} {pos : Pos} (hc : X.calm = true) (hx : X.ex = []) (tk : Takes (X.tr pn xe) W) (he : PE (X.tr pn xe) e te) : PS (X.tr pn xe) (.Raise (some e) none pos) (tRaiseW X.K X.H_0 W te) := by
  refine ps_raise (X := X.tr pn xe) hc tk (t := fun σ H Q => te σ H fun x H1 => ∃ (a C : Addr) (d : Option Addr), x = .ref a ∧ H1 a = some (exo a C d) ∧ X.H_0 a = none ∧ (PySem.W.subIn X.K (.ref C) (.type "BaseException") = some true ∧ PySem.W.typeIn X.K (.ref C) = some (.type "type")) ∧ Q (.ref C) d (delH H1 a)) ?_
  intro pins s σ H Q I h
  refine wpAny_mono (he.run pins s σ H _ I h) (fun u s1 hu => ?_) fun _ _ z => z
  obtain ⟨v, H1, I1, r1, a, C, d, rfl, ha, h0, hr, q⟩ := hu
  cases r1
  obtain ⟨t1, ho⟩ := exo_at I1.hok ha
  obtain ⟨G, gs, ga, J⟩ := I1.untrack (a := a) ha (fr0_none h0) hx
  exact ⟨a, _, _, { s1 with heap := G }, delH H1 a, .ref C, d, rfl, J, gs, ga, ho, ⟨rfl, rfl⟩, rfl, rfl, delH_same, rfl, I1.bare, raises_own hr.1 hr.2, q⟩
/-- C() of a class that has no own __init__ -/
theorem pe_new0W {X : Cx} {C : Addr} {x : Str} {p pos : Pos} {bmB : List Value} {B newId initId : String} (F0 : ExcBaseFacts B newId initId bmB) (qx : PySem.W.excIn X.K C bmB newId = true) (hm : X.mg x = some (.ref C)) (kC : PySem.W.keepIn X.K (.ref C) = true) (hg : Gl X x)
    (hdb : (x == ("__debug__" : Str)) = false := by decide) : PE X (.Call (.Name x p) [] [] pos) (fun _ H Q => ∀ a H', H a = none → Ex H H' → H' a = some (exo a C none) → Q (.ref a) H') := by
  refine ⟨fun pins s σ H Q I h => wpAny_Call_Name_kw (ld_glob I hg hm (PySem.W.callWith_K0 I.kIn kC ?_) hdb)⟩
  obtain ⟨bm, N, nm, qn, bs, hdct, sn, sub, ab, col, dd, k0, k1, k2, k3, k5, mN, hC, hN, hni, T⟩ := exc_obj I.kIn qx
  refine wpAny_call_exc_subT F0 T hC hN hni (fun h' a hm => ?_) (by show 0 ≤ sizeLine; omega)
  have free : H a = none := I.hok.gone hm.new
  obtain ⟨t, ht, _, _⟩ := hm.there
  refine ⟨.ref a, upd H a (exo a C none), I.laidN hm.keeps hm.new free (exo_ok ht), rfl, h a _ free (Ex.nw free) upd_same⟩
/-- the exception tracked anew within the suite -/
theorem ef_back {H1 G' : Hp} {a b C dd : Addr} {fs : List (Str × V)} (n : dd ≠ a) (h : H1 dd = some (exd dd fs)) (hb : delH H1 a b = none) (x : ExcAt (delH H1 a) b (.ref C) (some dd) G') : Ef G' b C fs ∧ Ex (delH H1 a) G' := by
  obtain ⟨φ, rfl, h2⟩ := x
  have hd : delH H1 a dd = some (exd dd fs) := by rw [delH_ne n]; exact h
  have nb : dd ≠ b := fun e => by rw [← e, hd] at hb; cases hb
  exact ⟨⟨some dd, φ, upd_same, h2, by show upd (delH H1 a) b _ dd = _; rw [upd_ne nb]; exact hd⟩, Ex.nw hb⟩
theorem ex_del {H H1 : Hp} {a : Addr} (e : Ex H H1) (ha : H a = none) : Ex H (delH H1 a) := fun b o h => by
  have n : b ≠ a := fun z => by rw [z, ha] at h; cases h
  rw [delH_ne n]; exact e b o h
section
variable {P : Program} {w : World} {K : PySem.W.Frag} {mg : Str → Option Value} {base : Heap} {fs : Nat → Addr} {fd : Nat → FuncData} {tk : Nat → Tok} {cs : Nat → Addr}
theorem ok_Lcaught (sb : SmB base) (T : Txt K mg fs fd tk cs) : FnG P w K mg base CX0 3 (fs 8) (fd 8) P_Lcaught spOne := by
  refine Fun.okG T.f_Lcaught sc_Lcaught (fun vs H Q E h => ?_) (fun cd A out s H vs Q E gd hr h => ?_)
  · obtain ⟨p, v, rfl, _⟩ := h
    rfl
  · obtain ⟨p, one, rfl, hT, k⟩ := h
    obtain ⟨d, hda⟩ := Th.dz hT
    refine ⟨_, PSs.nox ((pss_cons (ps_set (i := 1) sc_Lcaught.nd rfl (by first | exact Or.inl rfl | exact Or.inr rfl) (pe_lst pa_nil))
      (pss_cons (ps_tryL (i := 2) (hds := [_]) rfl rfl sc_Lcaught.nd rfl rfl ⟨by rfl, by decide, Or.inl T.m_StripError⟩
        (fun W pn xe tk _ => by exact (pss_one (ps_raiseW rfl rfl tk (pe_newX T.x_Misfit T.i_Misfit T.t_Misfit (ok_Misfit_init T) gd (hr.mono (by decide)) pass0 inits1 (b_Misfit_init T) (by rfl) T.m_Misfit (pa_cons (pv 0) pa_nil)))))
        (.cons (skip3 ⟨by rfl, by decide, Or.inl T.m_BadNumber⟩ ⟨by rfl, by decide, Or.inl T.m_Missing⟩ ⟨by rfl, by decide, Or.inl T.m_Out⟩) .nil)
        (fun a pn => by exact (pss_one (ps_expr ((show PE _ _ (tBM K "list" rAppend (tVar 1) _) from pe_bm PySem.F.plainAttrs_list PySem.F.slot_list_append PySem.F.type_list_append mt_append (pv 1) (pa_cons ((show PE _ _ (tAtX K "part" (tVar 2)) from pe_atX (pv 2))) pa_nil)))))) ⟨_, _, rfl⟩)
      (pss_cons (ps_tryL (i := 2) (hds := [_]) rfl rfl sc_Lcaught.nd rfl rfl ⟨by rfl, by decide, Or.inl T.m_Missing⟩
        (fun W pn xe tk _ => by exact (pss_one (ps_raiseW rfl rfl tk (pe_newX T.x_NoView T.i_NoView T.t_NoView (ok_NoView_init T) gd (hr.mono (by decide)) pass0 inits1 (b_NoView_init T) (by rfl) T.m_NoView (pa_cons (pv 0) pa_nil)))))
        (.cons (skip2 ⟨by rfl, by decide, Or.inl T.m_NoFile⟩ ⟨by rfl, by decide, Or.inl T.m_Misfit⟩) .nil)
        (fun a pn => by exact (pss_one (ps_expr ((show PE _ _ (tBM K "list" rAppend (tVar 1) _) from pe_bm PySem.F.plainAttrs_list PySem.F.slot_list_append PySem.F.type_list_append mt_append (pv 1) (pa_cons ((show PE _ _ (tAtX K "value" (tVar 2)) from pe_atX (pv 2))) pa_nil)))))) ⟨_, _, rfl⟩)
      (pss_cons (ps_tryL (i := 2) (hds := []) rfl rfl sc_Lcaught.nd rfl rfl ⟨by rfl, by decide, Or.inl T.m_StripError⟩
        (fun W pn xe tk _ => by exact (pss_one (ps_raiseW rfl rfl tk (pe_new0W F.excBase_ValueError T.q_Out T.m_Out T.k_Out (by rfl)))))
        .nil
        (fun a pn => by exact (pss_one (ps_expr ((show PE _ _ (tBM K "list" rAppend (tVar 1) _) from pe_bm PySem.F.plainAttrs_list PySem.F.slot_list_append PySem.F.type_list_append mt_append (pv 1) (pa_cons (pe_ix (show IxR _ (rIxL K) from ix_list) (pg_callQ (okq_Lclasses T) ⟨((L2H.roomH_of hr).mono (j := 1) (by decide)).dp, ((L2H.roomH_of hr).mono (j := 1) (by decide)).un⟩ (by rfl) T.m_Lclasses T.f_Lclasses.kp (b_Lclasses T) .nil pass0 (pa_cons (pv 2) pa_nil)) (pe_int) (fun _ _ => rfl)) pa_nil)))))) ⟨_, _, rfl⟩)
      (pss_one (ps_ret (pe_cmpR op_eq (pe_callB (call_reprQ sb gd hr) (by rfl) T.z_repr (by decide +kernel) (pa_cons (pv 1) pa_nil)) (pe_callB (call_reprQ sb gd hr) (by rfl) T.z_repr (by decide +kernel) (pa_cons (pe_lst (pa_cons (pv 0) (pa_cons (pv 0) (pa_cons (pe_bl) pa_nil)))) pa_nil)) (nomark _))))))))), ?_⟩
    refine ⟨(show 0 ≤ sizeLine by decide), fun D hD => ?_⟩
    have y0 := Ex.nw (o := .lst []) hD
    have gD := upd_same (H := H) (a := D) (o := .lst [])
    generalize upd H D (.lst []) = H0 at y0 gD ⊢
    -- raise Misfit(one)
    refine ⟨_, rfl, one, rfl, fun a H1 ha e1 o1 => ?_⟩
    obtain ⟨dd, nd, oa, od⟩ := o1
    refine ⟨a, cs 9, some dd, rfl, oa, y0.no ha, ⟨T.x_Misfit.ox.exC, T.x_Misfit.ox.tyC⟩, (fun c hc => by rw [List.mem_singleton.mp hc]; exact T.ex1), T.ex2, fun b G1 hb hx => ?_⟩
    obtain ⟨ef, eg⟩ := ef_back nd od hb hx
    have x1 := (ex_del e1 ha).tr eg
    have gD1 := x1 _ _ gD
    refine ⟨_, rfl, .inl ⟨rfl, _, SqL.of gD1⟩, _, rfl, b, cs 9, _, one, rfl, ef, T.x_Misfit, T.n_Misfit_part, lk1, D, [], one, rfl, rfl, gD1, (show 0 < sizeLine by decide), ?_⟩
    have hD1 : H D = none := hD
    have z1 : Ex H (upd G1 D (.lst ([] ++ [one]))) := (y0.tr x1).up hD
    have gD2 := upd_same (H := G1) (a := D) (o := .lst ([] ++ [one]))
    generalize upd G1 D (.lst ([] ++ [one])) = H2 at z1 gD2 ⊢
    clear ef eg x1 gD1 hx hb nd oa od e1 ha y0 gD
    -- raise NoView(one)
    refine ⟨_, rfl, one, rfl, fun a2 H3 ha e1 o1 => ?_⟩
    obtain ⟨dd, nd, oa, od⟩ := o1
    refine ⟨a2, cs 12, some dd, rfl, oa, z1.no ha, ⟨T.x_NoView.ox.exC, T.x_NoView.ox.tyC⟩, (fun c hc => by rw [List.mem_singleton.mp hc]; exact T.ex3), T.ex4, fun b2 G2 hb hx => ?_⟩
    obtain ⟨ef, eg⟩ := ef_back nd od hb hx
    have x1 := (ex_del e1 ha).tr eg
    have gD1 := x1 _ _ gD2
    refine ⟨_, rfl, .inl ⟨rfl, _, SqL.of gD1⟩, _, rfl, b2, cs 12, _, one, rfl, ef, T.x_NoView, T.n_NoView_value, lk1, D, _, one, rfl, rfl, gD1, (show 1 < sizeLine by decide), ?_⟩
    have z2 : Ex H (upd G2 D (.lst ([] ++ [one] ++ [one]))) := (z1.tr x1).up hD
    have gD3 := upd_same (H := G2) (a := D) (o := .lst ([] ++ [one] ++ [one]))
    generalize upd G2 D (.lst ([] ++ [one] ++ [one])) = H4 at z2 gD3 ⊢
    clear ef eg x1 gD1 hx hb nd oa od e1 ha z1 gD2
    -- raise Out()
    intro a3 H5 ha e1 oa
    refine ⟨a3, cs 17, none, rfl, oa, z2.no ha, ⟨T.x_Out.ox.exC, T.x_Out.ox.tyC⟩, (fun c hc => by cases hc), T.ex5, fun b3 G3 hb hx => ?_⟩
    obtain ⟨φ, rfl, hφ⟩ := hx
    have eg : Ex (delH H5 a3) (upd (delH H5 a3) b3 (.ext φ)) := Ex.nw hb
    have ef : Ef (upd (delH H5 a3) b3 (.ext φ)) b3 (cs 17) [] := ⟨none, φ, upd_same, hφ, rfl⟩
    have x1 := (ex_del e1 ha).tr eg
    generalize upd (delH H5 a3) b3 (.ext φ) = G4 at ef x1 ⊢
    have gD1 := x1 _ _ gD3
    refine ⟨_, rfl, .inl ⟨rfl, _, SqL.of gD1⟩, _, rfl, b3, 17, rfl, by decide, ef.ei, fun c3 H6 _ e6 g6 => ?_⟩
    have gD2 := e6 _ _ gD1
    refine ⟨c3, _, 15, .bl true, rfl, rfl, SqL.of g6, rfl, D, _, .bl true, rfl, rfl, gD2, (show 2 < sizeLine by decide), ?_⟩
    have z3 : Ex H (upd H6 D (.lst ([] ++ [one] ++ [one] ++ [.bl true]))) := (z2.tr (x1.tr e6)).up hD
    have gD4 : (upd H6 D (.lst ([] ++ [one] ++ [one] ++ [.bl true]))) D = some (.lst [one, one, .bl true]) := upd_same
    generalize upd H6 D (.lst ([] ++ [one] ++ [one] ++ [.bl true])) = H7 at z3 gD4 ⊢
    have p1 := hda _ z3
    refine ⟨_, rfl, .ref D, .list [d, d, .bool true], rfl, (Dz.lst gD4 (.cons p1 (.cons p1 (.cons .bl .nil)))).da (by decide) (by decide), ?_⟩
    refine ⟨_, rfl, _, rfl, (show 3 ≤ sizeLine by decide), fun l hl => ?_⟩
    have y7 := Ex.nw (o := .lst [one, one, .bl true]) hl
    have p2 := p1.ex y7
    refine ⟨.ref l, .list [d, d, .bool true], rfl, (Dz.lst upd_same (.cons p2 (.cons p2 (.cons .bl .nil)))).da (by decide) (by decide), rfl, ?_⟩
    rw [decide_eq_true rfl]
    exact k _ (z3.tr y7)
theorem ok_law (sb : SmB base) (T : Txt K mg fs fd tk cs) : FnG P w K mg base CX0 4 (fs 9) (fd 9) P_law (spLaw K) := by
  refine Fun.okG T.f_law sc_law (fun vs H Q E h => ?_) (fun cd A out s H vs Q E gd hr h => ?_)
  · obtain ⟨a, ns, rfl, _⟩ := h
    rfl
  · obtain ⟨a, ns, rfl, hS, hl, k⟩ := h
    refine ⟨_, PSs.nox ((pss_cons (ps_set (i := 1) sc_law.nd rfl (by first | exact Or.inl rfl | exact Or.inr rfl) (pg_call (ok_Lbin T) gd (hr.mono (by decide)) (by rfl) T.m_Lbin T.f_Lbin.kp (b_Lbin T) .nil pass0 (pa_cons (pv 0) pa_nil)))
      (pss_cons (ps_for PassesOwn.never rfl (pi_range1 (by rfl) T.z_range (pa_cons (pe_int) pa_nil)) (pg_name (i := 2) sc_law.nd rfl (by first | exact Or.inl rfl | exact Or.inr rfl))
        (pss_cons (ps_par (i := 3) (j := 4) (by rfl) sc_law.nd rfl rfl (by decide) rfl rfl (pa_cons (pg_call (ok_Lthing T) gd (hr.mono (by decide)) (by rfl) T.m_Lthing T.f_Lthing.kp (b_Lthing T) .nil pass0 (pa_cons (pv 1) pa_nil)) (pa_cons (pg_call (ok_Lthing T) gd (hr.mono (by decide)) (by rfl) T.m_Lthing T.f_Lthing.kp (b_Lthing T) .nil pass0 (pa_cons (pv 1) pa_nil)) pa_nil)) (by rfl))
        (pss_one (ps_if (PW.pt (pw_or (pt_not (pt_val (pg_call (ok_Lparts_right sb T) gd (hr.mono (by decide)) (by rfl) T.m_Lparts_right T.f_Lparts_right.kp (b_Lparts_right T) .nil pass0 (pa_cons (pv 3) pa_nil)))) (pw_or (pt_not (pt_val (pg_call (ok_Lfields_right sb T) gd (hr.mono (by decide)) (by rfl) T.m_Lfields_right T.f_Lfields_right.kp (b_Lfields_right T) .nil pass0 (pa_cons (pv 3) (pa_cons (pv 4) pa_nil))))) (pw_or1 (pt_not (pt_val (pg_call (ok_Lcaught sb T) gd (hr.mono (by decide)) (by rfl) T.m_Lcaught T.f_Lcaught.kp (b_Lcaught T) .nil pass0 (pa_cons (pv 3) pa_nil))))))))
          (pss_one (ps_ret (pe_bl)))
          pss_nil))))
      (pss_one (ps_ret (pe_bl)))))), ?_⟩
    refine ⟨_, rfl, a, ns, rfl, hS, hl, fun p c H1 hp r e1 => ?_⟩
    dsimp only [gName, tSeq]
    refine ⟨3, rfl, by decide, by decide, ?_⟩
    refine for_range (lo := 0) (n := 3) (fun i σ' H' => (∃ y z v, σ' = [some (.ref a), some (.ref p), y, z, v]) ∧ Rk H' p c (4 * i)) ⟨⟨_, _, _, rfl⟩, r⟩ ?_ ?_
    · rintro i σ' H2 hi ⟨⟨y, z, v, rfl⟩, r2⟩
      refine ⟨_, rfl, p, c, _, rfl, r2, by omega, fun one H3 t1 r3 k3 => ?_⟩
      refine ⟨_, rfl, p, c, _, rfl, r3, by omega, fun other H4 t2 r4 k4 => ?_⟩
      have t1' := t1.kp k4
      refine ⟨_, _, rfl, ?_⟩
      refine ⟨_, rfl, p, one, rfl, t1', fun H5 e5 => ⟨_, rfl, iteF ?_⟩⟩
      refine ⟨_, rfl, _, rfl, p, one, other, rfl, t1'.ex e5, t2.ex e5, fun H6 e6 => ⟨_, rfl, iteF ?_⟩⟩
      refine ⟨_, rfl, p, one, rfl, (t1'.ex e5).ex e6, fun H7 e7 => ⟨_, rfl, iteF ?_⟩⟩
      exact ⟨⟨_, _, _, rfl⟩, (r4.kp ((e5.tr e6).tr e7)).more (by omega)⟩
    · rintro σ' H2 ⟨⟨y, z, v, rfl⟩, r2⟩
      exact k H2
end
end Mine
namespace Mine
open PySem PySem.Spec PyProof.Rows L2 GL
theorem all_mk {l : PySem.W.OpenLaw} {w : World} {K : PySem.W.Frag} {h : Heap} {mg : Str → Option Value} {fa : Addr} (X : K.In h) (G : h.Ns mainGlobals mg) (hfa : mg "law" = some (.ref fa))
    {f0 f1 f2 f3 f4 f5 f6 f7 f8 f9 f10 f11 f12 f13 f14 f15 f16 f17 f18 f19 f20 f21 f22 f23 f24 f25 : Addr} {od0 od1 od2 od3 od4 od5 od6 od7 od8 od9 od10 od11 od12 od13 od14 od15 od16 od17 od18 od19 od20 od21 od22 od23 od24 od25 an0 an1 an2 an3 an4 an5 an6 an7 an8 an9 an10 an11 an12 an13 an14 an15 an16 an17 an18 an19 an20 an21 an22 an23 an24 an25 : Option Addr} {sl0 sl1 sl2 sl3 sl4 sl5 sl6 sl7 sl8 sl9 sl10 sl11 sl12 sl13 sl14 sl15 sl16 sl17 sl18 sl19 sl20 sl21 sl22 sl23 sl24 sl25 : Array (Option Value)}
    {oc0 kV0 dc0 pm0 cd0 ct0 oc1 kV1 dc1 pm1 cd1 ct1 oc2 kV2 dc2 pm2 cd2 ct2 oc3 kV3 dc3 pm3 cd3 ct3 oc4 kV4 dc4 pm4 cd4 ct4 oc5 kV5 dc5 pm5 cd5 ct5 oc6 kV6 dc6 pm6 cd6 ct6 oc7 kV7 dc7 pm7 cd7 ct7 oc8 kV8 dc8 pm8 cd8 ct8 oc9 kV9 dc9 pm9 cd9 ct9 oc10 kV10 dc10 pm10 cd10 ct10 oc11 kV11 dc11 pm11 cd11 ct11 oc12 kV12 dc12 pm12 cd12 ct12 oc13 kV13 dc13 pm13 cd13 ct13 oc14 kV14 dc14 pm14 cd14 ct14 oc15 kV15 dc15 pm15 cd15 ct15 oc16 kV16 dc16 pm16 cd16 ct16 oc17 kV17 dc17 pm17 cd17 ct17 oc18 kV18 dc18 pm18 cd18 ct18 oc19 kV19 dc19 pm19 cd19 ct19 oc20 kV20 dc20 pm20 cd20 ct20 oc21 kV21 dc21 pm21 cd21 ct21 oc22 kV22 dc22 pm22 cd22 ct22 oc23 kV23 dc23 pm23 cd23 ct23 oc24 kV24 dc24 pm24 cd24 ct24 oc25 kV25 dc25 pm25 cd25 ct25 : Value}
    {C0 CN0 C1 CN1 C2 CN2 C3 CN3 C4 CN4 C5 CN5 C6 CN6 C7 CN7 C8 CN8 C9 CN9 C10 CN10 C11 CN11 C12 CN12 C13 CN13 C14 CN14 C15 CN15 C16 CN16 C17 CN17 : Addr} {nm0 qn0 nm1 qn1 nm2 qn2 nm3 qn3 nm4 qn4 nm5 qn5 nm6 qn6 nm7 qn7 nm8 qn8 nm9 qn9 nm10 qn10 nm11 qn11 nm12 qn12 nm13 qn13 nm14 qn14 nm15 qn15 nm16 qn16 nm17 qn17 : Str} {bs0 bm0 sb0 bs1 bm1 sb1 bs2 bm2 sb2 bs3 bm3 sb3 bs4 bm4 sb4 bs5 bm5 sb5 bs6 bm6 sb6 bs7 bm7 sb7 bs8 bm8 sb8 bs9 bm9 sb9 bs10 bm10 sb10 bs11 bm11 sb11 bs12 bm12 sb12 bs13 bm13 sb13 bs14 bm14 sb14 bs15 bm15 sb15 bs16 bm16 sb16 bs17 bm17 sb17 : List Value} {sn0 sn1 sn2 sn3 sn4 sn5 sn6 sn7 sn8 sn9 sn10 sn11 sn12 sn13 sn14 sn15 sn16 sn17 : List Str} {ab0 ab1 ab2 ab3 ab4 ab5 ab6 ab7 ab8 ab9 ab10 ab11 ab12 ab13 ab14 ab15 ab16 ab17 : Bool} {co0 co1 co2 co3 co4 co5 co6 co7 co8 co9 co10 co11 co12 co13 co14 co15 co16 co17 : Option Bool} {dd0 dd1 dd2 dd3 dd4 dd5 dd6 dd7 dd8 dd9 dd10 dd11 dd12 dd13 dd14 dd15 dd16 dd17 : Option Addr} {ka0 kb0 kc0 kd0 ke0 ka1 kb1 kc1 kd1 ke1 ka2 kb2 kc2 kd2 ke2 ka3 kb3 kc3 kd3 ke3 ka4 kb4 kc4 kd4 ke4 ka5 kb5 kc5 kd5 ke5 ka6 kb6 kc6 kd6 ke6 ka7 kb7 kc7 kd7 ke7 ka8 kb8 kc8 kd8 ke8 ka9 kb9 kc9 kd9 ke9 ka10 kb10 kc10 kd10 ke10 ka11 kb11 kc11 kd11 ke11 ka12 kb12 kc12 kd12 ke12 ka13 kb13 kc13 kd13 ke13 ka14 kb14 kc14 kd14 ke14 ka15 kb15 kc15 kd15 ke15 ka16 kb16 kc16 kd16 ke16 ka17 kb17 kc17 kd17 ke17 : Option Value}
    (a0 : PySem.W.nsIn K mainGlobals "_law_bin" = some (some (.ref f0)))
    (l0 : K.lookup f0 = some ⟨oc0, od0, .func (PySem.W.fnOf "_law_bin" "_law_bin" (defArgs s_Lbin) (defBody s_Lbin) (defScope s_Lbin) .none kV0 dc0 pm0 an0 cd0 ct0), sl0⟩)
    (c0 : PySem.W.codeIn K cd0 "_law_bin" = true)
    (k0 : PySem.W.keepIn K (.ref f0) = true)
    (a1 : PySem.W.nsIn K mainGlobals "_law_reach" = some (some (.ref f1)))
    (l1 : K.lookup f1 = some ⟨oc1, od1, .func (PySem.W.fnOf "_law_reach" "_law_reach" (defArgs s_Lreach) (defBody s_Lreach) (defScope s_Lreach) .none kV1 dc1 pm1 an1 cd1 ct1), sl1⟩)
    (c1 : PySem.W.codeIn K cd1 "_law_reach" = true)
    (k1 : PySem.W.keepIn K (.ref f1) = true)
    (a2 : PySem.W.nsIn K mainGlobals "_law_pick" = some (some (.ref f2)))
    (l2 : K.lookup f2 = some ⟨oc2, od2, .func (PySem.W.fnOf "_law_pick" "_law_pick" (defArgs s_Lpick) (defBody s_Lpick) (defScope s_Lpick) .none kV2 dc2 pm2 an2 cd2 ct2), sl2⟩)
    (c2 : PySem.W.codeIn K cd2 "_law_pick" = true)
    (k2 : PySem.W.keepIn K (.ref f2) = true)
    (a3 : PySem.W.nsIn K mainGlobals "_law_thing" = some (some (.ref f3)))
    (l3 : K.lookup f3 = some ⟨oc3, od3, .func (PySem.W.fnOf "_law_thing" "_law_thing" (defArgs s_Lthing) (defBody s_Lthing) (defScope s_Lthing) .none kV3 dc3 pm3 an3 cd3 ct3), sl3⟩)
    (c3 : PySem.W.codeIn K cd3 "_law_thing" = true)
    (k3 : PySem.W.keepIn K (.ref f3) = true)
    (a4 : PySem.W.nsIn K mainGlobals "_law_classes" = some (some (.ref f4)))
    (l4 : K.lookup f4 = some ⟨oc4, od4, .func (PySem.W.fnOf "_law_classes" "_law_classes" (defArgs s_Lclasses) (defBody s_Lclasses) (defScope s_Lclasses) .none kV4 dc4 pm4 an4 cd4 ct4), sl4⟩)
    (c4 : PySem.W.codeIn K cd4 "_law_classes" = true)
    (k4 : PySem.W.keepIn K (.ref f4) = true)
    (a5 : PySem.W.nsIn K mainGlobals "_law_alone" = some (some (.ref f5)))
    (l5 : K.lookup f5 = some ⟨oc5, od5, .func (PySem.W.fnOf "_law_alone" "_law_alone" (defArgs s_Lalone) (defBody s_Lalone) (defScope s_Lalone) .none kV5 dc5 pm5 an5 cd5 ct5), sl5⟩)
    (c5 : PySem.W.codeIn K cd5 "_law_alone" = true)
    (k5 : PySem.W.keepIn K (.ref f5) = true)
    (a6 : PySem.W.nsIn K mainGlobals "_law_parts_right" = some (some (.ref f6)))
    (l6 : K.lookup f6 = some ⟨oc6, od6, .func (PySem.W.fnOf "_law_parts_right" "_law_parts_right" (defArgs s_Lparts_right) (defBody s_Lparts_right) (defScope s_Lparts_right) .none kV6 dc6 pm6 an6 cd6 ct6), sl6⟩)
    (c6 : PySem.W.codeIn K cd6 "_law_parts_right" = true)
    (k6 : PySem.W.keepIn K (.ref f6) = true)
    (a7 : PySem.W.nsIn K mainGlobals "_law_fields_right" = some (some (.ref f7)))
    (l7 : K.lookup f7 = some ⟨oc7, od7, .func (PySem.W.fnOf "_law_fields_right" "_law_fields_right" (defArgs s_Lfields_right) (defBody s_Lfields_right) (defScope s_Lfields_right) .none kV7 dc7 pm7 an7 cd7 ct7), sl7⟩)
    (c7 : PySem.W.codeIn K cd7 "_law_fields_right" = true)
    (k7 : PySem.W.keepIn K (.ref f7) = true)
    (a8 : PySem.W.nsIn K mainGlobals "_law_caught" = some (some (.ref f8)))
    (l8 : K.lookup f8 = some ⟨oc8, od8, .func (PySem.W.fnOf "_law_caught" "_law_caught" (defArgs s_Lcaught) (defBody s_Lcaught) (defScope s_Lcaught) .none kV8 dc8 pm8 an8 cd8 ct8), sl8⟩)
    (c8 : PySem.W.codeIn K cd8 "_law_caught" = true)
    (k8 : PySem.W.keepIn K (.ref f8) = true)
    (a9 : PySem.W.nsIn K mainGlobals "law" = some (some (.ref f9)))
    (l9 : K.lookup f9 = some ⟨oc9, od9, .func (PySem.W.fnOf "law" "law" (defArgs s_law) (defBody s_law) (defScope s_law) .none kV9 dc9 pm9 an9 cd9 ct9), sl9⟩)
    (c9 : PySem.W.codeIn K cd9 "law" = true)
    (k9 : PySem.W.keepIn K (.ref f9) = true)
    (z0 : PySem.W.nsIn K mainGlobals "ArithmeticError" = some none)
    (z1 : PySem.W.nsIn K mainGlobals "AttributeError" = some none)
    (z2 : PySem.W.nsIn K mainGlobals "LookupError" = some none)
    (z3 : PySem.W.nsIn K mainGlobals "RuntimeError" = some none)
    (z4 : PySem.W.nsIn K mainGlobals "TypeError" = some none)
    (z5 : PySem.W.nsIn K mainGlobals "ValueError" = some none)
    (z6 : PySem.W.nsIn K mainGlobals "abs" = some none)
    (z7 : PySem.W.nsIn K mainGlobals "enumerate" = some none)
    (z8 : PySem.W.nsIn K mainGlobals "int" = some none)
    (z9 : PySem.W.nsIn K mainGlobals "isinstance" = some none)
    (z10 : PySem.W.nsIn K mainGlobals "len" = some none)
    (z11 : PySem.W.nsIn K mainGlobals "range" = some none)
    (z12 : PySem.W.nsIn K mainGlobals "repr" = some none)
    (z13 : PySem.W.nsIn K mainGlobals "str" = some none)
    (z14 : PySem.W.nsIn K mainGlobals "zip" = some none)
    (ca0 : PySem.W.nsIn K mainGlobals "StripError" = some (some (.ref C0)))
    (cx0 : K.lookup C0 = some (excClassObj nm0 qn0 C0 CN0 bs0 bm0 true sn0 sb0 ab0 co0 dd0 ka0 kb0 kc0 kd0 ke0 "ValueError.__new__"))
    (cr0 : PySem.HandSPX.refsVE bm0 = true)
    (cb0 : clsB K C0 = true)
    (ck0 : PySem.W.keepIn K (.ref C0) = true)
    (cq0 : PySem.W.excIn K C0 [.type "ValueError", .type "Exception", .type "BaseException", .type "object"] "ValueError.__new__" = true)
    (ca1 : PySem.W.nsIn K mainGlobals "BadNumber" = some (some (.ref C1)))
    (cx1 : K.lookup C1 = some (excClassObj nm1 qn1 C1 CN1 bs1 bm1 true sn1 sb1 ab1 co1 dd1 ka1 kb1 kc1 kd1 ke1 "ValueError.__new__"))
    (cr1 : PySem.HandSPX.refsVE bm1 = true)
    (cb1 : clsB K C1 = true)
    (ci1 : PySem.W.findIn K (.ref C1) "__init__" = some (some (.ref f10)))
    (ct_1 : PySem.W.typeIn K (.ref f10) = some (.type "function"))
    (l10 : K.lookup f10 = some ⟨oc10, od10, .func (PySem.W.fnOf "__init__" "BadNumber.__init__" (defArgs s_BadNumber_init) (defBody s_BadNumber_init) (defScope s_BadNumber_init) .none kV10 dc10 pm10 an10 cd10 ct10), sl10⟩)
    (c10 : PySem.W.codeIn K cd10 "BadNumber.__init__" = true)
    (k10 : PySem.W.keepIn K (.ref f10) = true)
    (cn1_part : PySem.W.findIn K (.ref C1) "part" = some none)
    (ca2 : PySem.W.nsIn K mainGlobals "BadName" = some (some (.ref C2)))
    (cx2 : K.lookup C2 = some (excClassObj nm2 qn2 C2 CN2 bs2 bm2 true sn2 sb2 ab2 co2 dd2 ka2 kb2 kc2 kd2 ke2 "ValueError.__new__"))
    (cr2 : PySem.HandSPX.refsVE bm2 = true)
    (cb2 : clsB K C2 = true)
    (ci2 : PySem.W.findIn K (.ref C2) "__init__" = some (some (.ref f11)))
    (ct_2 : PySem.W.typeIn K (.ref f11) = some (.type "function"))
    (l11 : K.lookup f11 = some ⟨oc11, od11, .func (PySem.W.fnOf "__init__" "BadName.__init__" (defArgs s_BadName_init) (defBody s_BadName_init) (defScope s_BadName_init) .none kV11 dc11 pm11 an11 cd11 ct11), sl11⟩)
    (c11 : PySem.W.codeIn K cd11 "BadName.__init__" = true)
    (k11 : PySem.W.keepIn K (.ref f11) = true)
    (cn2_part : PySem.W.findIn K (.ref C2) "part" = some none)
    (ca3 : PySem.W.nsIn K mainGlobals "BadContents" = some (some (.ref C3)))
    (cx3 : K.lookup C3 = some (excClassObj nm3 qn3 C3 CN3 bs3 bm3 true sn3 sb3 ab3 co3 dd3 ka3 kb3 kc3 kd3 ke3 "ValueError.__new__"))
    (cr3 : PySem.HandSPX.refsVE bm3 = true)
    (cb3 : clsB K C3 = true)
    (ci3 : PySem.W.findIn K (.ref C3) "__init__" = some (some (.ref f12)))
    (ct_3 : PySem.W.typeIn K (.ref f12) = some (.type "function"))
    (l12 : K.lookup f12 = some ⟨oc12, od12, .func (PySem.W.fnOf "__init__" "BadContents.__init__" (defArgs s_BadContents_init) (defBody s_BadContents_init) (defScope s_BadContents_init) .none kV12 dc12 pm12 an12 cd12 ct12), sl12⟩)
    (c12 : PySem.W.codeIn K cd12 "BadContents.__init__" = true)
    (k12 : PySem.W.keepIn K (.ref f12) = true)
    (cn3_part : PySem.W.findIn K (.ref C3) "part" = some none)
    (ca4 : PySem.W.nsIn K mainGlobals "BadDisk" = some (some (.ref C4)))
    (cx4 : K.lookup C4 = some (excClassObj nm4 qn4 C4 CN4 bs4 bm4 true sn4 sb4 ab4 co4 dd4 ka4 kb4 kc4 kd4 ke4 "ValueError.__new__"))
    (cr4 : PySem.HandSPX.refsVE bm4 = true)
    (cb4 : clsB K C4 = true)
    (ci4 : PySem.W.findIn K (.ref C4) "__init__" = some (some (.ref f13)))
    (ct_4 : PySem.W.typeIn K (.ref f13) = some (.type "function"))
    (l13 : K.lookup f13 = some ⟨oc13, od13, .func (PySem.W.fnOf "__init__" "BadDisk.__init__" (defArgs s_BadDisk_init) (defBody s_BadDisk_init) (defScope s_BadDisk_init) .none kV13 dc13 pm13 an13 cd13 ct13), sl13⟩)
    (c13 : PySem.W.codeIn K cd13 "BadDisk.__init__" = true)
    (k13 : PySem.W.keepIn K (.ref f13) = true)
    (cn4_part : PySem.W.findIn K (.ref C4) "part" = some none)
    (ca5 : PySem.W.nsIn K mainGlobals "BadLayout" = some (some (.ref C5)))
    (cx5 : K.lookup C5 = some (excClassObj nm5 qn5 C5 CN5 bs5 bm5 true sn5 sb5 ab5 co5 dd5 ka5 kb5 kc5 kd5 ke5 "ValueError.__new__"))
    (cr5 : PySem.HandSPX.refsVE bm5 = true)
    (cb5 : clsB K C5 = true)
    (ci5 : PySem.W.findIn K (.ref C5) "__init__" = some (some (.ref f14)))
    (ct_5 : PySem.W.typeIn K (.ref f14) = some (.type "function"))
    (l14 : K.lookup f14 = some ⟨oc14, od14, .func (PySem.W.fnOf "__init__" "BadLayout.__init__" (defArgs s_BadLayout_init) (defBody s_BadLayout_init) (defScope s_BadLayout_init) .none kV14 dc14 pm14 an14 cd14 ct14), sl14⟩)
    (c14 : PySem.W.codeIn K cd14 "BadLayout.__init__" = true)
    (k14 : PySem.W.keepIn K (.ref f14) = true)
    (cn5_part : PySem.W.findIn K (.ref C5) "part" = some none)
    (ca6 : PySem.W.nsIn K mainGlobals "BadDeeds" = some (some (.ref C6)))
    (cx6 : K.lookup C6 = some (excClassObj nm6 qn6 C6 CN6 bs6 bm6 true sn6 sb6 ab6 co6 dd6 ka6 kb6 kc6 kd6 ke6 "ValueError.__new__"))
    (cr6 : PySem.HandSPX.refsVE bm6 = true)
    (cb6 : clsB K C6 = true)
    (ci6 : PySem.W.findIn K (.ref C6) "__init__" = some (some (.ref f15)))
    (ct_6 : PySem.W.typeIn K (.ref f15) = some (.type "function"))
    (l15 : K.lookup f15 = some ⟨oc15, od15, .func (PySem.W.fnOf "__init__" "BadDeeds.__init__" (defArgs s_BadDeeds_init) (defBody s_BadDeeds_init) (defScope s_BadDeeds_init) .none kV15 dc15 pm15 an15 cd15 ct15), sl15⟩)
    (c15 : PySem.W.codeIn K cd15 "BadDeeds.__init__" = true)
    (k15 : PySem.W.keepIn K (.ref f15) = true)
    (cn6_part : PySem.W.findIn K (.ref C6) "part" = some none)
    (ca7 : PySem.W.nsIn K mainGlobals "BadPrices" = some (some (.ref C7)))
    (cx7 : K.lookup C7 = some (excClassObj nm7 qn7 C7 CN7 bs7 bm7 true sn7 sb7 ab7 co7 dd7 ka7 kb7 kc7 kd7 ke7 "ValueError.__new__"))
    (cr7 : PySem.HandSPX.refsVE bm7 = true)
    (cb7 : clsB K C7 = true)
    (ci7 : PySem.W.findIn K (.ref C7) "__init__" = some (some (.ref f16)))
    (ct_7 : PySem.W.typeIn K (.ref f16) = some (.type "function"))
    (l16 : K.lookup f16 = some ⟨oc16, od16, .func (PySem.W.fnOf "__init__" "BadPrices.__init__" (defArgs s_BadPrices_init) (defBody s_BadPrices_init) (defScope s_BadPrices_init) .none kV16 dc16 pm16 an16 cd16 ct16), sl16⟩)
    (c16 : PySem.W.codeIn K cd16 "BadPrices.__init__" = true)
    (k16 : PySem.W.keepIn K (.ref f16) = true)
    (cn7_part : PySem.W.findIn K (.ref C7) "part" = some none)
    (ca8 : PySem.W.nsIn K mainGlobals "BadStore" = some (some (.ref C8)))
    (cx8 : K.lookup C8 = some (excClassObj nm8 qn8 C8 CN8 bs8 bm8 true sn8 sb8 ab8 co8 dd8 ka8 kb8 kc8 kd8 ke8 "ValueError.__new__"))
    (cr8 : PySem.HandSPX.refsVE bm8 = true)
    (cb8 : clsB K C8 = true)
    (ci8 : PySem.W.findIn K (.ref C8) "__init__" = some (some (.ref f17)))
    (ct_8 : PySem.W.typeIn K (.ref f17) = some (.type "function"))
    (l17 : K.lookup f17 = some ⟨oc17, od17, .func (PySem.W.fnOf "__init__" "BadStore.__init__" (defArgs s_BadStore_init) (defBody s_BadStore_init) (defScope s_BadStore_init) .none kV17 dc17 pm17 an17 cd17 ct17), sl17⟩)
    (c17 : PySem.W.codeIn K cd17 "BadStore.__init__" = true)
    (k17 : PySem.W.keepIn K (.ref f17) = true)
    (cn8_part : PySem.W.findIn K (.ref C8) "part" = some none)
    (ca9 : PySem.W.nsIn K mainGlobals "Misfit" = some (some (.ref C9)))
    (cx9 : K.lookup C9 = some (excClassObj nm9 qn9 C9 CN9 bs9 bm9 true sn9 sb9 ab9 co9 dd9 ka9 kb9 kc9 kd9 ke9 "ValueError.__new__"))
    (cr9 : PySem.HandSPX.refsVE bm9 = true)
    (cb9 : clsB K C9 = true)
    (ci9 : PySem.W.findIn K (.ref C9) "__init__" = some (some (.ref f18)))
    (ct_9 : PySem.W.typeIn K (.ref f18) = some (.type "function"))
    (l18 : K.lookup f18 = some ⟨oc18, od18, .func (PySem.W.fnOf "__init__" "Misfit.__init__" (defArgs s_Misfit_init) (defBody s_Misfit_init) (defScope s_Misfit_init) .none kV18 dc18 pm18 an18 cd18 ct18), sl18⟩)
    (c18 : PySem.W.codeIn K cd18 "Misfit.__init__" = true)
    (k18 : PySem.W.keepIn K (.ref f18) = true)
    (cn9_part : PySem.W.findIn K (.ref C9) "part" = some none)
    (ca10 : PySem.W.nsIn K mainGlobals "Missing" = some (some (.ref C10)))
    (cx10 : K.lookup C10 = some (excClassObj nm10 qn10 C10 CN10 bs10 bm10 true sn10 sb10 ab10 co10 dd10 ka10 kb10 kc10 kd10 ke10 "ValueError.__new__"))
    (cr10 : PySem.HandSPX.refsVE bm10 = true)
    (cb10 : clsB K C10 = true)
    (ci10 : PySem.W.findIn K (.ref C10) "__init__" = some (some (.ref f19)))
    (ct_10 : PySem.W.typeIn K (.ref f19) = some (.type "function"))
    (l19 : K.lookup f19 = some ⟨oc19, od19, .func (PySem.W.fnOf "__init__" "Missing.__init__" (defArgs s_Missing_init) (defBody s_Missing_init) (defScope s_Missing_init) .none kV19 dc19 pm19 an19 cd19 ct19), sl19⟩)
    (c19 : PySem.W.codeIn K cd19 "Missing.__init__" = true)
    (k19 : PySem.W.keepIn K (.ref f19) = true)
    (cn10_value : PySem.W.findIn K (.ref C10) "value" = some none)
    (ca11 : PySem.W.nsIn K mainGlobals "NoFile" = some (some (.ref C11)))
    (cx11 : K.lookup C11 = some (excClassObj nm11 qn11 C11 CN11 bs11 bm11 true sn11 sb11 ab11 co11 dd11 ka11 kb11 kc11 kd11 ke11 "ValueError.__new__"))
    (cr11 : PySem.HandSPX.refsVE bm11 = true)
    (cb11 : clsB K C11 = true)
    (ci11 : PySem.W.findIn K (.ref C11) "__init__" = some (some (.ref f20)))
    (ct_11 : PySem.W.typeIn K (.ref f20) = some (.type "function"))
    (l20 : K.lookup f20 = some ⟨oc20, od20, .func (PySem.W.fnOf "__init__" "NoFile.__init__" (defArgs s_NoFile_init) (defBody s_NoFile_init) (defScope s_NoFile_init) .none kV20 dc20 pm20 an20 cd20 ct20), sl20⟩)
    (c20 : PySem.W.codeIn K cd20 "NoFile.__init__" = true)
    (k20 : PySem.W.keepIn K (.ref f20) = true)
    (cn11_value : PySem.W.findIn K (.ref C11) "value" = some none)
    (ca12 : PySem.W.nsIn K mainGlobals "NoView" = some (some (.ref C12)))
    (cx12 : K.lookup C12 = some (excClassObj nm12 qn12 C12 CN12 bs12 bm12 true sn12 sb12 ab12 co12 dd12 ka12 kb12 kc12 kd12 ke12 "ValueError.__new__"))
    (cr12 : PySem.HandSPX.refsVE bm12 = true)
    (cb12 : clsB K C12 = true)
    (ci12 : PySem.W.findIn K (.ref C12) "__init__" = some (some (.ref f21)))
    (ct_12 : PySem.W.typeIn K (.ref f21) = some (.type "function"))
    (l21 : K.lookup f21 = some ⟨oc21, od21, .func (PySem.W.fnOf "__init__" "NoView.__init__" (defArgs s_NoView_init) (defBody s_NoView_init) (defScope s_NoView_init) .none kV21 dc21 pm21 an21 cd21 ct21), sl21⟩)
    (c21 : PySem.W.codeIn K cd21 "NoView.__init__" = true)
    (k21 : PySem.W.keepIn K (.ref f21) = true)
    (cn12_value : PySem.W.findIn K (.ref C12) "value" = some none)
    (ca13 : PySem.W.nsIn K mainGlobals "Twice" = some (some (.ref C13)))
    (cx13 : K.lookup C13 = some (excClassObj nm13 qn13 C13 CN13 bs13 bm13 true sn13 sb13 ab13 co13 dd13 ka13 kb13 kc13 kd13 ke13 "ValueError.__new__"))
    (cr13 : PySem.HandSPX.refsVE bm13 = true)
    (cb13 : clsB K C13 = true)
    (ci13 : PySem.W.findIn K (.ref C13) "__init__" = some (some (.ref f22)))
    (ct_13 : PySem.W.typeIn K (.ref f22) = some (.type "function"))
    (l22 : K.lookup f22 = some ⟨oc22, od22, .func (PySem.W.fnOf "__init__" "Twice.__init__" (defArgs s_Twice_init) (defBody s_Twice_init) (defScope s_Twice_init) .none kV22 dc22 pm22 an22 cd22 ct22), sl22⟩)
    (c22 : PySem.W.codeIn K cd22 "Twice.__init__" = true)
    (k22 : PySem.W.keepIn K (.ref f22) = true)
    (cn13_value : PySem.W.findIn K (.ref C13) "value" = some none)
    (ca14 : PySem.W.nsIn K mainGlobals "TooMany" = some (some (.ref C14)))
    (cx14 : K.lookup C14 = some (excClassObj nm14 qn14 C14 CN14 bs14 bm14 true sn14 sb14 ab14 co14 dd14 ka14 kb14 kc14 kd14 ke14 "ValueError.__new__"))
    (cr14 : PySem.HandSPX.refsVE bm14 = true)
    (cb14 : clsB K C14 = true)
    (ci14 : PySem.W.findIn K (.ref C14) "__init__" = some (some (.ref f23)))
    (ct_14 : PySem.W.typeIn K (.ref f23) = some (.type "function"))
    (l23 : K.lookup f23 = some ⟨oc23, od23, .func (PySem.W.fnOf "__init__" "TooMany.__init__" (defArgs s_TooMany_init) (defBody s_TooMany_init) (defScope s_TooMany_init) .none kV23 dc23 pm23 an23 cd23 ct23), sl23⟩)
    (c23 : PySem.W.codeIn K cd23 "TooMany.__init__" = true)
    (k23 : PySem.W.keepIn K (.ref f23) = true)
    (cn14_what : PySem.W.findIn K (.ref C14) "what" = some none)
    (cn14_most : PySem.W.findIn K (.ref C14) "most" = some none)
    (ca15 : PySem.W.nsIn K mainGlobals "Impossible" = some (some (.ref C15)))
    (cx15 : K.lookup C15 = some (excClassObj nm15 qn15 C15 CN15 bs15 bm15 true sn15 sb15 ab15 co15 dd15 ka15 kb15 kc15 kd15 ke15 "ValueError.__new__"))
    (cr15 : PySem.HandSPX.refsVE bm15 = true)
    (cb15 : clsB K C15 = true)
    (ci15 : PySem.W.findIn K (.ref C15) "__init__" = some (some (.ref f24)))
    (ct_15 : PySem.W.typeIn K (.ref f24) = some (.type "function"))
    (l24 : K.lookup f24 = some ⟨oc24, od24, .func (PySem.W.fnOf "__init__" "Impossible.__init__" (defArgs s_Impossible_init) (defBody s_Impossible_init) (defScope s_Impossible_init) .none kV24 dc24 pm24 an24 cd24 ct24), sl24⟩)
    (c24 : PySem.W.codeIn K cd24 "Impossible.__init__" = true)
    (k24 : PySem.W.keepIn K (.ref f24) = true)
    (cn15_paper : PySem.W.findIn K (.ref C15) "paper" = some none)
    (ca16 : PySem.W.nsIn K mainGlobals "BadText" = some (some (.ref C16)))
    (cx16 : K.lookup C16 = some (excClassObj nm16 qn16 C16 CN16 bs16 bm16 true sn16 sb16 ab16 co16 dd16 ka16 kb16 kc16 kd16 ke16 "ValueError.__new__"))
    (cr16 : PySem.HandSPX.refsVE bm16 = true)
    (cb16 : clsB K C16 = true)
    (ci16 : PySem.W.findIn K (.ref C16) "__init__" = some (some (.ref f25)))
    (ct_16 : PySem.W.typeIn K (.ref f25) = some (.type "function"))
    (l25 : K.lookup f25 = some ⟨oc25, od25, .func (PySem.W.fnOf "__init__" "BadText.__init__" (defArgs s_BadText_init) (defBody s_BadText_init) (defScope s_BadText_init) .none kV25 dc25 pm25 an25 cd25 ct25), sl25⟩)
    (c25 : PySem.W.codeIn K cd25 "BadText.__init__" = true)
    (k25 : PySem.W.keepIn K (.ref f25) = true)
    (cn16_item : PySem.W.findIn K (.ref C16) "item" = some none)
    (ca17 : PySem.W.nsIn K mainGlobals "Out" = some (some (.ref C17)))
    (cx17 : K.lookup C17 = some (excClassObj nm17 qn17 C17 CN17 bs17 bm17 true sn17 sb17 ab17 co17 dd17 ka17 kb17 kc17 kd17 ke17 "ValueError.__new__"))
    (cr17 : PySem.HandSPX.refsVE bm17 = true)
    (cb17 : clsB K C17 = true)
    (ck17 : PySem.W.keepIn K (.ref C17) = true)
    (cq17 : PySem.W.excIn K C17 [.type "ValueError", .type "Exception", .type "BaseException", .type "object"] "ValueError.__new__" = true)
    (x_isi : matB K (fun i => match i with | 0 => C0 | 1 => C1 | 2 => C2 | 3 => C3 | 4 => C4 | 5 => C5 | 6 => C6 | 7 => C7 | 8 => C8 | 9 => C9 | 10 => C10 | 11 => C11 | 12 => C12 | 13 => C13 | 14 => C14 | 15 => C15 | 16 => C16 | 17 => C17 | _ => C0) 18 subT = true)
    (x_isv : bltB K (fun i => match i with | 0 => C0 | 1 => C1 | 2 => C2 | 3 => C3 | 4 => C4 | 5 => C5 | 6 => C6 | 7 => C7 | 8 => C8 | 9 => C9 | 10 => C10 | 11 => C11 | 12 => C12 | 13 => C13 | 14 => C14 | 15 => C15 | 16 => C16 | 17 => C17 | _ => C0) 18 (.type "ValueError") = true)
    (x_isn : noB K (fun i => match i with | 0 => C0 | 1 => C1 | 2 => C2 | 3 => C3 | 4 => C4 | 5 => C5 | 6 => C6 | 7 => C7 | 8 => C8 | 9 => C9 | 10 => C10 | 11 => C11 | 12 => C12 | 13 => C13 | 14 => C14 | 15 => C15 | 16 => C16 | 17 => C17 | _ => C0) 18 [.type "TypeError", .type "LookupError", .type "ArithmeticError", .type "RuntimeError", .type "AttributeError"] = true)
    (x_ex1 : PySem.W.exmAny K (.ref C9) [.ref C1, .ref C10, .ref C17] = some false)
    (x_ex2 : PySem.W.exmOne K (.ref C9) (.ref C0) = some true)
    (x_ex3 : PySem.W.exmAny K (.ref C12) [.ref C11, .ref C9] = some false)
    (x_ex4 : PySem.W.exmOne K (.ref C12) (.ref C10) = some true)
    (x_ex5 : PySem.W.exmOne K (.ref C17) (.ref C0) = some true)
    : ∃ fd : FuncData, (∀ (s : Shared) (v : Value), BindsTo s fd ⟨[v], []⟩ [(P_law.head!, v)]) ∧ ∀ base : Heap, K.In base → base.Ns mainGlobals mg → SmB base → FnG l.prog w K mg base CX0 4 fa fd P_law (spLaw K) := by
  have e := hfa.symm.trans (PySem.W.mg_of X G a9)
  cases e
  have T : Txt K mg (fun i => match i with | 0 => f0 | 1 => f1 | 2 => f2 | 3 => f3 | 4 => f4 | 5 => f5 | 6 => f6 | 7 => f7 | 8 => f8 | 9 => fa | 10 => f10 | 11 => f11 | 12 => f12 | 13 => f13 | 14 => f14 | 15 => f15 | 16 => f16 | 17 => f17 | 18 => f18 | 19 => f19 | 20 => f20 | 21 => f21 | 22 => f22 | 23 => f23 | 24 => f24 | 25 => f25 | _ => fa) (fun i => match i with | 0 => PySem.W.fnOf "_law_bin" "_law_bin" (defArgs s_Lbin) (defBody s_Lbin) (defScope s_Lbin) .none kV0 dc0 pm0 an0 cd0 ct0 | 1 => PySem.W.fnOf "_law_reach" "_law_reach" (defArgs s_Lreach) (defBody s_Lreach) (defScope s_Lreach) .none kV1 dc1 pm1 an1 cd1 ct1 | 2 => PySem.W.fnOf "_law_pick" "_law_pick" (defArgs s_Lpick) (defBody s_Lpick) (defScope s_Lpick) .none kV2 dc2 pm2 an2 cd2 ct2 | 3 => PySem.W.fnOf "_law_thing" "_law_thing" (defArgs s_Lthing) (defBody s_Lthing) (defScope s_Lthing) .none kV3 dc3 pm3 an3 cd3 ct3 | 4 => PySem.W.fnOf "_law_classes" "_law_classes" (defArgs s_Lclasses) (defBody s_Lclasses) (defScope s_Lclasses) .none kV4 dc4 pm4 an4 cd4 ct4 | 5 => PySem.W.fnOf "_law_alone" "_law_alone" (defArgs s_Lalone) (defBody s_Lalone) (defScope s_Lalone) .none kV5 dc5 pm5 an5 cd5 ct5 | 6 => PySem.W.fnOf "_law_parts_right" "_law_parts_right" (defArgs s_Lparts_right) (defBody s_Lparts_right) (defScope s_Lparts_right) .none kV6 dc6 pm6 an6 cd6 ct6 | 7 => PySem.W.fnOf "_law_fields_right" "_law_fields_right" (defArgs s_Lfields_right) (defBody s_Lfields_right) (defScope s_Lfields_right) .none kV7 dc7 pm7 an7 cd7 ct7 | 8 => PySem.W.fnOf "_law_caught" "_law_caught" (defArgs s_Lcaught) (defBody s_Lcaught) (defScope s_Lcaught) .none kV8 dc8 pm8 an8 cd8 ct8 | 9 => PySem.W.fnOf "law" "law" (defArgs s_law) (defBody s_law) (defScope s_law) .none kV9 dc9 pm9 an9 cd9 ct9 | 10 => PySem.W.fnOf "__init__" "BadNumber.__init__" (defArgs s_BadNumber_init) (defBody s_BadNumber_init) (defScope s_BadNumber_init) .none kV10 dc10 pm10 an10 cd10 ct10 | 11 => PySem.W.fnOf "__init__" "BadName.__init__" (defArgs s_BadName_init) (defBody s_BadName_init) (defScope s_BadName_init) .none kV11 dc11 pm11 an11 cd11 ct11 | 12 => PySem.W.fnOf "__init__" "BadContents.__init__" (defArgs s_BadContents_init) (defBody s_BadContents_init) (defScope s_BadContents_init) .none kV12 dc12 pm12 an12 cd12 ct12 | 13 => PySem.W.fnOf "__init__" "BadDisk.__init__" (defArgs s_BadDisk_init) (defBody s_BadDisk_init) (defScope s_BadDisk_init) .none kV13 dc13 pm13 an13 cd13 ct13 | 14 => PySem.W.fnOf "__init__" "BadLayout.__init__" (defArgs s_BadLayout_init) (defBody s_BadLayout_init) (defScope s_BadLayout_init) .none kV14 dc14 pm14 an14 cd14 ct14 | 15 => PySem.W.fnOf "__init__" "BadDeeds.__init__" (defArgs s_BadDeeds_init) (defBody s_BadDeeds_init) (defScope s_BadDeeds_init) .none kV15 dc15 pm15 an15 cd15 ct15 | 16 => PySem.W.fnOf "__init__" "BadPrices.__init__" (defArgs s_BadPrices_init) (defBody s_BadPrices_init) (defScope s_BadPrices_init) .none kV16 dc16 pm16 an16 cd16 ct16 | 17 => PySem.W.fnOf "__init__" "BadStore.__init__" (defArgs s_BadStore_init) (defBody s_BadStore_init) (defScope s_BadStore_init) .none kV17 dc17 pm17 an17 cd17 ct17 | 18 => PySem.W.fnOf "__init__" "Misfit.__init__" (defArgs s_Misfit_init) (defBody s_Misfit_init) (defScope s_Misfit_init) .none kV18 dc18 pm18 an18 cd18 ct18 | 19 => PySem.W.fnOf "__init__" "Missing.__init__" (defArgs s_Missing_init) (defBody s_Missing_init) (defScope s_Missing_init) .none kV19 dc19 pm19 an19 cd19 ct19 | 20 => PySem.W.fnOf "__init__" "NoFile.__init__" (defArgs s_NoFile_init) (defBody s_NoFile_init) (defScope s_NoFile_init) .none kV20 dc20 pm20 an20 cd20 ct20 | 21 => PySem.W.fnOf "__init__" "NoView.__init__" (defArgs s_NoView_init) (defBody s_NoView_init) (defScope s_NoView_init) .none kV21 dc21 pm21 an21 cd21 ct21 | 22 => PySem.W.fnOf "__init__" "Twice.__init__" (defArgs s_Twice_init) (defBody s_Twice_init) (defScope s_Twice_init) .none kV22 dc22 pm22 an22 cd22 ct22 | 23 => PySem.W.fnOf "__init__" "TooMany.__init__" (defArgs s_TooMany_init) (defBody s_TooMany_init) (defScope s_TooMany_init) .none kV23 dc23 pm23 an23 cd23 ct23 | 24 => PySem.W.fnOf "__init__" "Impossible.__init__" (defArgs s_Impossible_init) (defBody s_Impossible_init) (defScope s_Impossible_init) .none kV24 dc24 pm24 an24 cd24 ct24 | 25 => PySem.W.fnOf "__init__" "BadText.__init__" (defArgs s_BadText_init) (defBody s_BadText_init) (defScope s_BadText_init) .none kV25 dc25 pm25 an25 cd25 ct25 | _ => PySem.W.fnOf "_law_bin" "_law_bin" (defArgs s_Lbin) (defBody s_Lbin) (defScope s_Lbin) .none kV0 dc0 pm0 an0 cd0 ct0) (fun i => match i with  | _ => 0) (fun i => match i with | 0 => C0 | 1 => C1 | 2 => C2 | 3 => C3 | 4 => C4 | 5 => C5 | 6 => C6 | 7 => C7 | 8 => C8 | 9 => C9 | 10 => C10 | 11 => C11 | 12 => C12 | 13 => C13 | 14 => C14 | 15 => C15 | 16 => C16 | 17 => C17 | _ => C0) :=
    ⟨fun_mk (st := s_Lbin) l0 c0 k0, PySem.W.mg_of X G a0, fun_mk (st := s_Lreach) l1 c1 k1, PySem.W.mg_of X G a1, fun_mk (st := s_Lpick) l2 c2 k2, PySem.W.mg_of X G a2, fun_mk (st := s_Lthing) l3 c3 k3, PySem.W.mg_of X G a3, fun_mk (st := s_Lclasses) l4 c4 k4, PySem.W.mg_of X G a4, fun_mk (st := s_Lalone) l5 c5 k5, PySem.W.mg_of X G a5, fun_mk (st := s_Lparts_right) l6 c6 k6, PySem.W.mg_of X G a6, fun_mk (st := s_Lfields_right) l7 c7 k7, PySem.W.mg_of X G a7, fun_mk (st := s_Lcaught) l8 c8 k8, PySem.W.mg_of X G a8, fun_mk (st := s_law) l9 c9 k9, PySem.W.mg_of X G a9, PySem.W.mg_none_of X G z0, PySem.W.mg_none_of X G z1, PySem.W.mg_none_of X G z2, PySem.W.mg_none_of X G z3, PySem.W.mg_none_of X G z4, PySem.W.mg_none_of X G z5, PySem.W.mg_none_of X G z6, PySem.W.mg_none_of X G z7, PySem.W.mg_none_of X G z8, PySem.W.mg_none_of X G z9, PySem.W.mg_none_of X G z10, PySem.W.mg_none_of X G z11, PySem.W.mg_none_of X G z12, PySem.W.mg_none_of X G z13, PySem.W.mg_none_of X G z14, clsX_of cx0 cr0 cb0, PySem.W.mg_of X G ca0, ck0, cq0, clsX_of cx1 cr1 cb1, PySem.W.mg_of X G ca1, fun_mk (st := s_BadNumber_init) l10 c10 k10, ci1, ct_1, cn1_part, clsX_of cx2 cr2 cb2, PySem.W.mg_of X G ca2, fun_mk (st := s_BadName_init) l11 c11 k11, ci2, ct_2, cn2_part, clsX_of cx3 cr3 cb3, PySem.W.mg_of X G ca3, fun_mk (st := s_BadContents_init) l12 c12 k12, ci3, ct_3, cn3_part, clsX_of cx4 cr4 cb4, PySem.W.mg_of X G ca4, fun_mk (st := s_BadDisk_init) l13 c13 k13, ci4, ct_4, cn4_part, clsX_of cx5 cr5 cb5, PySem.W.mg_of X G ca5, fun_mk (st := s_BadLayout_init) l14 c14 k14, ci5, ct_5, cn5_part, clsX_of cx6 cr6 cb6, PySem.W.mg_of X G ca6, fun_mk (st := s_BadDeeds_init) l15 c15 k15, ci6, ct_6, cn6_part, clsX_of cx7 cr7 cb7, PySem.W.mg_of X G ca7, fun_mk (st := s_BadPrices_init) l16 c16 k16, ci7, ct_7, cn7_part, clsX_of cx8 cr8 cb8, PySem.W.mg_of X G ca8, fun_mk (st := s_BadStore_init) l17 c17 k17, ci8, ct_8, cn8_part, clsX_of cx9 cr9 cb9, PySem.W.mg_of X G ca9, fun_mk (st := s_Misfit_init) l18 c18 k18, ci9, ct_9, cn9_part, clsX_of cx10 cr10 cb10, PySem.W.mg_of X G ca10, fun_mk (st := s_Missing_init) l19 c19 k19, ci10, ct_10, cn10_value, clsX_of cx11 cr11 cb11, PySem.W.mg_of X G ca11, fun_mk (st := s_NoFile_init) l20 c20 k20, ci11, ct_11, cn11_value, clsX_of cx12 cr12 cb12, PySem.W.mg_of X G ca12, fun_mk (st := s_NoView_init) l21 c21 k21, ci12, ct_12, cn12_value, clsX_of cx13 cr13 cb13, PySem.W.mg_of X G ca13, fun_mk (st := s_Twice_init) l22 c22 k22, ci13, ct_13, cn13_value, clsX_of cx14 cr14 cb14, PySem.W.mg_of X G ca14, fun_mk (st := s_TooMany_init) l23 c23 k23, ci14, ct_14, cn14_what, cn14_most, clsX_of cx15 cr15 cb15, PySem.W.mg_of X G ca15, fun_mk (st := s_Impossible_init) l24 c24 k24, ci15, ct_15, cn15_paper, clsX_of cx16 cr16 cb16, PySem.W.mg_of X G ca16, fun_mk (st := s_BadText_init) l25 c25 k25, ci16, ct_16, cn16_item, clsX_of cx17 cr17 cb17, PySem.W.mg_of X G ca17, ck17, cq17, mat_ok x_isi, blt_ok x_isv, no_ok x_isn, x_ex1, x_ex2, x_ex3, x_ex4, x_ex5⟩
  exact ⟨PySem.W.fnOf "law" "law" (defArgs s_law) (defBody s_law) (defScope s_law) .none kV9 dc9 pm9 an9 cd9 ct9, fun s v => .of_eq rfl, fun base _ _ sb => ok_law sb T⟩
end Mine
open PySem PySem.W PyProof.Rows
set_option maxRecDepth 100000 in
set_option maxHeartbeats 0 in
theorem PySem.Challenge.cw_priceblind_k00_errors_of_the_store_holds : PySem.Challenge.rw_priceblind_k00_errors_of_the_store.Holds := by
  w_on; o_law; k_head; (case hw => w_witness2)
  k_fill
  refine GL.walkG (l := PySem.Challenge.rw_priceblind_k00_errors_of_the_store) (n := 63) (k := 4) (x := Mine.P_law.head!) (cx := L2.CX0) (sp := fun K => Mine.spLaw K) (by first | rfl | decide +kernel) rfl (by decide) rfl ⟨rfl, by decide, by decide⟩ (fun w h Y => PySem.W.kIn_of Y) ?F (fun K H a ns hl _ hS => Mine.law_pre hl hS) (fun _ _ _ _ z => z)
  case F =>
    intro w mg fa h KX G hmg
    refine' Mine.all_mk KX G hmg ?a0 ?l0 ?c0 ?k0 ?a1 ?l1 ?c1 ?k1 ?a2 ?l2 ?c2 ?k2 ?a3 ?l3 ?c3 ?k3 ?a4 ?l4 ?c4 ?k4 ?a5 ?l5 ?c5 ?k5 ?a6 ?l6 ?c6 ?k6 ?a7 ?l7 ?c7 ?k7 ?a8 ?l8 ?c8 ?k8 ?a9 ?l9 ?c9 ?k9 ?z0 ?z1 ?z2 ?z3 ?z4 ?z5 ?z6 ?z7 ?z8 ?z9 ?z10 ?z11 ?z12 ?z13 ?z14 ?ca0 ?cx0 ?cr0 ?cb0 ?ck0 ?cq0 ?ca1 ?cx1 ?cr1 ?cb1 ?ci1 ?ct_1 ?l10 ?c10 ?k10 ?cn1_part ?ca2 ?cx2 ?cr2 ?cb2 ?ci2 ?ct_2 ?l11 ?c11 ?k11 ?cn2_part ?ca3 ?cx3 ?cr3 ?cb3 ?ci3 ?ct_3 ?l12 ?c12 ?k12 ?cn3_part ?ca4 ?cx4 ?cr4 ?cb4 ?ci4 ?ct_4 ?l13 ?c13 ?k13 ?cn4_part ?ca5 ?cx5 ?cr5 ?cb5 ?ci5 ?ct_5 ?l14 ?c14 ?k14 ?cn5_part ?ca6 ?cx6 ?cr6 ?cb6 ?ci6 ?ct_6 ?l15 ?c15 ?k15 ?cn6_part ?ca7 ?cx7 ?cr7 ?cb7 ?ci7 ?ct_7 ?l16 ?c16 ?k16 ?cn7_part ?ca8 ?cx8 ?cr8 ?cb8 ?ci8 ?ct_8 ?l17 ?c17 ?k17 ?cn8_part ?ca9 ?cx9 ?cr9 ?cb9 ?ci9 ?ct_9 ?l18 ?c18 ?k18 ?cn9_part ?ca10 ?cx10 ?cr10 ?cb10 ?ci10 ?ct_10 ?l19 ?c19 ?k19 ?cn10_value ?ca11 ?cx11 ?cr11 ?cb11 ?ci11 ?ct_11 ?l20 ?c20 ?k20 ?cn11_value ?ca12 ?cx12 ?cr12 ?cb12 ?ci12 ?ct_12 ?l21 ?c21 ?k21 ?cn12_value ?ca13 ?cx13 ?cr13 ?cb13 ?ci13 ?ct_13 ?l22 ?c22 ?k22 ?cn13_value ?ca14 ?cx14 ?cr14 ?cb14 ?ci14 ?ct_14 ?l23 ?c23 ?k23 ?cn14_what ?cn14_most ?ca15 ?cx15 ?cr15 ?cb15 ?ci15 ?ct_15 ?l24 ?c24 ?k24 ?cn15_paper ?ca16 ?cx16 ?cr16 ?cb16 ?ci16 ?ct_16 ?l25 ?c25 ?k25 ?cn16_item ?ca17 ?cx17 ?cr17 ?cb17 ?ck17 ?cq17 ?x_isi ?x_isv ?x_isn ?x_ex1 ?x_ex2 ?x_ex3 ?x_ex4 ?x_ex5
    (case a0 => k_is)
    (case l0 => k_is)
    (case c0 => k_is)
    (case k0 => k_is)
    (case a1 => k_is)
    (case l1 => k_is)
    (case c1 => k_is)
    (case k1 => k_is)
    (case a2 => k_is)
    (case l2 => k_is)
    (case c2 => k_is)
    (case k2 => k_is)
    (case a3 => k_is)
    (case l3 => k_is)
    (case c3 => k_is)
    (case k3 => k_is)
    (case a4 => k_is)
    (case l4 => k_is)
    (case c4 => k_is)
    (case k4 => k_is)
    (case a5 => k_is)
    (case l5 => k_is)
    (case c5 => k_is)
    (case k5 => k_is)
    (case a6 => k_is)
    (case l6 => k_is)
    (case c6 => k_is)
    (case k6 => k_is)
    (case a7 => k_is)
    (case l7 => k_is)
    (case c7 => k_is)
    (case k7 => k_is)
    (case a8 => k_is)
    (case l8 => k_is)
    (case c8 => k_is)
    (case k8 => k_is)
    (case a9 => k_is)
    (case l9 => k_is)
    (case c9 => k_is)
    (case k9 => k_is)
    (case z0 => k_is)
    (case z1 => k_is)
    (case z2 => k_is)
    (case z3 => k_is)
    (case z4 => k_is)
    (case z5 => k_is)
    (case z6 => k_is)
    (case z7 => k_is)
    (case z8 => k_is)
    (case z9 => k_is)
    (case z10 => k_is)
    (case z11 => k_is)
    (case z12 => k_is)
    (case z13 => k_is)
    (case z14 => k_is)
    (case ca0 => k_is)
    (case cx0 => k_is)
    (case cr0 => first | rfl | decide | k_is)
    (case cb0 => kernel_rfl)
    (case ck0 => k_is)
    (case cq0 => k_exc)
    (case ca1 => k_is)
    (case cx1 => k_is)
    (case cr1 => first | rfl | decide | k_is)
    (case cb1 => kernel_rfl)
    (case ci1 => k_is)
    (case ct_1 => k_is)
    (case l10 => k_is)
    (case c10 => k_is)
    (case k10 => k_is)
    (case cn1_part => k_is)
    (case ca2 => k_is)
    (case cx2 => k_is)
    (case cr2 => first | rfl | decide | k_is)
    (case cb2 => kernel_rfl)
    (case ci2 => k_is)
    (case ct_2 => k_is)
    (case l11 => k_is)
    (case c11 => k_is)
    (case k11 => k_is)
    (case cn2_part => k_is)
    (case ca3 => k_is)
    (case cx3 => k_is)
    (case cr3 => first | rfl | decide | k_is)
    (case cb3 => kernel_rfl)
    (case ci3 => k_is)
    (case ct_3 => k_is)
    (case l12 => k_is)
    (case c12 => k_is)
    (case k12 => k_is)
    (case cn3_part => k_is)
    (case ca4 => k_is)
    (case cx4 => k_is)
    (case cr4 => first | rfl | decide | k_is)
    (case cb4 => kernel_rfl)
    (case ci4 => k_is)
    (case ct_4 => k_is)
    (case l13 => k_is)
    (case c13 => k_is)
    (case k13 => k_is)
    (case cn4_part => k_is)
    (case ca5 => k_is)
    (case cx5 => k_is)
    (case cr5 => first | rfl | decide | k_is)
    (case cb5 => kernel_rfl)
    (case ci5 => k_is)
    (case ct_5 => k_is)
    (case l14 => k_is)
    (case c14 => k_is)
    (case k14 => k_is)
    (case cn5_part => k_is)
    (case ca6 => k_is)
    (case cx6 => k_is)
    (case cr6 => first | rfl | decide | k_is)
    (case cb6 => kernel_rfl)
    (case ci6 => k_is)
    (case ct_6 => k_is)
    (case l15 => k_is)
    (case c15 => k_is)
    (case k15 => k_is)
    (case cn6_part => k_is)
    (case ca7 => k_is)
    (case cx7 => k_is)
    (case cr7 => first | rfl | decide | k_is)
    (case cb7 => kernel_rfl)
    (case ci7 => k_is)
    (case ct_7 => k_is)
    (case l16 => k_is)
    (case c16 => k_is)
    (case k16 => k_is)
    (case cn7_part => k_is)
    (case ca8 => k_is)
    (case cx8 => k_is)
    (case cr8 => first | rfl | decide | k_is)
    (case cb8 => kernel_rfl)
    (case ci8 => k_is)
    (case ct_8 => k_is)
    (case l17 => k_is)
    (case c17 => k_is)
    (case k17 => k_is)
    (case cn8_part => k_is)
    (case ca9 => k_is)
    (case cx9 => k_is)
    (case cr9 => first | rfl | decide | k_is)
    (case cb9 => kernel_rfl)
    (case ci9 => k_is)
    (case ct_9 => k_is)
    (case l18 => k_is)
    (case c18 => k_is)
    (case k18 => k_is)
    (case cn9_part => k_is)
    (case ca10 => k_is)
    (case cx10 => k_is)
    (case cr10 => first | rfl | decide | k_is)
    (case cb10 => kernel_rfl)
    (case ci10 => k_is)
    (case ct_10 => k_is)
    (case l19 => k_is)
    (case c19 => k_is)
    (case k19 => k_is)
    (case cn10_value => k_is)
    (case ca11 => k_is)
    (case cx11 => k_is)
    (case cr11 => first | rfl | decide | k_is)
    (case cb11 => kernel_rfl)
    (case ci11 => k_is)
    (case ct_11 => k_is)
    (case l20 => k_is)
    (case c20 => k_is)
    (case k20 => k_is)
    (case cn11_value => k_is)
    (case ca12 => k_is)
    (case cx12 => k_is)
    (case cr12 => first | rfl | decide | k_is)
    (case cb12 => kernel_rfl)
    (case ci12 => k_is)
    (case ct_12 => k_is)
    (case l21 => k_is)
    (case c21 => k_is)
    (case k21 => k_is)
    (case cn12_value => k_is)
    (case ca13 => k_is)
    (case cx13 => k_is)
    (case cr13 => first | rfl | decide | k_is)
    (case cb13 => kernel_rfl)
    (case ci13 => k_is)
    (case ct_13 => k_is)
    (case l22 => k_is)
    (case c22 => k_is)
    (case k22 => k_is)
    (case cn13_value => k_is)
    (case ca14 => k_is)
    (case cx14 => k_is)
    (case cr14 => first | rfl | decide | k_is)
    (case cb14 => kernel_rfl)
    (case ci14 => k_is)
    (case ct_14 => k_is)
    (case l23 => k_is)
    (case c23 => k_is)
    (case k23 => k_is)
    (case cn14_what => k_is)
    (case cn14_most => k_is)
    (case ca15 => k_is)
    (case cx15 => k_is)
    (case cr15 => first | rfl | decide | k_is)
    (case cb15 => kernel_rfl)
    (case ci15 => k_is)
    (case ct_15 => k_is)
    (case l24 => k_is)
    (case c24 => k_is)
    (case k24 => k_is)
    (case cn15_paper => k_is)
    (case ca16 => k_is)
    (case cx16 => k_is)
    (case cr16 => first | rfl | decide | k_is)
    (case cb16 => kernel_rfl)
    (case ci16 => k_is)
    (case ct_16 => k_is)
    (case l25 => k_is)
    (case c25 => k_is)
    (case k25 => k_is)
    (case cn16_item => k_is)
    (case ca17 => k_is)
    (case cx17 => k_is)
    (case cr17 => first | rfl | decide | k_is)
    (case cb17 => kernel_rfl)
    (case ck17 => k_is)
    (case cq17 => k_exc)
    (case x_isi => kernel_rfl)
    (case x_isv => kernel_rfl)
    (case x_isn => kernel_rfl)
    (case x_ex1 => kernel_rfl)
    (case x_ex2 => kernel_rfl)
    (case x_ex3 => kernel_rfl)
    (case x_ex4 => kernel_rfl)
    (case x_ex5 => kernel_rfl)
