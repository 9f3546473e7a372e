import PyProof.Rows.All
import Wide.All
import OpenK.AllK
import Wide.FinOn
import HandS.ForMost
import HandS.IsInst
import HandS.Style
import HandS.Flow
import HandS.Evl
import HandS.Walk
import HandS.Conv
import HandS.SortInts
import HandS.ExcInit
import HandS.ExcIs
import HandS.ExcField
import HandS.TryMany
import KE.KExcIs
import HandS.ExcValue
import HandS.HotCalls
import KE.KDictZip
import HandS.Lambda
import HandS.EndTab
import KE.KDflt
import PyProof.ListStr
import HandS.Replace
import HandS.Wide
import HandS.WordsExc
import HandS.More
import PySem.Challenge.RW_priceblind_k28_names_as_numbers
set_option Elab.async false
set_option linter.all false
set_option maxRecDepth 100000
set_option maxHeartbeats 4000000
/-! Our own layer over HandS: defs that are called where no repr is under way (guards known), repr of data, keyword calls. -/
namespace GL
open PySem PySem.Spec PyProof.Rows L2

structure FnG (pg : Program) (w : World) (K : PySem.W.Frag) (mg : Str → Option Value) (bs : Heap) (cx : CXT)
    (k : Nat) (f : Addr) (fd : FuncData) (ps : List Str) (sp : Sp) : Prop where
  len : ∀ vs H Q E, sp vs H Q E → vs.length = ps.length
  run : ∀ (A : Around) (out : List Env) (s : Shared) (H : Hp) (ar : Args) (us : List Value) (vs : List V) (Q : VK) (E : XK),
    A.guards = some [] → Room k A → Env0 pg w K mg bs A out s H → BindsTo s fd ar (ps.zip us) → Vals vs us → sp vs H Q E →
    codeAny (model pg w) A (.call (.ref f) ar) (CR cx out pg w H s Q E) s

theorem FnG.more {pg : Program} {w : World} {K : PySem.W.Frag} {mg : Str → Option Value} {bs : Heap} {cx : CXT} {j k : Nat} {f : Addr}
    {fd : FuncData} {ps : List Str} {sp : Sp} (F : FnG pg w K mg bs cx j f fd ps sp) (h : j ≤ k) : FnG pg w K mg bs cx k f fd ps sp :=
  ⟨F.len, fun A out s H ar us vs Q E hg rm => F.run A out s H ar us vs Q E hg (rm.mono h)⟩

theorem FnG.weak {pg : Program} {w : World} {K : PySem.W.Frag} {mg : Str → Option Value} {bs : Heap} {cx : CXT} {k : Nat} {f : Addr}
    {fd : FuncData} {ps : List Str} {sp sp' : Sp} (F : FnG pg w K mg bs cx k f fd ps sp) (h : ∀ vs H Q E, sp' vs H Q E → sp vs H Q E) :
    FnG pg w K mg bs cx k f fd ps sp' :=
  ⟨fun vs H Q E q => F.len vs H Q E (h _ _ _ _ q), fun A out s H ar us vs Q E hg rm e0 hb hv hs => F.run A out s H ar us vs Q E hg rm e0 hb hv (h _ _ _ _ hs)⟩

section
variable {pg : Program} {w : World} {K : PySem.W.Frag} {mg : Str → Option Value} {bs : Heap}

/-- a body's end is the call's end -/
theorem to_end {cx : CXT} {N : List Str} {q : Str} {sc : Scope} {f : Addr} {cd : Value} {A : Around} {out : List Env} {s s' : Shared} {H : Hp} {Q : VK} {E : XK}
    {τ : L2.St} {G : Hp} {v : V} {u : Value} (J : Inv (cxOf cx pg w K mg bs N q sc f cd A out s H E) [] τ G s') (rv : RelV v u) (z : Q v G) : CE out pg w H s Q u s' :=
  ⟨v, G, J.os, J.bare, J.base, J.hok, rv, z⟩

/-- a def by its body, the guards known -/
theorem Fun.okG {cx : CXT} {x q : Str} {st : Stmt} {f : Addr} {fd : FuncData} {N ps : List Str} {k : Nat} {sp : Sp} (F : Fun K x q st f fd)
    (S : FnScope N ps (defScope st)) (len : ∀ vs H Q E, sp vs H Q E → vs.length = ps.length)
    (hb : ∀ (cd : Value) (A : Around) (out : List Env) (s : Shared) (H : Hp) (vs : List V) (Q : VK) (E : XK), A.guards = some [] →
      Room k (A.deeper (envOfC q (defScope st) s.heap.objs.size f cd)) → sp vs H Q E →
      ∃ t, PSs (cxOf cx pg w K mg bs N q (defScope st) f cd A out s H E) (defBody st) t ∧ t { nx := fun _ H' => Q .non H', rt := Q } (start N vs) H) :
    FnG pg w K mg bs cx (k + 1) f fd ps sp := by
  obtain ⟨oc, od, kV, doc, pm, an, cd, ct, osl, rfl, lk, hcd⟩ := F.ex
  refine ⟨len, fun A out s H ar us vs Q E hg rm ev hbi rv hsp => ?_⟩
  have hle := len _ _ _ _ hsp
  have keepB : ∀ b o, bs.get? b = some o → s.heap.get? b = some o := fun b o z => (ev.bs b o z).1
  have KX : K.In s.heap := ev.mod.kin.keeps keepB
  have lim : s.heap.NoLimit := ev.mod.nolimit.keeps keepB
  have kinds : ∀ y ∈ ps.zip us, (defScope st).names.lookup y.1 = some .local ∨
      ((defScope st).names.lookup y.1 = some .cell ∧ ((cellsFrom (s.heap.objs.size + 1) (defScope st).names []).lookup y.1).isSome = true) := by
    rintro ⟨n, v⟩ hy
    rcases S.par n (List.of_mem_zip hy).1 with z | z
    · exact .inl z
    · exact .inr ⟨z, PySem.W.cellsFrom_some _ _ _ (.inl z)⟩
  have room := rm.depth
  refine codeAny_call_function room (KX _ _ lk) rfl S.co S.gen rfl (PySem.W.codeRec_of KX hcd) (hbi _ _ _ _ ?_)
  refine wpAny_newFunctionEnv_cells S.kind kinds fun env he s1 ic => ?_
  subst he
  refine ⟨lim.keeps ic.toInCall.keep, codeAny_func ?_⟩
  obtain ⟨t, ht, hq⟩ := hb cd A out s H vs Q E hg (rm.deeper _) hsp
  have J := inv_start (CX := cx) (E := E) S rm.hd ev hle rv ic
  refine wpAny_mono (ht.run [] s1 (start N vs) H _ J hq) (fun fl s' hs => ?_) fun e s' hs => hs
  cases fl with
  | ret u => exact (let ⟨_, _, _, J', rv', z⟩ := hs; to_end J' rv' z)
  | next => exact (let ⟨_, _, J', z⟩ := hs; to_end (v := V.non) (u := Value.none) J' rfl z)
  | brk => exact (let ⟨_, _, _, z⟩ := hs; False.elim z)
  | cont => exact (let ⟨_, _, _, z⟩ := hs; False.elim z)

/-- a promise at the call itself, over a state where the guards are known -/
theorem FnG.goes {X : Cx} {cx : CXT} {k : Nat} {f : Addr} {fd : FuncData} {ps : List Str} {sp : Sp} {E : XK} {pins : List (Addr × Obj)} {σ : L2.St} {H : Hp}
    {s : Shared} {Q : VK} {ar : Args} {us : List Value} {vs : List V} (F : FnG X.prog X.w X.K X.mg X.base cx k f fd ps sp) (gd : X.A.guards = some [])
    (rm : Room k X.A) (hb : BindsTo s fd ar (ps.zip us)) (hx : Passes cx X E) (I : Inv X pins σ H s) (r : Vals vs us) (h : sp vs H Q E) :
    codeAny (model X.prog X.w) X.A (.call (.ref f) ar) (wants (EP X pins σ Q) X.xe) s := by
  refine codeAny_mono (F.run X.A X.stack s H ar us vs Q E gd rm I.env0 hb r h) fun res s' hq => ?_
  cases res with
  | error e => exact hx pins σ H s e s' I hq
  | ok fl =>
    cases fl with
    | ret u => exact I.after hq
    | next => exact hq.elim
    | brk => exact hq.elim
    | cont => exact hq.elim
end
end GL
namespace GL
open PySem PySem.Spec PyProof.Rows L2
section
variable {X : Cx} {cx : CXT} {k : Nat} {f : Addr} {fd : FuncData} {ps ks : List Str} {sp : Sp} {dvs : List V} {ds : List Value} {E : XK}
  {x : Str} {p pos : Pos} {e : Expr} {es : List Expr} {kws : List Keyword} {t tk : TA}

/-- the callee, given its values -/
theorem FnG.call_vals {pins : List (Addr × Obj)} {σ : L2.St} {H : Hp} {s : Shared} {Q : VK} {us : List Value} {vs : List V}
    (F : FnG X.prog X.w X.K X.mg X.base cx k f fd ps sp) (gd : X.A.guards = some []) (rm : Room k X.A) (hb : Binds X.K fd ps ds) (hd : Vals dvs ds)
    (hx : Passes cx X E) (I : Inv X pins σ H s) (r : Vals vs us) (h : sp (vs ++ dvs) H Q E) :
    wpAny (model X.prog X.w) X.A (call (.ref f) us) (EP X pins σ Q) X.xe s := by
  have r2 := r.append hd
  have hl : (us ++ ds).length = ps.length := r2.length.symm.trans (F.len _ _ _ _ h)
  exact wpAny_call (F.goes gd rm (hb s us I.kIn hl) hx I r2 h)

/-- f(e, ..) -/
theorem pg_call (F : FnG X.prog X.w X.K X.mg X.base cx k f fd ps sp) (gd : X.A.guards = some []) (rm : Room k X.A) (hg : Gl X x)
    (hm : X.mg x = some (.ref f)) (kp : PySem.W.keepIn X.K (.ref f) = true) (hb : Binds X.K fd ps ds) (hd : Vals dvs ds) (hx : Passes cx X E) (ha : PA X (e :: es) t)
    (hdb : (x == ("__debug__" : Str)) = false := by decide) (hst : starEach (e :: es) X.env = (false, eval e X.env) :: starEach es X.env := by rfl)
    (hpl : (backTo pos (starEach es X.env)).any (·.1) = false := by rfl) : PE X (.Call (.Name x p) (e :: es) [] pos) (tCall sp dvs E t) := by
  refine ⟨fun pins s σ H Q I h => wpAny_Call_Name_kw (ld_glob I hg hm ?_ hdb)⟩
  refine PySem.W.callWith_K (h₀ := X.base) I.ok.mod.kin kp (thn (ha.run pos pins s σ H _ I h) ?_) hst hpl
  rintro us s1 ⟨vs, H1, I1, r, q⟩
  exact ⟨I1.kIn, F.call_vals gd rm hb hd hx I1 r q⟩

/-- f() -/
theorem pg_call0 (F : FnG X.prog X.w X.K X.mg X.base cx k f fd ps sp) (gd : X.A.guards = some []) (rm : Room k X.A) (hg : Gl X x)
    (hm : X.mg x = some (.ref f)) (kp : PySem.W.keepIn X.K (.ref f) = true) (hb : Binds X.K fd ps ds) (hd : Vals dvs ds) (hx : Passes cx X E)
    (hdb : (x == ("__debug__" : Str)) = false := by decide) : PE X (.Call (.Name x p) [] [] pos) (tCall sp dvs E tNil) :=
  ⟨fun pins s σ H Q I h => wpAny_Call_Name_kw (ld_glob I hg hm (PySem.W.callWith_K0 I.kIn kp (F.call_vals (us := []) gd rm hb hd hx I .nil h)) hdb)⟩

/-- how n values by place and the keywords ks bind -/
structure KwB (K : PySem.W.Frag) (fd : FuncData) (ps : List Str) (n : Nat) (ks : List Str) (g : {α : Type} → List α → List α → List α) : Prop where
  to : ∀ (s : Shared) (us ws : List Value), us.length = n → ws.length = ks.length → BindsTo s fd ⟨us, ks.zip ws⟩ (ps.zip (g us ws))
  rel : ∀ {vs : List V} {us : List Value} {zs : List V} {ws : List Value}, vs.length = n → zs.length = ks.length → Vals vs us → Vals zs ws → Vals (g vs zs) (g us ws)
variable {n : Nat} {g : {α : Type} → List α → List α → List α}
def tKw (n m : Nat) (sp : Sp) (g : {α : Type} → List α → List α → List α) (E : XK) (t tk : TA) : TE := fun σ H Q => t σ H fun vs H1 => tk σ H1 fun zs H2 =>
  vs.length = n ∧ zs.length = m ∧ sp (g vs zs) H2 Q E

theorem FnG.call_kw {pins : List (Addr × Obj)} {σ : L2.St} {H : Hp} {s : Shared} {Q : VK} {us ws : List Value} {vs zs : List V}
    (F : FnG X.prog X.w X.K X.mg X.base cx k f fd ps sp) (gd : X.A.guards = some []) (rm : Room k X.A) (hb : KwB X.K fd ps n ks g) (hx : Passes cx X E)
    (I : Inv X pins σ H s) (r : Vals vs us) (rz : Vals zs ws) (l1 : vs.length = n) (l2 : zs.length = ks.length) (h : sp (g vs zs) H Q E) :
    wpAny (model X.prog X.w) X.A (call (.ref f) us (ks.zip ws)) (EP X pins σ Q) X.xe s :=
  wpAny_call (F.goes gd rm (hb.to s us ws (r.length.symm.trans l1) (rz.length.symm.trans l2)) hx I (hb.rel l1 l2 r rz) h)

/-- f(e, .., k = v, ..) -/
theorem pg_callK (F : FnG X.prog X.w X.K X.mg X.base cx k f fd ps sp) (gd : X.A.guards = some []) (rm : Room k X.A) (hg : Gl X x)
    (hm : X.mg x = some (.ref f)) (kp : PySem.W.keepIn X.K (.ref f) = true) (hb : KwB X.K fd ps n ks g) (hx : Passes cx X E) (ha : PA X (e :: es) t) (hk : PK X kws tk)
    (hall : (backToKw pos (keywordEach kws X.env)).all (·.1.isSome) = true := by rfl) (hks : (backToKw pos (keywordEach kws X.env)).filterMap (·.1) = ks := by rfl)
    (hdb : (x == ("__debug__" : Str)) = false := by decide) (hst : starEach (e :: es) X.env = (false, eval e X.env) :: starEach es X.env := by rfl)
    (hpl : ((backTo pos (starEach (e :: es) X.env)).any (·.1) || (backToKw pos (keywordEach kws X.env)).any (·.1.isNone)) = false := by rfl) :
    PE X (.Call (.Name x p) (e :: es) kws pos) (tKw n ks.length sp g E t tk) := by
  refine ⟨fun pins s σ H Q I h => wpAny_Call_Name_kw (ld_glob I hg hm ?_ hdb)⟩
  refine PySem.W.callWith_KW (h₀ := X.base) I.ok.mod.kin kp hall (thn (ha.run pos pins s σ H _ I h) ?_) hpl hst
  rintro us s1 ⟨vs, H1, I1, r, q⟩
  refine thn (hk.run pos pins s1 σ H1 _ I1 q) ?_
  rintro ws s2 ⟨zs, H2, I2, rz, l1, l2, q2⟩
  rw [hks]
  exact ⟨I2.kIn, F.call_kw gd rm hb hx I2 r rz l1 l2 q2⟩

/-- f(k = v, ..) -/
theorem pg_callK0 (F : FnG X.prog X.w X.K X.mg X.base cx k f fd ps sp) (gd : X.A.guards = some []) (rm : Room k X.A) (hg : Gl X x)
    (hm : X.mg x = some (.ref f)) (kp : PySem.W.keepIn X.K (.ref f) = true) (hb : KwB X.K fd ps 0 ks g) (hx : Passes cx X E) (hk : PK X kws tk)
    (hall : (backToKw pos (keywordEach kws X.env)).all (·.1.isSome) = true := by rfl) (hks : (backToKw pos (keywordEach kws X.env)).filterMap (·.1) = ks := by rfl)
    (hdb : (x == ("__debug__" : Str)) = false := by decide)
    (hpl : ((backTo pos (starEach [] X.env)).any (·.1) || (backToKw pos (keywordEach kws X.env)).any (·.1.isNone)) = false := by rfl) :
    PE X (.Call (.Name x p) [] kws pos) (tKw 0 ks.length sp g E tNil tk) := by
  refine ⟨fun pins s σ H Q I h => wpAny_Call_Name_kw (ld_glob I hg hm ?_ hdb)⟩
  refine PySem.W.callWith_KW0 (h₀ := X.base) I.ok.mod.kin kp hall ?_ hpl
  refine thn (hk.run pos pins s σ H _ I h) ?_
  rintro ws s2 ⟨zs, H2, I2, rz, l1, l2, q2⟩
  rw [hks]
  exact ⟨I2.kIn, F.call_kw (us := []) gd rm hb hx I2 .nil rz l1 l2 q2⟩

/-! ### repr of data -/
/-- repr(x), x data -/
def rRepr (K : PySem.W.Frag) : List V → Hp → VK → Prop := fun xs H Q => ∃ (v : V) (d : PyData), xs = [v] ∧ Dp K H v d ∧ d.showable = true ∧ d.hasDict = false ∧ d.depth ≤ 60 ∧ d.shown.length ≤ sizeLine ∧ Q (.str d.shown) H

theorem call_repr (gd : X.A.guards = some []) {j : Nat} (rm : Room j X.A) : CallR X (.builtin "repr") (rRepr X.K) := by
  intro pins s σ H xs us Q I r h
  obtain ⟨v, d, rfl, hd, hs, hn, hz, hl, q⟩ := h
  cases r with
  | cons rv rn =>
    rename_i u us
    cases rn
    have hu := rm.units
    obtain ⟨as, rd⟩ := Dp.reads I d v u hd rv
    have fin : ∀ (h' : Heap) (u' tk : Tok), (∀ b o, s.heap.get? b = some o → h'.get? b = some o) → EP X pins σ Q (.str d.shown u') { s with heap := h', toks := tk } :=
      fun h' u' tk kk => ⟨.str d.shown, H, I.kept (t' := tk) kk, ⟨u', rfl⟩, q⟩
    cases hd with
    | non => cases rv; exact P.repr_of_none (fin s.heap _ _ fun _ _ z => z)
    | bl b => cases rv; exact P.repr_of_bool (fin s.heap _ _ fun _ _ z => z)
    | int i => obtain ⟨t, rfl⟩ := rv; exact P.repr_of_int (by simpa [PyData.showable] using hs) (fin s.heap _ _ fun _ _ z => z)
    | str y => obtain ⟨t, rfl⟩ := rv; exact P.repr_of_str (fin s.heap _ _ fun _ _ z => z) hl
    | lst h1 h2 =>
      cases rv
      exact repr_of_reads' rd hs (fun z => by rw [hn] at z; cases z) gd (by omega) (fun _ _ z => z) fin hl
    | tup h1 h2 =>
      cases rv
      exact repr_of_reads' rd hs (fun z => by rw [hn] at z; cases z) gd (by omega) (fun _ _ z => z) fin hl
end

/-! ### the law's end -/
def SmB (h : Heap) : Prop := ∃ o, h.get? sysModules = some o
section
theorem law_in {pg : Program} {w : World} {K : PySem.W.Frag} {mg mb : Str → Option Value} {cx : CXT} {k : Nat} {fa a : Addr} {fd : FuncData} {x : Str} {sp : Sp} {s : Shared}
    {vs : List Value} {H : Hp} (KX : K.In s.heap) (hns : s.heap.Ns mainGlobals mg) (hb : s.heap.Ns builtinsNs mb)
    (hbb : ∀ y : Str, y ≠ "__name__" → mb y = bootBuiltins y) (lim : s.heap.NoLimit) (hg : s.gens = #[])
    (ha : s.heap.get? a = some { cls := .type "list", data := .seq vs.toArray }) (rm : Room k callerA)
    (sm : ∃ o es ep, s.heap.get? sysModules = some o ∧ o.data = .dict es ep) (F : ∀ bs : Heap, K.In bs → bs.Ns mainGlobals mg → SmB bs → FnG pg w K mg bs cx k fa fd [x] sp) (hbi : ∀ (s : Shared) (u : Value), BindsTo s fd ⟨[u], []⟩ [(x, u)])
    (hO : Only H) (hok : HOk pg w H s.heap) (only : ∀ b, H b ≠ none → b = a) (hK : H a ≠ none → K.lookup a = none)
    (hsp : sp [.ref a] H (fun v _ => v = .bl true) fun _ _ _ => False) (hcx : ∀ H e s', cx [] H s (fun _ _ _ => False) e s' → False) :
    codeAny (model pg w) callerA (.call (.ref fa) ⟨[.ref a], []⟩)
      (fun r s' => r = .ok (.ret (.bool true)) ∧ OldK s.heap s'.heap ∧ s'.os = s.os ∧ AllBare s'.gens) s := by
  have at_a : ∀ {b : Addr}, H b ≠ none → b = a := fun {b} => only b
  have noDict : ∀ {b : Addr} {o : Obj} {es : Array DictEntry} {ep : Nat}, s.heap.get? b = some o → o.data = .dict es ep → H b = none := by
    intro b o es ep e d
    by_cases z : H b = none
    · exact z
    · cases at_a z
      rw [ha] at e
      cases e
      cases d
  have ns_of : ∀ {b : Addr} {m : Str → Option Value}, s.heap.Ns b m → (hidT s.heap H).Ns b m := fun ⟨o, es, ep, e, d, r⟩ => ⟨o, es, ep, hidT_get e (noDict e d), d, r⟩
  have KB : K.In (hidT s.heap H) := fun b o e => hidT_get (KX b o e) (by
    by_cases z : H b = none
    · exact z
    · cases at_a z
      rw [hK z] at e
      cases e)
  have md : Mod K mg (hidT s.heap H) := ⟨KB, ns_of hns, ⟨mb, ns_of hb, hbb⟩, lim.imp fun _ z => ⟨ns_of z.1, z.2⟩⟩
  have ev : Env0 pg w K mg (hidT s.heap H) callerA [] s H :=
    ⟨rfl, md, fun _ _ e => of_hidT e, Nat.le_of_eq (hidT_size _ _), trivial, (fun b z => absurd (show b ∈ ([] : List Addr) from z) (by simp)), hok, .of_eq hg⟩
  refine codeAny_mono ((F _ KB (ns_of hns) (let ⟨o, es, ep, e1, e2⟩ := sm; ⟨o, hidT_get e1 (noDict e1 e2)⟩)).run callerA [] s H ⟨[.ref a], []⟩ [.ref a] [.ref a] _ _ rfl rm ev (hbi s (.ref a)) (.cons rfl .nil) hsp) ?_
  rintro (e | fl) s' z
  · exact (hcx H e s' z).elim
  · cases fl with
    | ret u =>
      obtain ⟨v, H', os, bare, un, hok', ru, rfl⟩ := z
      cases ru
      refine ⟨rfl, OldK.of_keep fun b o e => ?_, os, bare⟩
      rcases hO b with q | ⟨ob, xs, q⟩
      · exact un.keep b o e q (by intro y; cases y) (by intro y; cases y)
      · have e1 := (hok b _ q).1
        have e2 := (hok' b _ (un.frzs b ob _ q)).1
        exact e2.trans (e1.symm.trans e)
    | next => exact z.elim
    | brk => exact z.elim
    | cont => exact z.elim

theorem walkG {l : PySem.W.OpenLaw} {n k : Nat} {q : Program} {loose : List Str} {XP : (Str → Option Value) → Heap → Prop} {YP : World → Heap → Prop} {d : DefRec}
    {K : Params → PySem.W.Frag} {cx : CXT} {sp : PySem.W.Frag → Sp} {x : Str} (hi : importsNone q = true) (hn : l.most = some n) (hn2 : n ≤ sizeLine) (hdf : d.params.defaults = []) (rm : Room k callerA)
    (hY : ∀ (w : World) (h : Heap), YP w h → (K w.params).In h)
    (F : ∀ (w : World) (mg : Str → Option Value) (fa : Addr) (h : Heap), (K w.params).In h → h.Ns mainGlobals mg → mg d.name = some (.ref fa) →
      ∃ fd : FuncData, (∀ (s : Shared) (u : Value), BindsTo s fd ⟨[u], []⟩ [(x, u)]) ∧
        ∀ bs : Heap, (K w.params).In bs → bs.Ns mainGlobals mg → SmB bs → FnG l.prog w (K w.params) mg bs cx k fa fd [x] (sp (K w.params)))
    (hsp : ∀ (K : PySem.W.Frag) (H : Hp) (a : Addr) (ns : List Int), ns.length ≤ n → Only H → SqL K H a (ns.map V.int) → sp K [.ref a] H (fun v _ => v = .bl true) fun _ _ _ => False)
    (hcx : ∀ (H : Hp) (s : Shared) (e : Value) (s' : Shared), cx [] H s (fun _ _ _ => False) e s' → False) :
    PySem.W.WalkO q loose XP YP l.row.toRowW d [] (fun f vs => PySem.call f vs) := by
  refine Att.attach_call hn hdf ?_
  intro w _ s mg mb fa o pm cd doc a vs ns G Y ho hd hcd hmg hob hin hle hg
  have KX := hY w _ Y
  have sm : ∃ o es ep, s.heap.get? sysModules = some o ∧ o.data = .dict es ep := by
    obtain ⟨mm, ⟨o, es, ep, e1, e2, _⟩, _⟩ := (G.T.seer hi).mods
    exact ⟨o, es, ep, e1, e2⟩
  obtain ⟨fd, hb, hF⟩ := F w mg fa _ KX G.T.g hmg
  have rv := vals_ints hin
  have lv := hin.length
  cases hk : (K w.params).lookup a with
  | some o' =>
    have e := KX a o' hk
    rw [hob] at e
    cases e
    have O : Only (fun _ => none) := fun _ => .inl rfl
    have S : SqL (K w.params) (fun _ => none) a (ns.map V.int) :=
      .inr ⟨_, vs.toArray, _, hk, rfl, rfl, rfl, by rw [List.size_toArray, lv]; exact Nat.le_trans hle hn2, by simpa using rv⟩
    exact law_in (H := fun _ => none) KX G.T.g G.T.b G.T.builtins G.T.nolimit hg hob rm sm hF hb O (fun b u z => by cases z) (fun b z => absurd rfl z) (fun z => absurd rfl z)
      (hsp _ _ a ns hle O S) fun H e s' => hcx H s e s'
  | none =>
    let H : Hp := fun b => if b = a then some (.frz { cls := .type "list", data := .seq vs.toArray } (.lst (ns.map V.int))) else none
    have Ha : H a = some (.frz { cls := .type "list", data := .seq vs.toArray } (.lst (ns.map V.int))) := if_pos rfl
    have Hn : ∀ b, b ≠ a → H b = none := fun b z => if_neg z
    have O : Only H := fun b => by
      by_cases z : b = a
      · exact .inr ⟨_, _, if_pos z⟩
      · exact .inl (Hn b z)
    have ok : HOk l.prog w H s.heap := fun b u z => by
      by_cases e : b = a
      · subst e
        rw [Ha] at z
        cases z
        exact ⟨hob, by rw [List.length_map]; exact Nat.le_trans hle hn2, vs, _, rv, hob⟩
      · rw [Hn b e] at z
        cases z
    refine law_in (H := H) KX G.T.g G.T.b G.T.builtins G.T.nolimit hg hob rm sm hF hb O ok (fun b z => ?_) (fun _ => hk) (hsp _ _ a ns hle O (.inl (.inr ⟨_, Ha⟩))) fun H e s' => hcx H s e s'
    by_cases e : b = a
    · exact e
    · exact absurd (Hn b e) z
end
end GL
/-! What laws draw: data known to any depth, the rack of a law's draws, isinstance of such data, loops over a list or a tuple. -/
namespace GL
open PySem PySem.Spec PyProof.Rows L2

/-- nothing that was tracked has changed -/
abbrev Ex (H H' : Hp) : Prop := ∀ a o, H a = some o → H' a = some o
/-- nothing that was tracked has changed, but p -/
def Kp (p : Addr) (H H' : Hp) : Prop := ∀ a o, a ≠ p → H a = some o → H' a = some o
theorem Ex.rfl' (H : Hp) : Ex H H := fun _ _ h => h
theorem Ex.tr {H H1 H2 : Hp} (a : Ex H H1) (b : Ex H1 H2) : Ex H H2 := fun x o h => b x o (a x o h)
theorem Ex.nw {H : Hp} {p : Addr} {o : HO} (h : H p = none) : Ex H (upd H p o) := fun a u e => by
  rw [upd_ne (ne_of_none e h)]; exact e
/-- an object that H does not know changes -/
theorem Ex.up {H H' : Hp} {p : Addr} {o : HO} (e : Ex H H') (h : H p = none) : Ex H (upd H' p o) := fun a u ha => by
  rw [upd_ne (ne_of_none ha h)]; exact e a u ha
theorem Ex.no {H H' : Hp} {p : Addr} (e : Ex H H') (h : H' p = none) : H p = none := by
  cases h1 : H p with
  | none => rfl
  | some o => rw [e p o h1] at h; cases h
theorem Ex.kp {p : Addr} {H H' : Hp} (e : Ex H H') : Kp p H H' := fun a o _ h => e a o h
theorem Kp.rfl' {p : Addr} (H : Hp) : Kp p H H := fun _ _ _ h => h
theorem Kp.tr {p : Addr} {H H1 H2 : Hp} (a : Kp p H H1) (b : Kp p H1 H2) : Kp p H H2 := fun x o n h => b x o n (a x o n h)
theorem Kp.ex {p : Addr} {H H1 H2 : Hp} (a : Kp p H H1) (b : Ex H1 H2) : Kp p H H2 := fun x o n h => b x o (a x o n h)
theorem Kp.nw {p q : Addr} {H H' : Hp} {o : HO} (e : Kp p H H') (h : H q = none) : Kp p H (upd H' q o) := fun a u n ha => by
  rw [upd_ne (ne_of_none ha h)]; exact e a u n ha
theorem Kp.up {p : Addr} {H H' : Hp} {o : HO} (e : Kp p H H') : Kp p H (upd H' p o) := fun a u n ha => by
  rw [upd_ne n]; exact e a u n ha

/-- data: known to any depth, none of it at p -/
inductive Kd (p : Addr) (H : Hp) : V → Prop
  | non : Kd p H .non
  | bl (b : Bool) : Kd p H (.bl b)
  | int (i : Int) : Kd p H (.int i)
  | str (z : Str) : Kd p H (.str z)
  | lst {a : Addr} {xs : List V} (n : a ≠ p) (e : H a = some (.lst xs)) (z : xs.length ≤ 100000) (all : ∀ x, x ∈ xs → Kd p H x) : Kd p H (.ref a)
  | tup {a : Addr} {xs : List V} (n : a ≠ p) (e : H a = some (.tup xs)) (z : xs.length ≤ 100000) (all : ∀ x, x ∈ xs → Kd p H x) : Kd p H (.ref a)
  | dK {a : Addr} {kvs : List (Key × V)} (n : a ≠ p) (e : H a = some (.dK kvs)) : Kd p H (.ref a)
theorem Kd.kp {p : Addr} {H H' : Hp} (k : Kp p H H') {v : V} (h : Kd p H v) : Kd p H' v := by
  induction h with
  | non => exact .non
  | bl b => exact .bl b
  | int i => exact .int i
  | str z => exact .str z
  | lst n e z _ ih => exact .lst n (k _ _ n e) z ih
  | tup n e z _ ih => exact .tup n (k _ _ n e) z ih
  | dK n e => exact .dK n (k _ _ n e)
theorem Kd.ex {p : Addr} {H H' : Hp} (k : Ex H H') {v : V} (h : Kd p H v) : Kd p H' v := h.kp (Ex.kp k)

/-- the name of a value's type -/
def tyN (H : Hp) : V → String
  | .non => "NoneType"
  | .bl _ => "bool"
  | .int _ => "int"
  | .str _ => "str"
  | .ref a => match H a with
    | some (.lst _) => "list"
    | some (.tup _) => "tuple"
    | some (.dK _) => "dict"
    | _ => ""
  | _ => ""
theorem tyN_lst {H : Hp} {a : Addr} {xs : List V} (e : H a = some (.lst xs)) : tyN H (.ref a) = "list" := by
  show (match H a with | some (.lst _) => "list" | some (.tup _) => "tuple" | some (.dK _) => "dict" | _ => "") = _
  rw [e]
theorem tyN_tup {H : Hp} {a : Addr} {xs : List V} (e : H a = some (.tup xs)) : tyN H (.ref a) = "tuple" := by
  show (match H a with | some (.lst _) => "list" | some (.tup _) => "tuple" | some (.dK _) => "dict" | _ => "") = _
  rw [e]
theorem tyN_dK {H : Hp} {a : Addr} {kvs : List (Key × V)} (e : H a = some (.dK kvs)) : tyN H (.ref a) = "dict" := by
  show (match H a with | some (.lst _) => "list" | some (.tup _) => "tuple" | some (.dK _) => "dict" | _ => "") = _
  rw [e]
theorem tyN_ex {p : Addr} {H H' : Hp} (k : Kp p H H') {v : V} (h : Kd p H v) : tyN H' v = tyN H v := by
  cases h with
  | non => rfl
  | bl b => rfl
  | int i => rfl
  | str z => rfl
  | lst n e _ _ => rw [tyN_lst e, tyN_lst (k _ _ n e)]
  | tup n e _ _ => rw [tyN_tup e, tyN_tup (k _ _ n e)]
  | dK n e => rw [tyN_dK e, tyN_dK (k _ _ n e)]
/-- the items of a list or a tuple -/
def its (H : Hp) : V → Option (List V)
  | .ref a => match H a with
    | some (.lst xs) => some xs
    | some (.tup xs) => some xs
    | _ => none
  | _ => none
theorem its_lst {H : Hp} {a : Addr} {xs : List V} (e : H a = some (.lst xs)) : its H (.ref a) = some xs := by
  show (match H a with | some (.lst xs) => some xs | some (.tup xs) => some xs | _ => none) = _
  rw [e]
theorem its_tup {H : Hp} {a : Addr} {xs : List V} (e : H a = some (.tup xs)) : its H (.ref a) = some xs := by
  show (match H a with | some (.lst xs) => some xs | some (.tup xs) => some xs | _ => none) = _
  rw [e]
theorem its_dK {H : Hp} {a : Addr} {kvs : List (Key × V)} (e : H a = some (.dK kvs)) : its H (.ref a) = none := by
  show (match H a with | some (.lst xs) => some xs | some (.tup xs) => some xs | _ => none) = _
  rw [e]
theorem its_ex {p : Addr} {H H' : Hp} (k : Kp p H H') {v : V} (h : Kd p H v) : its H' v = its H v := by
  cases h with
  | non => rfl
  | bl b => rfl
  | int i => rfl
  | str z => rfl
  | lst n e _ _ => rw [its_lst e, its_lst (k _ _ n e)]
  | tup n e _ _ => rw [its_tup e, its_tup (k _ _ n e)]
  | dK n e => rw [its_dK e, its_dK (k _ _ n e)]
theorem its_kd {p : Addr} {H : Hp} {v : V} {xs : List V} (h : Kd p H v) (e : its H v = some xs) : ∀ x, x ∈ xs → Kd p H x := by
  cases h with
  | non => cases e
  | bl b => cases e
  | int i => cases e
  | str z => cases e
  | lst n e' _ all => rw [its_lst e'] at e; cases e; exact all
  | tup n e' _ all => rw [its_tup e'] at e; cases e; exact all
  | dK n e' => rw [its_dK e'] at e; cases e

theorem kd_ty {K : PySem.W.Frag} {p : Addr} {H : Hp} {v : V} (h : Kd p H v) : TyX K H v (.type (tyN H v)) := by
  cases h with
  | non => exact .base .non
  | bl b => exact .base (.bl b)
  | int i => exact .base (.int i)
  | str z => exact .base (.str z)
  | lst n e _ _ => rw [tyN_lst e]; exact .base (.lst e)
  | tup n e _ _ => rw [tyN_tup e]; exact .base (.tup e)
  | dK n e => rw [tyN_dK e]; exact .base (.dK e)
def kinds : List String := ["NoneType", "bool", "int", "str", "list", "tuple", "dict"]
theorem kd_kind {p : Addr} {H : Hp} {v : V} (h : Kd p H v) : tyN H v ∈ kinds := by
  cases h with
  | non => show "NoneType" ∈ kinds; decide
  | bl b => show "bool" ∈ kinds; decide
  | int i => show "int" ∈ kinds; decide
  | str z => show "str" ∈ kinds; decide
  | lst n e _ _ => rw [tyN_lst e]; decide
  | tup n e _ _ => rw [tyN_tup e]; decide
  | dK n e => rw [tyN_dK e]; decide
/-- is of the type, by name: bool is below int -/
def isT (t c : String) : Bool := t == c || (t == "bool" && c == "int")
theorem kit_all : ∀ t ∈ kinds, ∀ c ∈ ["int", "bool", "str", "list", "tuple", "dict"], kitB t c = some (isT t c) := by decide +kernel
theorem isi_go {K : PySem.W.Frag} {p : Addr} {H : Hp} {v : V} {c : String} {Q : VK} (h : Kd p H v) (hc : c ∈ ["int", "bool", "str", "list", "tuple", "dict"]) (q : Q (.bl (isT (tyN H v) c)) H) : rIsi K [v, .ty c] H Q :=
  ⟨v, .ty c, _, _, _, rfl, .ty c, kd_ty h, kit_ty (kit_all _ (kd_kind h) c hc), q⟩
/-- isinstance(x, (c, d)) -/
theorem isi_go2 {K : PySem.W.Frag} {p t : Addr} {H : Hp} {v : V} {c d : String} {Q : VK} (h : Kd p H v) (ht : H t = some (.tup [.ty c, .ty d])) (hc : c ∈ ["int", "bool", "str", "list", "tuple", "dict"]) (hd : d ∈ ["int", "bool", "str", "list", "tuple", "dict"])
    (q : Q (.bl (isT (tyN H v) c || isT (tyN H v) d)) H) : rIsiT K [v, .ref t] H Q := by
  refine ⟨v, t, [.ty c, .ty d], _, [.type c, .type d], _, rfl, ht, .cons (.ty c) (.cons (.ty d) .nil), kd_ty h, ?_, q⟩
  refine kitAny_cons (kit_ty (kit_all _ (kd_kind h) c hc)) (fun e => ?_) fun e => by rw [e]; rfl
  rw [e, Bool.false_or]
  refine kitAny_cons (kit_ty (kit_all _ (kd_kind h) d hd)) (fun e2 => ?_) fun e2 => e2
  rw [e2]; exact kitAny_nil

/-- an integer that is no truth -/
def wh : V → Bool
  | .int _ => true
  | _ => false
theorem wh_ty {p : Addr} {H : Hp} {v : V} (h : Kd p H v) : wh v = (isT (tyN H v) "int" && !isT (tyN H v) "bool") := by
  cases h with
  | non => show false = (isT "NoneType" "int" && !isT "NoneType" "bool"); decide
  | bl b => show false = (isT "bool" "int" && !isT "bool" "bool"); decide
  | int i => show true = (isT "int" "int" && !isT "int" "bool"); decide
  | str z => show false = (isT "str" "int" && !isT "str" "bool"); decide
  | lst n e _ _ => rw [tyN_lst e]; show false = (isT "list" "int" && !isT "list" "bool"); decide
  | tup n e _ _ => rw [tyN_tup e]; show false = (isT "tuple" "int" && !isT "tuple" "bool"); decide
  | dK n e => rw [tyN_dK e]; show false = (isT "dict" "int" && !isT "dict" "bool"); decide
theorem wh_int {v : V} (h : wh v = true) : ∃ i, v = .int i := by
  cases v <;> first | (cases h; done) | exact ⟨_, rfl⟩
/-- a list or a tuple, by isinstance -/
theorem seq_ty {p : Addr} {H : Hp} {v : V} (h : Kd p H v) : (isT (tyN H v) "list" || isT (tyN H v) "tuple") = (its H v).isSome := by
  cases h with
  | non => show (isT "NoneType" "list" || isT "NoneType" "tuple") = false; decide
  | bl b => show (isT "bool" "list" || isT "bool" "tuple") = false; decide
  | int i => show (isT "int" "list" || isT "int" "tuple") = false; decide
  | str z => show (isT "str" "list" || isT "str" "tuple") = false; decide
  | lst n e _ _ => rw [tyN_lst e, its_lst e]; show _ = true; decide
  | tup n e _ _ => rw [tyN_tup e, its_tup e]; show _ = true; decide
  | dK n e => rw [tyN_dK e, its_dK e]; show _ = false; decide
theorem its_len {p : Addr} {H : Hp} {v : V} {xs : List V} (h : Kd p H v) (e : its H v = some xs) : xs.length ≤ 100000 := by
  cases h with
  | non => cases e
  | bl b => cases e
  | int i => cases e
  | str z => cases e
  | lst n e' z _ => rw [its_lst e'] at e; cases e; exact z
  | tup n e' z _ => rw [its_tup e'] at e; cases e; exact z
  | dK n e' => rw [its_dK e'] at e; cases e
/-- a list or a tuple, to walk it -/
theorem its_at {p : Addr} {H : Hp} {v : V} {xs : List V} (h : Kd p H v) (e : its H v = some xs) : ∃ a, v = .ref a ∧ a ≠ p ∧ (H a = some (.lst xs) ∨ H a = some (.tup xs)) := by
  cases h with
  | non => cases e
  | bl b => cases e
  | int i => cases e
  | str z => cases e
  | lst n e' _ _ => rw [its_lst e'] at e; cases e; exact ⟨_, rfl, n, .inl e'⟩
  | tup n e' _ _ => rw [its_tup e'] at e; cases e; exact ⟨_, rfl, n, .inr e'⟩
  | dK n e' => rw [its_dK e'] at e; cases e
/-- the readings of isinstance(x, C), isinstance(x, (C, D)), x a name -/
theorem rd_isi {K : PySem.W.Frag} {p : Addr} {σ : L2.St} {i : Nat} {H : Hp} {v : V} {c : String} {Q : VK} (hi : σ[i]? = some (some v)) (h : Kd p H v)
    (hc : c ∈ ["int", "bool", "str", "list", "tuple", "dict"]) (q : Q (.bl (isT (tyN H v) c)) H) : tCB (rIsi K) (tCons (tVar i) (tCons (tC (.ty c)) tNil)) σ H Q :=
  ⟨v, hi, isi_go h hc q⟩
theorem rd_isi2 {K : PySem.W.Frag} {p : Addr} {σ : L2.St} {i : Nat} {H : Hp} {v : V} {c d : String} {Q : VK} (hi : σ[i]? = some (some v)) (h : Kd p H v)
    (hc : c ∈ ["int", "bool", "str", "list", "tuple", "dict"]) (hd : d ∈ ["int", "bool", "str", "list", "tuple", "dict"])
    (q : ∀ H', Ex H H' → Q (.bl (isT (tyN H v) c || isT (tyN H v) d)) H') : tCB (rIsiT K) (tCons (tVar i) (tCons (tTup (tCons (tC (.ty c)) (tCons (tC (.ty d)) tNil))) tNil)) σ H Q := by
  refine ⟨v, hi, (show 2 ≤ sizeLine by decide), fun t ht => ?_⟩
  have e : Ex H (upd H t (.tup [.ty c, .ty d])) := Ex.nw ht
  refine isi_go2 (K := K) (h.ex e) upd_same hc hd ?_
  rw [tyN_ex (Ex.kp e) h]
  exact q _ e
/-! ### walking a list or a tuple -/
def iSeq (K : PySem.W.Frag) (tl tl' : TE) : TI := fun σ H R => iList K tl σ H R ∨ iTup K tl' σ H R
theorem pi_seq {X : Cx} {tg e : Expr} {tl tl' : TE} (h : PE X e tl) (h' : PE X e tl') : PI X tg e (iSeq X.K tl tl') :=
  ⟨fun pins s σ H R I q => q.elim ((pi_list h).run pins s σ H R I) ((pi_tup h').run pins s σ H R I)⟩

/-! ### the rack of a law's draws: [cells, turn, left] -/
structure Rk (H : Hp) (p c : Addr) (n : Nat) : Prop where
  ex : ∃ (ns : List Int) (t l : Int), H p = some (.lst [.ref c, .int t, .int l]) ∧ H c = some (.lst (ns.map V.int)) ∧ c ≠ p ∧ ns.length ≤ 63 ∧ 0 ≤ t ∧ t ≤ n ∧ 0 ≤ l
theorem Rk.kp {H H' : Hp} {p c : Addr} {n : Nat} (r : Rk H p c n) (e : Ex H H') : Rk H' p c n := by
  obtain ⟨ns, t, l, h1, h2, h3⟩ := r.ex
  exact ⟨⟨ns, t, l, e _ _ h1, e _ _ h2, h3⟩⟩
theorem Rk.ne {H : Hp} {p c q : Addr} {n : Nat} (r : Rk H p c n) (h : H q = none) : q ≠ p := by
  obtain ⟨ns, t, l, h1, h2, h3⟩ := r.ex
  intro e; subst e; rw [h1] at h; cases h
theorem Rk.nc {H : Hp} {p c q : Addr} {n : Nat} (r : Rk H p c n) (h : H q = none) : q ≠ c := by
  obtain ⟨ns, t, l, h1, h2, h3⟩ := r.ex
  intro e; subst e; rw [h2] at h; cases h
/-- another object changes -/
theorem Rk.up {H : Hp} {p c q : Addr} {n : Nat} {o : HO} (r : Rk H p c n) (hp : q ≠ p) (hc : q ≠ c) : Rk (upd H q o) p c n := by
  obtain ⟨ns, t, l, h1, h2, h3⟩ := r.ex
  exact ⟨⟨ns, t, l, by rw [upd_ne hp.symm]; exact h1, by rw [upd_ne hc.symm]; exact h2, h3⟩⟩
theorem Rk.more {H : Hp} {p c : Addr} {m n : Nat} (r : Rk H p c n) (h : n ≤ m) : Rk H p c m := by
  obtain ⟨ns, t, l, h1, h2, h3, h4, h5, h6, h7⟩ := r.ex
  exact ⟨⟨ns, t, l, h1, h2, h3, h4, h5, by omega, h7⟩⟩
/-- a draw: an int from 0 on below many -/
def spDraw : Sp := fun vs H Q _ => ∃ (p c : Addr) (many : Int) (n : Nat), vs = [.ref p, .int many] ∧ Rk H p c n ∧ n < 100000 ∧ 0 < many ∧ many < 1073741824 ∧
  ∀ (r : Int) (H' : Hp), 0 ≤ r → r < many → Rk H' p c (n + 1) → Kp p H H' → Q (.int r) H'
/-- a draw from a list, or a sign from a text -/
def spPick : Sp := fun vs H Q _ => ∃ (p c : Addr) (x : V) (n : Nat), vs = [.ref p, x] ∧ Rk H p c n ∧ n < 100000 ∧
  ((∃ a xs, x = .ref a ∧ a ≠ p ∧ H a = some (.lst xs) ∧ xs ≠ [] ∧ xs.length < 1000000 ∧ ∀ (v : V) (H' : Hp), v ∈ xs → Rk H' p c (n + 1) → Kp p H H' → Q v H') ∨
   (∃ z : Str, x = .str z ∧ 0 < z.length ∧ z.length < 1000000 ∧ ∀ (s : Nat) (H' : Hp), s ∈ z.cps.toList → Rk H' p c (n + 1) → Kp p H H' → Q (.str ⟨#[s]⟩) H'))
/-- the rack is made -/
def spRack (K : PySem.W.Frag) : Sp := fun vs H Q _ => ∃ (a : Addr) (ns : List Int), vs = [.ref a] ∧ SqL K H a (ns.map V.int) ∧ ns.length ≤ 63 ∧
  ∀ (p c : Addr) (H' : Hp), H p = none → Rk H' p c 0 → Ex H H' → Q (.ref p) H'
end GL
/-! Lists of ints and of truths as data: ==, repr. -/
namespace GL
open PySem PySem.Spec PyProof.Rows L2
section
variable {K : PySem.W.Frag} {H : Hp}
theorem dp_ints : ∀ ns : List Int, DpAll K H (ns.map V.int) (ns.map PyData.int)
  | [] => .nil
  | n :: r => .cons (.int n) (dp_ints r)
theorem dp_bools : ∀ bs : List Bool, DpAll K H (bs.map V.bl) (bs.map PyData.bool)
  | [] => .nil
  | b :: r => .cons (.bl b) (dp_bools r)
theorem lay_ints : ∀ ns : List Int, PyData.canLayAll0 (ns.map PyData.int) = true ∧ PyData.depthAll (ns.map PyData.int) = 0
  | [] => ⟨rfl, rfl⟩
  | n :: r => by
    obtain ⟨h1, h2⟩ := lay_ints r
    refine ⟨?_, ?_⟩
    · simp only [List.map_cons, PyData.canLayAll0, PyData.canLay0, h1]; rfl
    · simp only [List.map_cons, PyData.depthAll, PyData.depth, h2]; rfl
theorem shaped_ints (ns : List Int) : SeqAt.shaped (.list (ns.map PyData.int)) = true := by
  obtain ⟨h1, h2⟩ := lay_ints ns
  show (PyData.canLay0 (.list _) && decide (PyData.depth (.list _) ≤ 64)) = true
  simp only [PyData.canLay0, PyData.depth, h1, h2]; decide
theorem eqv_ints : ∀ ns ms : List Int, PyData.eqvAll (ns.map PyData.int) (ms.map PyData.int) = decide (ns = ms)
  | [], [] => rfl
  | [], m :: ms => by simp [PyData.eqvAll]
  | n :: ns, [] => by simp [PyData.eqvAll]
  | n :: ns, m :: ms => by
    have ih := eqv_ints ns ms
    simp only [List.map_cons, PyData.eqvAll, PyData.eqv, ih]
    by_cases h : n = m <;> by_cases h' : ns = ms <;> simp [h, h']
theorem eqv_nil : ∀ d : List PyData, PyData.eqvAll d [] = d.isEmpty
  | [] => rfl
  | _ :: _ => rfl
/-! ### repr of truths -/
def bText (bs : List Bool) : Str := PyData.shown (.list (bs.map PyData.bool))
theorem bools_show : ∀ bs : List Bool, PyData.showableAll (bs.map PyData.bool) = true ∧ PyData.hasDictAll (bs.map PyData.bool) = false ∧ PyData.depthAll (bs.map PyData.bool) = 0 ∧
    ((PyData.shownAll (bs.map PyData.bool)).map (·.length)).sum ≤ 5 * bs.length ∧ (PyData.shownAll (bs.map PyData.bool)).length = bs.length
  | [] => ⟨rfl, rfl, rfl, Nat.le_refl _, rfl⟩
  | b :: r => by
    obtain ⟨h1, h2, h3, h4, h5⟩ := bools_show r
    have hb : (PyData.shown (.bool b)).length ≤ 5 := by cases b <;> (simp only [PyData.shown]; decide)
    refine ⟨?_, ?_, ?_, ?_, ?_⟩
    · simp only [List.map_cons, PyData.showableAll, PyData.showable, h1]; rfl
    · simp only [List.map_cons, PyData.hasDictAll, PyData.hasDict, h2]; rfl
    · simp only [List.map_cons, PyData.depthAll, PyData.depth, h3]; rfl
    · simp only [List.map_cons, PyData.shownAll, List.sum_cons, List.length_cons]; omega
    · simp only [List.map_cons, PyData.shownAll, List.length_cons, h5]
theorem repr_bools {a : Addr} {bs : List Bool} {Q : VK} (h : H a = some (.lst (bs.map V.bl))) (hl : bs.length ≤ 1000) (q : Q (.str (bText bs)) H) : rRepr K [.ref a] H Q := by
  obtain ⟨h1, h2, h3, h4, h5⟩ := bools_show bs
  refine ⟨.ref a, .list (bs.map PyData.bool), rfl, .lst (SqL.of h) (dp_bools bs), by simpa only [PyData.showable] using h1, by simpa only [PyData.hasDict] using h2, ?_, ?_, q⟩
  · simp only [PyData.depth, h3]; decide
  · have := listText_len_le (PyData.shownAll (bs.map PyData.bool))
    have e : (1000 * 7 + 3 : Nat) ≤ sizeLine := by decide
    show (PyData.shown (.list (bs.map PyData.bool))).length ≤ sizeLine
    simp only [PyData.shown]
    omega
end
end GL
namespace GL
theorem mix_small {m t a b c : Int} (m0 : 0 ≤ m) (m1 : m < 2147483648) (t0 : 0 ≤ t) (t1 : t ≤ 100000) (a0 : 0 ≤ a) (a1 : a ≤ 100000) (b0 : 0 ≤ b) (b1 : b ≤ 100000) (c0 : 0 ≤ c) (c1 : c ≤ 100000) :
    (m * (2 * t + a) + b * t * t + c).natAbs < 2 ^ 64 := by
  have h1 : 0 ≤ m * (2 * t + a) := Int.mul_nonneg m0 (by omega)
  have h2 : m * (2 * t + a) ≤ 2147483648 * 300000 := Int.mul_le_mul (by omega) (by omega) (by omega) (by omega)
  have h3 : 0 ≤ b * t := Int.mul_nonneg b0 t0
  have h4 : b * t ≤ 100000 * 100000 := Int.mul_le_mul b1 t1 t0 (by omega)
  have h5 : 0 ≤ b * t * t := Int.mul_nonneg h3 t0
  have h6 : b * t * t ≤ 10000000000 * 100000 := Int.mul_le_mul (by omega) t1 t0 (by omega)
  omega
end GL
namespace GL
open PySem PySem.Spec PyProof.Rows L2
theorem take_step {α : Type} {l : List α} {i : Nat} {x : α} (h : l[i]? = some x) : l.take (i + 1) = l.take i ++ [x] := by
  rw [List.take_add_one, h]; rfl
theorem map_get {α β : Type} {f : α → β} {l : List α} {i : Nat} {y : β} (h : (l.map f)[i]? = some y) : ∃ x, l[i]? = some x ∧ f x = y := by
  rw [List.getElem?_map] at h
  cases e : l[i]? with
  | none => rw [e] at h; cases h
  | some x => rw [e] at h; exact ⟨x, rfl, Option.some.inj h⟩
theorem lt_of_get {α : Type} {l : List α} {i : Nat} {x : α} (h : l[i]? = some x) : i < l.length := (List.getElem?_eq_some_iff.mp h).1
theorem cut_ints (ns : List Int) (lo hi : Option Int) : ∃ ms : List Int, cutV (ns.map V.int) lo hi = ms.map V.int ∧ ms.length ≤ ns.length ∧ (∀ x, x ∈ ms → x ∈ ns) := by
  refine ⟨(ns.drop (HT.sIx ns.length 0 lo)).take (HT.sIx ns.length ns.length hi - HT.sIx ns.length 0 lo), ?_, ?_, fun x hx => List.mem_of_mem_drop (List.mem_of_mem_take hx)⟩
  · unfold cutV
    rw [List.length_map, List.map_take, List.map_drop]
  · rw [List.length_take, List.length_drop]; omega
theorem sz_ok {n : Nat} (h : n ≤ 1000000) : n < sizeLine := Nat.lt_of_le_of_lt h (by decide)
theorem sz_le {n : Nat} (h : n ≤ 1000000) : n ≤ sizeLine := Nat.le_of_lt (sz_ok h)
end GL
namespace GL
open PySem PySem.Spec PyProof.Rows L2
theorem Kd.l0 {p a : Addr} {H : Hp} (n : a ≠ p) (e : H a = some (.lst [])) : Kd p H (.ref a) := .lst n e (Nat.zero_le _) (fun x h => by cases h)
theorem Kd.t0 {p a : Addr} {H : Hp} (n : a ≠ p) (e : H a = some (.tup [])) : Kd p H (.ref a) := .tup n e (Nat.zero_le _) (fun x h => by cases h)
theorem Kd.l1 {p a : Addr} {H : Hp} {x : V} (n : a ≠ p) (e : H a = some (.lst [x])) (h : Kd p H x) : Kd p H (.ref a) := .lst n e (show 1 ≤ 100000 by decide) (fun y hy => by rw [List.mem_singleton.mp hy]; exact h)
theorem Kd.t1 {p a : Addr} {H : Hp} {x : V} (n : a ≠ p) (e : H a = some (.tup [x])) (h : Kd p H x) : Kd p H (.ref a) := .tup n e (show 1 ≤ 100000 by decide) (fun y hy => by rw [List.mem_singleton.mp hy]; exact h)
theorem Kd.t2 {p a : Addr} {H : Hp} {x y : V} (n : a ≠ p) (e : H a = some (.tup [x, y])) (h : Kd p H x) (h' : Kd p H y) : Kd p H (.ref a) := .tup n e (show 2 ≤ 100000 by decide) (fun z hz => by
  rcases List.mem_cons.mp hz with rfl | hz
  · exact h
  · rw [List.mem_singleton.mp hz]; exact h')
/-- texts among data are short -/
abbrev Sh (v : V) : Prop := ∀ z : Str, v = .str z → z.length ≤ 100000
end GL
namespace GL
open PySem PySem.Spec PyProof.Rows L2
/-- repr(x): a list of truths, or any data -/
def rReprX (K : PySem.W.Frag) : List V → Hp → VK → Prop := fun xs H Q => (∃ (a : Addr) (bs : List Bool), xs = [.ref a] ∧ H a = some (.lst (bs.map V.bl)) ∧ bs.length ≤ 1000 ∧ Q (.str (bText bs)) H) ∨ rRepr K xs H Q
theorem call_reprX {X : Cx} (gd : X.A.guards = some []) {j : Nat} (rm : Room j X.A) : CallR X (.builtin "repr") (rReprX X.K) := by
  intro pins s σ H xs us Q I r h
  refine call_repr gd rm pins s σ H xs us Q I r ?_
  rcases h with ⟨a, bs, rfl, h1, h2, q⟩ | h
  · exact repr_bools h1 h2 q
  · exact h
end GL
namespace GL
open PySem PySem.Spec PyProof.Rows L2
/-- None, a truth, an int -/
def Fl : V → Bool
  | .non => true
  | .bl _ => true
  | .int _ => true
  | _ => false
theorem dp_flat {K : PySem.W.Frag} {H : Hp} : ∀ xs : List V, xs.all Fl = true → ∃ ds, DpAll K H xs ds ∧ PyData.canLayAll0 ds = true ∧ PyData.depthAll ds = 0 ∧ ds.isEmpty = xs.isEmpty
  | [], _ => ⟨[], .nil, rfl, rfl, rfl⟩
  | x :: r, h => by
    rw [List.all_cons, Bool.and_eq_true] at h
    obtain ⟨ds, h1, h2, h3, h4⟩ := dp_flat (K := K) (H := H) r h.2
    cases x with
    | non => exact ⟨.none :: ds, .cons .non h1, by simp only [PyData.canLayAll0, PyData.canLay0, h2]; rfl, by simp only [PyData.depthAll, PyData.depth, h3]; rfl, rfl⟩
    | bl b => exact ⟨.bool b :: ds, .cons (.bl b) h1, by simp only [PyData.canLayAll0, PyData.canLay0, h2]; rfl, by simp only [PyData.depthAll, PyData.depth, h3]; rfl, rfl⟩
    | int i => exact ⟨.int i :: ds, .cons (.int i) h1, by simp only [PyData.canLayAll0, PyData.canLay0, h2]; rfl, by simp only [PyData.depthAll, PyData.depth, h3]; rfl, rfl⟩
    | str z => cases h.1
    | byt b => cases h.1
    | flt b => cases h.1
    | ref a => cases h.1
    | ty n => cases h.1
/-- [..] == [], the items flat -/
theorem eq_nil {K : PySem.W.Frag} {H : Hp} {a b : Addr} {xs : List V} {Q : VK} (ha : H a = some (.lst xs)) (hb : H b = some (.lst [])) (hx : xs.all Fl = true) (q : Q (.bl xs.isEmpty) H) : rEqD K (.ref a) (.ref b) H Q := by
  obtain ⟨ds, h1, h2, h3, h4⟩ := dp_flat (K := K) (H := H) xs hx
  refine ⟨.list ds, .list [], .lst (SqL.of ha) h1, .lst (SqL.of hb) .nil, ?_, rfl, ?_⟩
  · show (PyData.canLay0 (.list _) && decide (PyData.depth (.list _) ≤ 64)) = true
    simp only [PyData.canLay0, PyData.depth, h2, h3]; decide
  · show Q (.bl (PyData.eqv (.list ds) (.list []))) H
    have : PyData.eqv (.list ds) (.list []) = xs.isEmpty := by simp only [PyData.eqv]; rw [eqv_nil, h4]
    rw [this]; exact q
end GL
namespace GL
open PySem PySem.Spec PyProof.Rows L2
/-- ==: a list and the empty list, whatever the items; or data -/
def rEqX (K : PySem.W.Frag) : R2 := fun x y H Q => (∃ (a b : Addr) (xs : List V), x = .ref a ∧ y = .ref b ∧ H a = some (.lst xs) ∧ H b = some (.lst []) ∧ Q (.bl xs.isEmpty) H) ∨ rEqD K x y H Q
theorem op_eqX {X : Cx} (hu : X.A.units + 64 < cLine) : OpR X (compareOp .Eq) (rEqX X.K) := by
  intro pins s σ H x y v u Q I rx ry h
  rcases h with ⟨a, b, xs, rfl, rfl, ha, hb, q⟩ | h
  · cases xs with
    | nil => exact op_eqD hu pins s σ H _ _ v u Q I rx ry ⟨.list [], .list [], .lst (SqL.of ha) .nil, .lst (SqL.of hb) .nil, rfl, rfl, q⟩
    | cons z r =>
      cases rx
      cases ry
      obtain ⟨is, r1, ⟨o1, m1, ho1, hc1, _, hd1⟩, _⟩ := I.list (SqL.of ha)
      obtain ⟨js, r2, ⟨o2, m2, ho2, hc2, _, hd2⟩, _⟩ := I.list (SqL.of hb)
      refine SeqAt.eq_list_lengthsAt ⟨o1, ho1, hc1, m1, hd1⟩ ⟨o2, ho2, hc2, m2, hd2⟩ ?_ (by omega) ⟨.bl _, H, I, rfl, q⟩
      have l1 := r1.length
      have l2 := r2.length
      simp only [List.length_cons, List.length_nil] at l1 l2
      simp only [bne_iff_ne, ne_eq, List.size_toArray]
      omega
  · exact op_eqD hu pins s σ H x y v u Q I rx ry h
end GL
/-! Loops and comprehensions over what is known: a source gives the values xs while all but p stays. -/
namespace GL
open PySem PySem.Spec PyProof.Rows L2
def Src (p : Addr) (wi : TI) (σ : L2.St) (H : Hp) (xs : List V) : Prop :=
  ∀ R : It → Hp → Prop, (∀ (J : It) (H1 : Hp), Ex H H1 → Walk J xs.length (fun H2 => Kp p H1 H2) (YAt xs) → R J H1) → wi σ H R
section
variable {K : PySem.W.Frag} {p : Addr} {σ : L2.St} {H : Hp} {xs : List V} {te tl tl' : TE}
theorem Src.list (h : ∀ Q : VK, (∀ a H1, Ex H H1 → a ≠ p → H1 a = some (.lst xs) → Q (.ref a) H1) → te σ H Q) : Src p (iList K te) σ H xs := fun R q =>
  h _ fun a H1 e n ha => ⟨a, rfl, ⟨xs, SqL.of ha⟩, q _ H1 e (walk_list.mono (fun H2 k => SqL.of (k _ _ n ha)) fun _ _ _ _ _ _ y => y)⟩
theorem Src.tup (h : ∀ Q : VK, (∀ a H1, Ex H H1 → a ≠ p → H1 a = some (.tup xs) → Q (.ref a) H1) → te σ H Q) : Src p (iTup K te) σ H xs := fun R q =>
  h _ fun a H1 e n ha => ⟨a, rfl, ⟨xs, SqT.of ha⟩, q _ H1 e (walk_tup.mono (fun H2 k => SqT.of (k _ _ n ha)) fun _ _ _ _ _ _ y => y)⟩
theorem Src.nameL {i : Nat} {a : Addr} (hi : σ[i]? = some (some (.ref a))) (n : a ≠ p) (ha : H a = some (.lst xs)) : Src p (iList K (tVar i)) σ H xs :=
  .list fun Q q => ⟨_, hi, q a H (Ex.rfl' H) n ha⟩
theorem Src.nameT {i : Nat} {a : Addr} (hi : σ[i]? = some (some (.ref a))) (n : a ≠ p) (ha : H a = some (.tup xs)) : Src p (iTup K (tVar i)) σ H xs :=
  .tup fun Q q => ⟨_, hi, q a H (Ex.rfl' H) n ha⟩
/-- a name that holds a list or a tuple -/
theorem Src.nameS {i : Nat} {v : V} (hi : σ[i]? = some (some v)) (h : Kd p H v) (e : its H v = some xs) : Src p (iSeq K (tVar i) (tVar i)) σ H xs := fun R q => by
  obtain ⟨a, rfl, n, ha | ha⟩ := its_at h e
  · exact .inl (Src.nameL hi n ha R q)
  · exact .inr (Src.nameT hi n ha R q)
theorem Src.str {z : Str} (h : ∀ Q : VK, (∀ H1, Ex H H1 → Q (.str z) H1) → te σ H Q) : Src p (iStr te) σ H (z.cps.toList.map fun c => V.str ⟨#[c]⟩) := fun R q =>
  h _ fun H1 e => ⟨z, rfl, q _ H1 e (by
    rw [List.length_map, Array.length_toList]
    refine walk_str.mono (fun _ _ => trivial) fun i H x H' hi _ y => ⟨y.1, ?_⟩
    obtain ⟨c, hc, rfl⟩ := y.2
    rw [List.getElem?_map, Array.getElem?_toList, hc]; rfl)⟩
/-- 0, 1, .. below n -/
def ups (n : Int) : List V := (List.range n.toNat).map fun (i : Nat) => V.int (i : Int)
theorem ups_len (n : Int) : (ups n).length = n.toNat := by unfold ups; rw [List.length_map, List.length_range]
theorem ups_get {n : Int} {i : Nat} (h : i < n.toNat) : (ups n)[i]? = some (.int (i : Int)) := by
  unfold ups; rw [List.getElem?_map, List.getElem?_range h]; rfl
theorem Src.range {ta : TA} {n : Int} (hn : -1000000 ≤ n ∧ n ≤ 1000000) (h : ∀ Q : List V → Hp → Prop, (∀ H1, Ex H H1 → Q [.int n] H1) → ta σ H Q) : Src p (iRng1 ta) σ H (ups n) := fun R q =>
  h _ fun H1 e => ⟨n, rfl, by omega, by omega, q _ H1 e (by
    rw [ups_len]
    refine walk_range.mono (fun _ _ => trivial) fun i H x H' hi _ y => ⟨y.1, ?_⟩
    rw [ups_get hi, y.2]
    show some (V.int (i : Int)) = some (V.int (0 + (i : Int)))
    rw [Int.zero_add])⟩

/-- a comprehension whose parts change nothing: what is left of xs, each by f -/
theorem lc_pure {wi : TI} {tt : TT} {j : Nat} {Q : VK} (src : Src p wi σ H xs) (hz : xs.length ≤ 500000) (pd : V → Bool) (f : V → V)
    (ht : ∀ x, x ∈ xs → ∀ H1, Ex H H1 → ∀ Q1 : Bool → Hp → Prop, (∀ H2, Ex H1 H2 → Q1 (pd x) H2) → tt ((σ.set j none).set j (some x)) H1 Q1)
    (he : ∀ x, x ∈ xs → pd x = true → ∀ H1, Ex H H1 → ∀ Q1 : VK, (∀ H2, Ex H1 H2 → Q1 (f x) H2) → te ((σ.set j none).set j (some x)) H1 Q1)
    (q : ∀ D H2, H D = none → H2 D = some (.lst ((xs.filter pd).map f)) → Ex H H2 → Q (.ref D) H2) : tLc wi (gName j) tt te [j] σ H Q := by
  refine src _ fun J H1 e1 w D hD => ?_
  refine lc_it w (fun i H2 => H2 D = some (.lst (((xs.take i).filter pd).map f)) ∧ Ex H1 H2) ⟨upd_same, Ex.nw hD⟩ (fun i H2 _ g => Ex.kp g.2) ?_ fun H2 g => ?_
  · rintro i x H2 H3 hi ⟨g1, g2⟩ ⟨rfl, hx⟩
    have hm : x ∈ xs := List.mem_of_getElem? hx
    refine ⟨?_, ?_⟩
    · show ((σ.set j none).set j (some x)).set j none = σ.set j none
      rw [List.set_set, List.set_set]
    · refine ht x hm H3 (e1.tr g2) _ fun H4 e4 => ?_
      have g4 := e4 _ _ g1
      cases hp : pd x with
      | true =>
        refine iteT ?_
        refine he x hm hp H4 ((e1.tr g2).tr e4) _ fun H5 e5 => ⟨_, e5 _ _ g4, ?_, ?_, ((g2.tr e4).tr e5).up hD⟩
        · rw [List.length_map]
          have := List.length_filter_le pd (xs.take i)
          rw [List.length_take] at this
          exact sz_ok (by omega)
        · rw [take_step hx, List.filter_append, List.map_append, List.filter_cons_of_pos hp]
          exact upd_same
      | false =>
        refine iteF ⟨?_, g2.tr e4⟩
        rw [take_step hx, List.filter_append, List.filter_cons_of_neg (by rw [hp]; decide)]
        simpa using g4
  · have g1 := g.1
    rw [List.take_length] at g1
    exact q D H2 (e1.no hD) g1 (e1.tr g.2)
theorem yes_pd {x : V} {τ : L2.St} {H1 : Hp} {Q1 : Bool → Hp → Prop} (h : ∀ H2, Ex H1 H2 → Q1 ((fun _ : V => true) x) H2) : tYes τ H1 Q1 := h H1 (Ex.rfl' H1)
/-- without a test -/
theorem lc_map {wi : TI} {j : Nat} {Q : VK} (src : Src p wi σ H xs) (hz : xs.length ≤ 500000) (f : V → V)
    (he : ∀ x, x ∈ xs → ∀ H1, Ex H H1 → ∀ Q1 : VK, (∀ H2, Ex H1 H2 → Q1 (f x) H2) → te ((σ.set j none).set j (some x)) H1 Q1)
    (q : ∀ D H2, H D = none → H2 D = some (.lst (xs.map f)) → Ex H H2 → Q (.ref D) H2) : tLc wi (gName j) tYes te [j] σ H Q :=
  lc_pure src hz (fun _ => true) f (fun x _ H1 _ Q1 h => h H1 (Ex.rfl' H1)) (fun x hx _ => he x hx) fun D H2 n g e => q D H2 n (by rw [List.filter_eq_self.mpr (fun _ _ => rfl)] at g; exact g) e
/-- a loop over a source: Pv by the heap ahead, the turn, the slots, the heap -/
theorem for_src {wi : TI} {j : Nat} {tb : TS} {D : Ends} (src : Src p wi σ H xs) (Pv : Hp → Nat → L2.St → Hp → Prop) (h0 : ∀ H1, Ex H H1 → Pv H1 0 σ H1)
    (hk : ∀ H1 i σ' H2, Pv H1 i σ' H2 → Kp p H1 H2)
    (hs : ∀ H1 i x σ' H2, Ex H H1 → xs[i]? = some x → Pv H1 i σ' H2 → tb { D with nx := Pv H1 (i + 1), ct := Pv H1 (i + 1), bk := D.nx } (σ'.set j (some x)) H2)
    (hd : ∀ H1 σ' H2, Ex H H1 → Pv H1 xs.length σ' H2 → D.nx σ' H2) : tFor wi (gName j) tb D σ H :=
  src _ fun J H1 e1 w => for_it w (Pv H1) (h0 H1 e1) (fun i σ' H2 _ g => hk H1 i σ' H2 g) (fun i x σ' H2 H3 hi g y => by
    obtain ⟨rfl, hx⟩ := y
    exact hs H1 i x σ' H3 e1 hx g) fun σ' H2 g => hd H1 σ' H2 e1 g
end
end GL
namespace GL
open PySem PySem.Spec PyProof.Rows L2
/-- a value, the heap as it is -/
abbrev Va (te : TE) (σ : L2.St) (H : Hp) (v : V) : Prop := ∀ Q : VK, Q v H → te σ H Q
theorem va_var {i : Nat} {σ : L2.St} {H : Hp} {v : V} (h : σ[i]? = some (some v)) : Va (tVar i) σ H v := fun _ q => ⟨v, h, q⟩
theorem va_c {σ : L2.St} {H : Hp} {v : V} : Va (tC v) σ H v := fun _ q => q
theorem va_chain {p q : Int → Int → Bool} {ta tb tc : TE} {σ : L2.St} {H : Hp} {a b c : Int} (ha : Va ta σ H (.int a)) (hb : Va tb σ H (.int b)) (hc : Va tc σ H (.int c)) :
    Va (tChain (rI0 fun i j => .bl (p i j)) (rI0 fun i j => .bl (q i j)) ta tb tc) σ H (.bl (p a b && q b c)) := fun Q k =>
  ha _ (hb _ ⟨a, b, rfl, rfl, p a b, rfl, by
    cases e : p a b with
    | true => rw [e, Bool.true_and] at k; exact iteT (hc _ ⟨b, c, rfl, rfl, k⟩)
    | false => rw [e, Bool.false_and] at k; exact iteF k⟩)
end GL
/-! Own exceptions made by keywords. -/
namespace GL
open PySem PySem.W PySem.HandSPX
section
variable {prog : Program} {w : World} {M : Model} {A : Around} {E : Value → Shared → Prop} {R : Result → Shared → Prop} {h : Heap} {g : Array GenState} {d : Drawn} {t : Nat} {os : OsState}
variable {nm q : Str} {C N : Addr} {bs bm bmB : List Value} {hdct : Bool} {sn : List Str} {sub : List Value} {ab : Bool} {col : Option Bool} {dd : Option Addr} {k0 k1 k2 k3 k5 : Option Value} {B newId initId : String} {kw : List (Str × Value)} {rest : List Value}
theorem chk_newK (F : ExcBaseFacts B newId initId bmB) (hT : ∀ Y : String, bm.contains (.type Y) = bmB.contains (.type Y)) {Q : Unit → Shared → Prop}
    (hC : h.get? C = some (excClassObj nm q C N bs bm hdct sn sub ab col dd k0 k1 k2 k3 k5 newId)) (z : Q () ⟨h, g, d, t, os⟩) : wpAny M A (checkBuiltinCall newId ⟨.ref C :: rest, kw⟩) Q E ⟨h, g, d, t, os⟩ := by
  have hB : (Value.ref C :: bm).contains (.type B) = true := by
    rw [List.contains_cons, hT, F.hasB]; exact Bool.or_true _
  have st := F.noStar
  simp only [checkBuiltinCall, F.newSplit, F.newKind, F.newRow]
  repeat (first | (refine wpAny_isSubtype_exc hC ?_; rw [hB]) | refine wpAny_madeBy_exc hC ?_ | refine wpAny_staticBase_exc hC ?_ | refine wpAny_loadPart_at hC ?_ | simp only [bne_self_eq_false, Bool.false_eq_true, if_false] | wp_step)
  exact z
theorem run_newK (F : ExcBaseFacts B newId initId bmB) (hT : ∀ Y : String, bm.contains (.type Y) = bmB.contains (.type Y))
    (hC : h.get? C = some (excClassObj nm q C N bs bm hdct sn sub ab col dd k0 k1 k2 k3 k5 newId)) (hl : rest.length ≤ sizeLine)
    (z : R (.ok (.ret (.ref (h.objs.size + 1)))) ⟨(h.push (kdv_tup rest)).push (excO C h.objs.size), g, d, t, os⟩) :
    codeAny (model prog w) A (.builtin newId ⟨.ref C :: rest, kw⟩) R ⟨h, g, d, t, os⟩ := by
  have en := F.ends
  have cB : (Value.ref C :: bm).contains (.type B) = true := by
    rw [List.contains_cons, hT, F.hasB]; exact Bool.or_true _
  have cA : (Value.ref C :: bm).contains (.type "AttributeError") = false := by
    rw [List.contains_cons, hT, F.noAttr]; rfl
  have cN : (Value.ref C :: bm).contains (.type "NameError") = false := by
    rw [List.contains_cons, hT, F.noName]; rfl
  refine codeAny_builtinAt F.entry ?_
  unfold Builtin.«BaseException.__new__»
  refine wpAt_bind ?_
  show wpAt _ _ _ (stack >>= _) _ _ _
  refine wpAt_bind (wpAt_stack fun p below => wpAt_of_wpAny ?_)
  wp_walk
  refine wpAt_of_wpAny ?_
  rw [F.owner]
  repeat (first | with_reducible refine wpAny_loadPart_at hC ?_ | with_reducible refine wpAny_madeHere_exc F.canon hC ?_ | (with_reducible refine wpAny_isSubtype_exc hC ?_; first | rw [cA] | rw [cB] | rw [cN]) | wp_step)
  show R _ _
  rw [Heap.size_push]
  exact z
theorem tcall_ownK (F : ExcBaseFacts B newId initId bmB) (hT : ∀ Y : String, bm.contains (.type Y) = bmB.contains (.type Y)) {fI : Addr} {Q : Fin → Shared → Prop}
    (hC : h.get? C = some (excClassObj nm q C N bs bm hdct sn sub ab col dd k0 k1 k2 k3 k5 newId))
    (hi : W.Looks (model prog w) h (typeLookup (.ref C) "__init__") (some (.ref fI))) (hb : ∀ self, W.Looks (model prog w) h (bindSpecial (.ref fI) self) (.ref fI, [self])) (hl : rest.length ≤ sizeLine)
    (z : codeAny (model prog w) A (.call (.ref fI) ⟨.ref (h.objs.size + 1) :: rest, kw⟩)
      (fun r s' => match r with | .ok (.ret v) => v = .none ∧ Q (.done (.ret (.ref (h.objs.size + 1)))) s' | .ok _ => False | .error e => E e s')
      ⟨(h.push (kdv_tup rest)).push (excO C h.objs.size), g, d, t, os⟩) :
    wpAny (model prog w) A (Builtin.«type.__call__» ⟨.ref C :: rest, kw⟩) Q E ⟨h, g, d, t, os⟩ := by
  repeat (first | with_reducible refine wpAny_madeBy_exc hC ?_ | with_reducible refine wpAny_loadPart_at hC ?_ | wp_step)
  refine codeAny_call_builtin_code (Code.quiet_builtin _ F.quiet) (chk_newK F hT hC ?_)
  refine run_newK F hT hC hl ?_
  show wpAny _ _ _ _ _ _
  have k : ∀ b o, h.get? b = some o → ((h.push (kdv_tup rest)).push (excO C h.objs.size)).get? b = some o := fun b o e => Heap.get?_push_of_some _ (Heap.get?_push_of_some _ e)
  have hC1 := k _ _ hC
  have hg : ((h.push (kdv_tup rest)).push (excO C h.objs.size)).get? (h.objs.size + 1) = some (excO C h.objs.size) := by heap_get
  have cC : (Value.ref C :: bm).contains (.ref C) = true := by simp
  have i1 := hi.keeps k
  have b1 := (hb (.ref (h.objs.size + 1))).keeps k
  unfold isInstance
  repeat (first | (with_reducible refine wpAny_isSubtype_exc hC1 ?_; rw [cC]) | with_reducible refine wpAny_loadPart_at hg ?_ | wp_step)
  show wpAny _ _ (typeLookup (.ref C) _) _ _ _
  refine i1.at ?_
  refine wpAny_holding (wpAny_bind (b1.at ?_))
  refine wpAny_bind (wpAny_call (codeAny_mono z fun r s' y => ?_))
  rcases r with e | (v | _ | _ | _) <;> first | exact y.elim | exact y | skip
  obtain ⟨rfl, y⟩ := y
  first
    | exact wpAny_pure (wpAny_pure y)
    | (wp_walk; exact y)
theorem chk_tcK {Q : Unit → Shared → Prop} (hC : h.get? C = some (excClassObj nm q C N bs bm hdct sn sub ab col dd k0 k1 k2 k3 k5 newId))
    (z : Q () ⟨h, g, d, t, os⟩) : wpAny M A (checkBuiltinCall "type.__call__" ⟨.ref C :: rest, kw⟩) Q E ⟨h, g, d, t, os⟩ := by
  have f3 := tc_sub
  have ty : (⟨h, g, d, t, os⟩ : Shared).TypeIs (.ref C) "type" := ⟨_, hC, rfl⟩
  simp only [checkBuiltinCall, tc_split, tc_kind]
  repeat (any_goals (first | assumption | with_reducible refine wpAny_map ?_ | with_reducible refine wpAny_loadPart_at hC ?_ | with_reducible refine wpAny_onRaise ?_ | wp_step))
theorem call_ownK (F : ExcBaseFacts B newId initId bmB) (hT : ∀ Y : String, bm.contains (.type Y) = bmB.contains (.type Y)) {fI : Addr}
    (hC : h.get? C = some (excClassObj nm q C N bs bm hdct sn sub ab col dd k0 k1 k2 k3 k5 newId))
    (hi : W.Looks (model prog w) h (typeLookup (.ref C) "__init__") (some (.ref fI))) (hb : ∀ self, W.Looks (model prog w) h (bindSpecial (.ref fI) self) (.ref fI, [self])) (hl : rest.length ≤ sizeLine)
    (z : codeAny (model prog w) (A.under (.builtin "type.__call__" ⟨.ref C :: rest, kw⟩)) (.call (.ref fI) ⟨.ref (h.objs.size + 1) :: rest, kw⟩) (W.InitBack (h.objs.size + 1) R)
      ⟨(h.push (kdv_tup rest)).push (excO C h.objs.size), g, d, t, os⟩) :
    codeAny (model prog w) A (.call (.ref C) ⟨rest, kw⟩) R ⟨h, g, d, t, os⟩ := by
  have f1 := tc_lookup
  have f2 := tc_bind (.ref C)
  have ty : (⟨h, g, d, t, os⟩ : Shared).TypeIs (.ref C) "type" := ⟨_, hC, rfl⟩
  refine codeAny_of_tree ?_
  show wpAny _ _ (callAny (.ref C) _) _ _ _
  repeat (any_goals (first | with_reducible refine wpAny_loadPart_at hC ?_ | assumption | wp_step))
  refine ⟨rfl, ?_⟩
  refine codeAny_call_builtin_at (Code.quiet_builtin _ (by decide +kernel)) entry_typeCall (chk_tcK hC (tcall_ownK F hT hC hi hb hl ?_))
  refine codeAny_mono z fun r s' y => ?_
  rcases r with e | (v | _ | _ | _) <;> exact y
end
end GL
/-! Own exceptions as values: made, their fields read, isinstance. -/
namespace GL
open PySem PySem.Spec PyProof.Rows L2
/-- an own exception at a, of the class at C; its dict d -/
def Ed (H : Hp) (a C : Addr) (d : Option Addr) (fs : List (Str × V)) : Prop := ∃ φ, H a = some (.ext φ) ∧ (∀ h, φ h → ∃ oe vs, h.get? a = some oe ∧ Zc (.ref C) d oe ∧ oe.data = .fields vs) ∧
  match d with | some dd => H dd = some (exd dd fs) | none => fs = []
def Ef (H : Hp) (a C : Addr) (fs : List (Str × V)) : Prop := ∃ d, Ed H a C d fs
def Ei (H : Hp) (a C : Addr) : Prop := ∃ fs, Ef H a C fs
theorem Ed.ex {H H' : Hp} {a C : Addr} {d : Option Addr} {fs : List (Str × V)} (e : Ex H H') (h : Ed H a C d fs) : Ed H' a C d fs := by
  obtain ⟨φ, h1, h2, h3⟩ := h
  refine ⟨φ, e _ _ h1, h2, ?_⟩
  cases d with
  | none => exact h3
  | some dd => exact e _ _ h3
theorem Ef.ex {H H' : Hp} {a C : Addr} {fs : List (Str × V)} (e : Ex H H') (h : Ef H a C fs) : Ef H' a C fs := by obtain ⟨d, h⟩ := h; exact ⟨d, h.ex e⟩
theorem Ei.ex {H H' : Hp} {a C : Addr} (e : Ex H H') (h : Ei H a C) : Ei H' a C := by obtain ⟨fs, h⟩ := h; exact ⟨fs, h.ex e⟩
theorem Ef.ei {H : Hp} {a C : Addr} {fs : List (Str × V)} (h : Ef H a C fs) : Ei H a C := ⟨fs, h⟩
theorem Ed.of {H : Hp} {a C dd : Addr} {fs : List (Str × V)} (h1 : H a = some (exo a C (some dd))) (h2 : H dd = some (exd dd fs)) : Ed H a C (some dd) fs :=
  ⟨_, h1, fun h ⟨t, z⟩ => ⟨_, _, z, ⟨rfl, rfl⟩, rfl⟩, h2⟩
theorem Ed.of0 {H : Hp} {a C : Addr} (h1 : H a = some (exo a C none)) : Ed H a C none [] := ⟨_, h1, fun h ⟨t, z⟩ => ⟨_, _, z, ⟨rfl, rfl⟩, rfl⟩, rfl⟩
/-- what the written part says of such a class -/
structure ClsX (K : PySem.W.Frag) (C : Addr) : Prop where
  ox : OexC K C
  ga : PySem.W.findIn K (.ref C) "__getattribute__" = some (some (.builtin "BaseException.__getattribute__"))
  gg : PySem.W.findIn K (.ref C) "__getattr__" = some none
  hd : PySem.W.hasDictIn K C = true
  hc : PySem.W.findIn K (.ref C) "__class__" = some (some (.builtin "object.__class__"))
  hm : PySem.W.mroIn K C (.type "object") = some true
  sn : PySem.W.specialIn K (.builtin "object.__class__") "__get__" = some (some (.builtin "getset_descriptor.__get__"))
  st : PySem.W.takesIn K (.builtin "object.__class__") = some true
section
variable {X : Cx} {pins : List (Addr × Obj)} {σ : L2.St} {H : Hp} {s : Shared} {a C : Addr} {d : Option Addr} {fs : List (Str × V)}
theorem inst_of (I : Inv X pins σ H s) (e : Ed H a C d fs) : ∃ oe od, PySem.W.InstAt s.heap a oe C od ∧ (∀ dd, d = some dd → ∃ mA, s.heap.Ns1 dd mA ∧ (∀ f, RelO (fs.lookup f) (mA f)) ∧ ∃ o, od = some o ∧ s.heap.get? dd = some o) := by
  obtain ⟨φ, h1, h2, h3⟩ := e
  have x : φ s.heap := (I.hok a _ h1).1
  obtain ⟨oe, vs, hg, hz, hv⟩ := h2 _ x
  cases d with
  | none =>
    refine ⟨oe, none, ⟨hg, hz.1, by unfold PySem.W.notCls; rw [hv] <;> rfl, by rw [hz.2]; trivial⟩, fun dd z => by cases z⟩
  | some dd =>
    obtain ⟨mA, hns, rel⟩ := exd_at I.hok h3
    obtain ⟨od, ho, hl⟩ := lookIn_ns hns
    exact ⟨oe, some od, ⟨hg, hz.1, by unfold PySem.W.notCls; rw [hv] <;> rfl, by rw [hz.2]; exact ho⟩, fun d2 z => by cases z; exact ⟨mA, hns, rel, od, rfl, ho⟩⟩
/-- e.f of such an exception -/
def tAtX (K : PySem.W.Frag) (f : Str) (te : TE) : TE := fun σ H Q => te σ H fun x H1 => ∃ (a C : Addr) (fs : List (Str × V)) (v : V), x = .ref a ∧ Ef H1 a C fs ∧ ClsX K C ∧ PySem.W.findIn K (.ref C) f = some none ∧ fs.lookup f = some v ∧ Q v H1
theorem pe_atX {e : Expr} {te : TE} {pos : Pos} {f : Str} (he : PE X e te) (hb : attributeBase e f X.env (eval e X.env) = eval e X.env := by rfl) : PE X (.Attribute e f pos) (tAtX X.K f te) := by
  refine ⟨fun pins s σ H Q I h => attr_of hb (thn (he.run pins s σ H _ I h) fun u s1 hh => ?_)⟩
  obtain ⟨x, H1, I1, rx, a, C, fs, v, rfl, ⟨d, ed⟩, cx, hno, hl, q⟩ := hh
  obtain rfl : u = Value.ref a := rx
  obtain ⟨oe, od, J, hdd⟩ := inst_of I1 ed
  cases d with
  | none =>
    obtain ⟨φ, _, _, z⟩ := ed
    have z' : fs = [] := z
    rw [z'] at hl; cases hl
  | some dd =>
    obtain ⟨mA, hns, hr, o, rfl, ho⟩ := hdd dd rfl
    obtain ⟨od', ho', hl'⟩ := lookIn_ns hns
    rw [ho] at ho'
    cases ho'
    obtain ⟨u, hu, ru⟩ := RelO.some_of (v := v) (o := mA f) (by rw [← hl]; exact hr f)
    exact HandSPX.exc_get I1.kIn J cx.ga cx.gg cx.ox.exC (PySem.W.findObj_own cx.hd hno rfl (by rw [hl', hu])) (handed_of ru) ⟨v, H1, I1.tok _, ru, q⟩
theorem kit_exc (cx : ClsX X.K C) {od : Option Obj} {oe : Obj} : PySem.W.KitX X.K (.ref a) (.ref C) (fun h => PySem.W.InstAt h a oe C od) :=
  PySem.W.kitx_exc (by obtain ⟨cd, hc, _⟩ := PySem.W.any_some cx.hd; rw [hc]; rfl) cx.ga cx.gg cx.ox.exC cx.hc cx.sn cx.st cx.hm
/-- isinstance(e, c) -/
def rIsX (K : PySem.W.Frag) : List V → Hp → VK → Prop := fun xs H Q => ∃ (a C : Addr) (c : V) (cv : Value) (b : Bool), xs = [.ref a, c] ∧ Ei H a C ∧ ClsX K C ∧ (∀ u, RelV c u → u = cv) ∧ PySem.W.kitOne K (.ref C) cv = some b ∧ Q (.bl b) H
theorem call_isX : CallR X (.builtin "isinstance") (rIsX X.K) := by
  intro pins s σ H xs us Q I r h
  obtain ⟨a, C, c, cv, b, rfl, ⟨fs, d, ed⟩, cx, hcv, e, q⟩ := h
  cases r with
  | cons rx rr =>
    cases rr with
    | cons rt rr =>
      cases rr
      cases rx
      have ec := hcv _ rt
      subst ec
      obtain ⟨oe, od, J, _⟩ := inst_of I ed
      exact PySem.W.kia_one (kit_exc cx) I.kIn J e (fun z => nomatch z) fun tk => ⟨.bl b, H, I.kept (t' := tk) fun _ _ z => z, rfl, q⟩
/-- isinstance(e, (c, ..)) -/
def rIsXT (K : PySem.W.Frag) : List V → Hp → VK → Prop := fun xs H Q => ∃ (a C tp : Addr) (cs : List V) (us : List Value) (b : Bool), xs = [.ref a, .ref tp] ∧ H tp = some (.tup cs) ∧ Ei H a C ∧ ClsX K C ∧ Paired ClsV cs us ∧ PySem.W.kitAny K (.ref C) us = some b ∧ Q (.bl b) H
end
end GL
/-! C(..) of an own exception class: by place, by keywords, without a word. -/
namespace GL
open PySem PySem.Spec PyProof.Rows L2
section
variable {X : Cx} {cx : CXT} {k n : Nat} {C fI : Addr} {fd : FuncData} {ps ks : List Str} {sp spC : Sp} {x : Str} {p pos : Pos} {e : Expr} {es : List Expr} {kws : List Keyword} {t tk : TA} {g gC : {α : Type} → List α → List α → List α}
theorem call_isXT : CallR X (.builtin "isinstance") (rIsXT X.K) := by
  intro pins s σ H xs us Q I r h
  obtain ⟨a, C, tp, cs, ws, b, rfl, hT, ⟨fs, d, ed⟩, cl, pr, e, q⟩ := h
  obtain ⟨u1, u2, rfl, r1, r2⟩ := vals2 r
  cases (show u1 = Value.ref a from r1)
  cases (show u2 = Value.ref tp from r2)
  obtain ⟨oe, od, J, _⟩ := inst_of I ed
  have hO : ObjOk X.prog X.w H s.heap tp (.tup cs) := I.hok tp _ hT
  obtain ⟨_, its, rv, o, h1, h2, n, h3⟩ := hO
  have ew := ClsV.all pr rv
  subst ew
  obtain ⟨oc, od2, dt, sl⟩ := o
  simp only at h2 h3
  subst h2 h3
  exact PySem.W.kia_tup (kit_exc cl) I.kIn J h1 e (fun z => nomatch z) fun tk => ⟨.bl b, H, I.tok tk, rfl, q⟩
/-- what __init__ must do that C's call gives spC -/
def Inits (C : Addr) (sp spC : Sp) : Prop := ∀ (vs : List V) (H : Hp) (Q : VK) (a : Addr), H a = none → spC vs H Q (fun _ _ _ => False) → vs.length ≤ 1000 ∧ sp (.ref a :: vs) (upd H a (exo a C none)) (fun v H2 => v = .non ∧ Q (.ref a) H2) (fun _ _ _ => False)
theorem run_newX {pins : List (Addr × Obj)} {σ : L2.St} {H : Hp} {s : Shared} {Q : VK} {us zs : List Value} {vs : List V} {kw : List (Str × Value)} (cl : ClsX X.K C) (iC : PySem.W.findIn X.K (.ref C) "__init__" = some (some (.ref fI))) (tI : PySem.W.typeIn X.K (.ref fI) = some (.type "function"))
    (Fi : FnG X.prog X.w X.K X.mg X.base cx k fI fd ps sp) (gd : X.A.guards = some []) (rm : Room (k + 1) X.A) (hx : Passes cx X (fun _ _ _ => False)) (im : Inits C sp spC) (I : Inv X pins σ H s) (hl : us.length ≤ 1000)
    (hb : ∀ (s : Shared) (a : Addr), X.K.In s.heap → BindsTo s fd ⟨.ref a :: us, kw⟩ (ps.zip (.ref a :: zs))) (r : Vals vs zs) (h : spC vs H Q (fun _ _ _ => False)) :
    wpAny (model X.prog X.w) X.A (call (.ref C) us kw) (EP X pins σ Q) X.xe s := by
  obtain ⟨nm, q, N, bs, bm, sn, sub, ab, col, dd, k0, k1, k2, k3, k5, hC, hbm⟩ := cl.ox.cls
  obtain ⟨hp, gs, dr, tk, os⟩ := s
  have big : hp.objs.size ≤ hp.objs.size + 1 := Nat.le_succ _
  have free : H (hp.objs.size + 1) = none := I.hok.fresh big
  obtain ⟨_, hq⟩ := im vs H Q _ free h
  have kk : ∀ b o, hp.get? b = some o → ((hp.push (PySem.W.kdv_tup us)).push (PySem.HandSPX.excO C hp.objs.size)).get? b = some o := fun b o z => Heap.get?_push_of_some _ (Heap.get?_push_of_some _ z)
  have at1 : ((hp.push (PySem.W.kdv_tup us)).push (PySem.HandSPX.excO C hp.objs.size)).get? (hp.objs.size + 1) = some (PySem.HandSPX.excO C hp.objs.size) := by heap_get
  have J : Inv X pins σ (upd H (hp.objs.size + 1) (exo (hp.objs.size + 1) C none)) ⟨(hp.push (PySem.W.kdv_tup us)).push (PySem.HandSPX.excO C hp.objs.size), gs, dr, tk, os⟩ :=
    I.laid (t' := tk) (a := hp.objs.size + 1) (o := exo (hp.objs.size + 1) C none) kk big (exo_ok at1)
  have rr : Vals (V.ref (hp.objs.size + 1) :: vs) (Value.ref (hp.objs.size + 1) :: zs) := .cons rfl r
  refine wpAny_call (call_ownK F.excBase_ValueError (fun Y => PySem.HandSPX.refsVE_contains Y bm hbm) (I.kIn _ _ hC) (PySem.W.looks_findIn I.kIn iC) (fun self => PySem.W.bind_fn I.kIn self tI) (by rw [sizeLine_eq]; omega) ?_)
  refine codeAny_mono (Fi.run _ X.stack _ _ ⟨.ref (hp.objs.size + 1) :: us, kw⟩ _ _ _ (fun _ _ _ => False) gd (rm.make C us kw) (J.env0.make C us kw) (hb _ _ J.kIn) rr hq) fun res s' z => ?_
  cases res with
  | error er => exact hx pins σ _ _ er s' J z
  | ok fl =>
    cases fl with
    | ret u =>
      obtain ⟨v, H', J2, rv, ev, q3⟩ := J.after z
      subst ev
      exact ⟨rv, ⟨V.ref (hp.objs.size + 1), H', J2, rfl, q3⟩⟩
    | next => exact z.elim
    | brk => exact z.elim
    | cont => exact z.elim
/-- C(e, ..) -/
theorem pe_newX (cl : ClsX X.K C) (iC : PySem.W.findIn X.K (.ref C) "__init__" = some (some (.ref fI))) (tI : PySem.W.typeIn X.K (.ref fI) = some (.type "function")) (Fi : FnG X.prog X.w X.K X.mg X.base cx k fI fd ps sp) (gd : X.A.guards = some [])
    (rm : Room (k + 1) X.A) (hx : Passes cx X (fun _ _ _ => False)) (im : Inits C sp spC) (hb : Binds X.K fd ps []) (hg : Gl X x) (hm : X.mg x = some (.ref C)) (ha : PA X (e :: es) t)
    (hdb : (x == ("__debug__" : Str)) = false := by decide) (hst : starEach (e :: es) X.env = (false, eval e X.env) :: starEach es X.env := by rfl)
    (hpl : (backTo pos (starEach es X.env)).any (·.1) = false := by rfl) : PE X (.Call (.Name x p) (e :: es) [] pos) (tCall spC [] (fun _ _ _ => False) t) := by
  refine ⟨fun pins s σ H Q I h => wpAny_Call_Name_kw (ld_glob I hg hm ?_ hdb)⟩
  refine PySem.W.callWith_K (h₀ := X.base) I.ok.mod.kin cl.ox.kC (thn (ha.run pos pins s σ H _ I h) ?_) hst hpl
  rintro us s1 ⟨vs, H1, I1, r, q⟩
  have q' : spC (vs ++ []) H1 Q (fun _ _ _ => False) := q
  rw [List.append_nil] at q'
  have fr := I1.hok.fresh (Nat.le_refl s1.heap.objs.size)
  have l1 := (im vs H1 Q _ fr q').1
  have l2 := r.length
  have l3 := Fi.len _ _ _ _ (im vs H1 Q _ fr q').2
  refine ⟨I1.kIn, run_newX cl iC tI Fi gd rm hx im I1 (us := us) (zs := us) (show us.length ≤ 1000 by omega) (fun s a X1 => ?_) r q'⟩
  have z := hb s (.ref a :: us) X1 (by rw [List.append_nil]; simp only [List.length_cons] at l3 ⊢; omega)
  rw [List.append_nil] at z
  exact z
/-- C(k = v, ..) -/
theorem pe_newK (cl : ClsX X.K C) (iC : PySem.W.findIn X.K (.ref C) "__init__" = some (some (.ref fI))) (tI : PySem.W.typeIn X.K (.ref fI) = some (.type "function")) (Fi : FnG X.prog X.w X.K X.mg X.base cx k fI fd ps sp) (gd : X.A.guards = some [])
    (rm : Room (k + 1) X.A) (hx : Passes cx X (fun _ _ _ => False)) (im : Inits C sp spC) (hb : KwB X.K fd ps 1 ks g) (hgc : ∀ {α : Type} (a : α) (ws : List α), ws.length = ks.length → g [a] ws = a :: gC [] ws)
    (hr : ∀ {zs : List V} {ws : List Value}, zs.length = ks.length → Vals zs ws → Vals (gC [] zs) (gC [] ws)) (hg : Gl X x) (hm : X.mg x = some (.ref C)) (hk : PK X kws tk)
    (hall : (backToKw pos (keywordEach kws X.env)).all (·.1.isSome) = true := by rfl) (hks : (backToKw pos (keywordEach kws X.env)).filterMap (·.1) = ks := by rfl)
    (hdb : (x == ("__debug__" : Str)) = false := by decide)
    (hpl : ((backTo pos (starEach [] X.env)).any (·.1) || (backToKw pos (keywordEach kws X.env)).any (·.1.isNone)) = false := by rfl) :
    PE X (.Call (.Name x p) [] kws pos) (tKw 0 ks.length spC gC (fun _ _ _ => False) tNil tk) := by
  refine ⟨fun pins s σ H Q I h => wpAny_Call_Name_kw (ld_glob I hg hm ?_ hdb)⟩
  refine PySem.W.callWith_KW0 (h₀ := X.base) I.ok.mod.kin cl.ox.kC hall ?_ hpl
  refine thn (hk.run pos pins s σ H _ I h) ?_
  rintro ws s2 ⟨zs, H2, I2, rz, l1, l2, q2⟩
  rw [hks]
  refine ⟨I2.kIn, run_newX cl iC tI Fi gd rm hx im I2 (us := []) (zs := gC [] ws) (Nat.zero_le _) (fun s a X1 => ?_) (hr l2 rz) q2⟩
  have z := hb.to s [.ref a] ws rfl (rz.length.symm.trans l2)
  rw [hgc _ _ (rz.length.symm.trans l2)] at z
  exact z
/-- C() of a class that has no own __init__ -/
theorem pe_new0 {bmB : List Value} {B newId initId : String} (F0 : ExcBaseFacts B newId initId bmB) (qx : PySem.W.excIn X.K C bmB newId = true) (hm : X.mg x = some (.ref C)) (kC : PySem.W.keepIn X.K (.ref C) = true) (hg : Gl X x)
    (hdb : (x == ("__debug__" : Str)) = false := by decide) : PE X (.Call (.Name x p) [] [] pos) (fun _ H Q => ∀ a H', H a = none → Ex H H' → Ef H' a C [] → Q (.ref a) H') := by
  refine ⟨fun pins s σ H Q I h => wpAny_Call_Name_kw (ld_glob I hg hm (PySem.W.callWith_K0 I.kIn kC ?_) hdb)⟩
  obtain ⟨bm, N, nm, qn, bs, hdct, sn, sub, ab, col, dd, k0, k1, k2, k3, k5, mN, hC, hN, hni, T⟩ := exc_obj I.kIn qx
  refine wpAny_call_exc_subT F0 T hC hN hni (fun h' a hm => ?_) (by show 0 ≤ sizeLine; omega)
  have free : H a = none := I.hok.gone hm.new
  obtain ⟨t, ht, _, _⟩ := hm.there
  refine ⟨.ref a, upd H a (exo a C none), I.laidN hm.keeps hm.new free (exo_ok ht), rfl, h a _ free (Ex.nw free) ⟨none, Ed.of0 upd_same⟩⟩
end
end GL
/-! try with a clause of several classes that is not meant, then except x as n, the exception tracked within the suite. -/
namespace GL
open PySem PySem.Spec PyProof.Rows L2
theorem fly_more {B h h' : Heap} {l : List Env} {e : Addr} {Z : Obj → Prop} (x : HandSPX.FlyingZ B l e Z h) (k : ∀ b o, h.get? b = some o → h'.get? b = some o) : HandSPX.FlyingZ B l e Z h' := by
  obtain ⟨h1, h2, h3, oe, vs, T, oT, ts, he, hz, hd, hv, hn, hne, hT, hdT, h4⟩ := x
  exact ⟨fun b o z => k _ _ (h1 b o z), h2, h3.of_keeps fun b o z _ => ⟨o, k _ _ z, rfl⟩, oe, vs, T, oT, ts, k _ _ he, hz, hd, hv, hn, hne, k _ _ hT, hdT, h4⟩
section
variable {X : Cx} {pins : List (Addr × Obj)} {σ : L2.St} {H : Hp} {s : Shared}
/-- the suite's state, the exception tracked in the place of its pin -/
theorem Inv.track {a : Addr} {oe : Obj} {vs : Array Value} {pn : List (Addr × Obj)} {φ : Heap → Prop} (ok : X.Ok) (I : Inv (X.suite a ((a, oe) :: pn)) [] σ H s) (hv : oe.data = .fields vs) (hφ : φ s.heap) (mono : ∀ h h' : Heap, φ h → (∀ o, h.get? a = some o → h'.get? a = some o) → φ h')
    (h0 : ∀ o, X.s_0.heap.get? a = some o → X.H_0 a = none → a ∉ X.ex → False) (hp : ∀ q ∈ pn, q.1 ≠ a) : Inv (X.suite a pn) [] σ (upd H a (.ext φ)) s := by
  obtain ⟨ha, na, nL, nF, nc⟩ := I.pin (a, oe) (List.mem_append_left _ List.mem_cons_self)
  have neN : ∀ {b : Addr} {o : HO}, H b = some o → b ≠ a := fun z e => by rw [e, na] at z; cases z
  refine ⟨ok.suite a pn, I.os, I.bare, ⟨I.base.keep, I.base.slot, fun b o z n hx => ?_, I.base.there, fun b xs z => ?_, fun b o u z => ?_, fun b ps z => ?_⟩, I.loc, I.cell, ?_, fun y c z => ?_, fun q hq => ?_, fun b o z => ?_, I.len⟩
  · by_cases e : b = a
    · subst e; exact (h0 o z n hx).elim
    · rw [upd_ne e]; exact I.base.free b o z n hx
  · have q := I.base.tups b xs z
    rw [upd_ne (neN q)]; exact q
  · have q := I.base.frzs b o u z
    rw [upd_ne (neN q)]; exact q
  · obtain ⟨m, q⟩ := I.base.tbls b ps z
    exact ⟨m, by rw [upd_ne (neN q)]; exact q⟩
  · rw [upd_ne nL.symm]; exact I.free
  · have q := I.freeC y c z
    have ne : c ≠ a := fun e => by
      obtain ⟨w', o, ho, hd⟩ := I.cell y c z
      subst e
      rw [ha] at ho
      cases ho
      exact nc _ hd
    rw [upd_ne ne]; exact q
  · have hq' : q ∈ pn := by rw [List.append_nil] at hq; exact hq
    obtain ⟨e, n, x1, x2, x3⟩ := I.pin q (List.mem_append_left _ (List.mem_cons_of_mem _ hq'))
    exact ⟨e, by rw [upd_ne (hp q hq')]; exact n, x1, x2, x3⟩
  · by_cases e : b = a
    · subst e
      rw [upd_same] at z
      cases z
      exact ⟨hφ, ⟨_, ha⟩, fun h1 h2 x k => mono h1 h2 x (fun o q => k o q)⟩
    · rw [upd_ne e] at z
      exact (I.hok b o z).stay (fun c v _ q => q) (fun c q => by rw [upd_ne (neN q)]; exact q) (fun c xs q => by rw [upd_ne (neN q)]; exact q)
end
end GL
namespace GL
open PySem PySem.Spec PyProof.Rows L2
/-- tracked anew at a: an exception of the class cls -/
def ExcAt (H : Hp) (a : Addr) (cls : Value) (d : Option Addr) (H' : Hp) : Prop := ∃ φ, H' = upd H a (.ext φ) ∧ ∀ h, φ h → ∃ oe vs, h.get? a = some oe ∧ Zc cls d oe ∧ oe.data = .fields vs
def back (i : Nat) (D : Ends) : Ends := { nx := fun τ G => D.nx (τ.set i none) G, rt := D.rt, bk := fun τ G => D.bk (τ.set i none) G, ct := fun τ G => D.ct (τ.set i none) G }
def wLast (K : PySem.W.Frag) (c : Value) (i : Nat) (ts : TS) (D : Ends) : WX := fun cls d τ G => PySem.W.exmOne K cls c = some true ∧ ∀ a G', G a = none → ExcAt G a cls d G' → ts (back i D) (τ.set i (some (.ref a))) G'
/-- a clause that isn't meant -/
def Skip (X : Cx) (cs : List Value) (hd : ExceptHandler) : Prop := ∀ (a : Addr) (pn pins : List (Addr × Obj)) (σ : L2.St) (H : Hp) (s : Shared) (cls : Value) (rest : List ExceptHandler) (Q : Flow → Shared → Prop) (E : Value → Shared → Prop),
  Inv (X.suite a pn) pins σ H s → (∃ oe, s.heap.get? a = some oe ∧ oe.cls = cls) → PySem.W.exmAny X.K cls cs = some false →
  (∀ h', (∀ b o, s.heap.get? b = some o → h'.get? b = some o) → wpAny (model X.prog X.w) X.A (handleBy (.ref a) X.env rest) Q E { s with heap := h' }) → wpAny (model X.prog X.w) X.A (handleBy (.ref a) X.env (hd :: rest)) Q E s
section
variable {X : Cx} {x n x1 x2 x3 : Str} {c c1 c2 c3 : Value} {i : Nat} {body suite : List Stmt} {b₀ : Stmt} {np pos pos' p1 p2 p3 tp : Pos} {kk : Nat} {tb : WX → TS} {ts : TS} {hd : ExceptHandler} {cs : List Value}
theorem skip3 (h1 : Names X x1 c1) (h2 : Names X x2 c2) (h3 : Names X x3 c3) : Skip X [c1, c2, c3] (.ExceptHandler (some (.Tuple [.Name x1 p1, .Name x2 p2, .Name x3 p3] kk tp)) none body pos) := by
  intro a pn pins σ H s cls rest Q E I hcl hx hq
  obtain ⟨oe, he, hc⟩ := hcl
  have name : ∀ {y : Str} {v : Value} {p : Pos} {s' : Shared} {Q : Value → Shared → Prop} {E : Value → Shared → Prop}, Names X y v → Inv (X.suite a pn) pins σ H s' → Q v s' → wpAny (model X.prog X.w) (X.A.mark (some (.ref a))) (eval (.Name y p) X.env) Q E s' := fun {y v p s' Q E} hn I q => by
    obtain ⟨hg, hdb, hm | ⟨hm, hv, hnn⟩⟩ := hn
    · exact ld_glob (X := X.suite a pn) I hg hm q hdb
    · exact ld_blt (X := X.suite a pn) I hg hm hv q hnn hdb
  have LT : PySem.W.Looks (model X.prog X.w) s.heap (typeOf (.ref a)) cls := fun A Q E s' k q => wpAny_typeOf_ref (k _ _ he) (by rw [hc]; exact q)
  refine wpAny_handleBy_cons (codeAny_handlers_test ?_) (by intro z; cases z)
  refine wpAny_Tuple (wpAny_items_cons (name h1 I ?_))
  refine wpAny_items_cons (name h2 I ?_)
  refine wpAny_items_cons (name h3 I ?_)
  refine wpAny_items_nil ⟨by size_fits, ?_⟩
  have kp : ∀ b o, s.heap.get? b = some o → (s.heap.push { cls := .type "tuple", data := .seq [c1, c2, c3].toArray }).get? b = some o := fun _ _ z => Heap.get?_push_of_some _ z
  refine (PySem.W.exm_tup3 (I.kIn.keeps kp) (LT.keeps kp) (Heap.get?_push_size s.heap rfl) hx).here ?_
  exact hq _ kp
theorem skip2 (h1 : Names X x1 c1) (h2 : Names X x2 c2) : Skip X [c1, c2] (.ExceptHandler (some (.Tuple [.Name x1 p1, .Name x2 p2] kk tp)) none body pos) := by
  intro a pn pins σ H s cls rest Q E I hcl hx hq
  obtain ⟨oe, he, hc⟩ := hcl
  have name : ∀ {y : Str} {v : Value} {p : Pos} {s' : Shared} {Q : Value → Shared → Prop} {E : Value → Shared → Prop}, Names X y v → Inv (X.suite a pn) pins σ H s' → Q v s' → wpAny (model X.prog X.w) (X.A.mark (some (.ref a))) (eval (.Name y p) X.env) Q E s' := fun {y v p s' Q E} hn I q => by
    obtain ⟨hg, hdb, hm | ⟨hm, hv, hnn⟩⟩ := hn
    · exact ld_glob (X := X.suite a pn) I hg hm q hdb
    · exact ld_blt (X := X.suite a pn) I hg hm hv q hnn hdb
  have LT : PySem.W.Looks (model X.prog X.w) s.heap (typeOf (.ref a)) cls := fun A Q E s' k q => wpAny_typeOf_ref (k _ _ he) (by rw [hc]; exact q)
  refine wpAny_handleBy_cons (codeAny_handlers_test ?_) (by intro z; cases z)
  refine wpAny_Tuple (wpAny_items_cons (name h1 I ?_))
  refine wpAny_items_cons (name h2 I ?_)
  refine wpAny_items_nil ⟨by size_fits, ?_⟩
  have kp : ∀ b o, s.heap.get? b = some o → (s.heap.push { cls := .type "tuple", data := .seq [c1, c2].toArray }).get? b = some o := fun _ _ z => Heap.get?_push_of_some _ z
  refine (PySem.W.exm_tup2 (I.kIn.keeps kp) (LT.keeps kp) (Heap.get?_push_size s.heap rfl) hx).here ?_
  exact hq _ kp
/-- the last clause, which is meant -/
theorem catch_last {pins : List (Addr × Obj)} {σ : L2.St} {H : Hp} {sI s' : Shared} {B : Heap} {a : Addr} {cls : Value} {d : Option Addr} {D : Ends} (hN : X.N.Nodup) (hi : X.N[i]? = some n) (hln : X.env.kindOf n = some .local) (hc : Names X x c)
    (hsu : ∀ (a : Addr) (pn : List (Addr × Obj)), PSs (X.suite a pn) (b₀ :: suite) ts) (J : Inv X pins σ H sI) (nb : ∀ b o, sI.heap.get? b = some o → b ∉ frs X.stack → B.get? b = some o) (up : sI.heap.UpToSlots s'.heap) (fl : HandSPX.FlyingZ B X.stack a (Zc cls d) s'.heap)
    (na : H a = none) (os : s'.os = sI.os) (ag : AllBare s'.gens) (nL : a ≠ X.env.locals) (nF : a ∉ X.fs) (nS : a ∉ frs X.stack) (w : wLast X.K c i ts D cls d σ H) :
    wpAny (model X.prog X.w) X.A (handleBy (.ref a) X.env [.ExceptHandler (some (.Name x np)) (some n) (b₀ :: suite) pos']) (SP X pins D) X.xe s' := by
  have ok := J.ok
  have nB : B.get? a = none := fl.2.1
  have nI : sI.heap.get? a = none := by
    cases e : sI.heap.get? a with
    | none => rfl
    | some o => rw [nb a o e nS] at nB; cases nB
  have K3 : Inv X pins σ H s' := J.landed nb fl.1 up os ag
  obtain ⟨oe, vs, he, hz, hd⟩ := fl.there
  have S3 := K3.suite he hd na nL nF
  obtain ⟨hb1, hw⟩ := w
  refine wpAny_handleBy_cons (codeAny_handlers_test ?_) (by intro z; cases z)
  have LT : PySem.W.Looks (model X.prog X.w) s'.heap (typeOf (.ref a)) cls := fun A Q E s k q => wpAny_typeOf_ref (k _ _ he) (by rw [hz.1]; exact q)
  have LM := PySem.W.exm_one (M := model X.prog X.w) K3.kIn LT hb1
  have tst : ∀ {Q : Value → Shared → Prop} {E : Value → Shared → Prop}, Q c s' → wpAny (model X.prog X.w) (X.A.mark (some (.ref a))) (eval (.Name x np) X.env) Q E s' := fun {Q E} q => by
    obtain ⟨hg, hdb, hm | ⟨hm, hv, hnn⟩⟩ := hc
    · exact ld_glob (X := X.suite a ((a, oe) :: (X.pn ++ pins))) S3 hg hm q hdb
    · exact ld_blt (X := X.suite a ((a, oe) :: (X.pn ++ pins))) S3 hg hm hv q hnn hdb
  refine tst (LM.here ?_)
  refine codeAny_handlers_suite_as ?_
  refine HandSPX.lands_againZ fl fun h4 fl4 up4 => ?_
  have K4 : Inv X pins σ H { s' with heap := h4 } := J.landed nb fl4.1 (up.trans up4) os ag
  obtain ⟨oe4, vs4, he4, hz4, hd4⟩ := fl4.there
  have S4 := K4.suite he4 hd4 na nL nF
  refine store_ok (X := X.suite a ((a, oe4) :: (X.pn ++ pins))) (v := .ref a) S4 hN hi (.inl hln) rfl (fun s5 S5 => ?_) (.inr hln)
  have T5 := Inv.track (φ := fun h => h.get? a = some oe4) ok S5 hd4 (S5.pin (a, oe4) (List.mem_append_left _ List.mem_cons_self)).1 (fun h1 h2 z k => k _ z)
    (fun o z n hx => by have q := J.base.keep a o z n nF hx; rw [nI] at q; cases q) (fun q hq e => by
      have z := (J.pin q hq).1
      rw [e, nI] at z; cases z)
  refine wpAny_mono ((hsu a (X.pn ++ pins)).run [] s5 _ _ (back i D) T5 (hw a _ na ⟨_, rfl, fun h z => ⟨oe4, vs4, z, hz4, hd4⟩⟩)) (fun f s6 hsp => ?_) (fun _ _ z => False.elim z)
  have fin : ∀ {τ : L2.St} {G : Hp} {Q : Shared → Prop}, Inv (X.suite a (X.pn ++ pins)) [] τ G s6 → (∀ s7, Inv X pins (τ.set i none) G s7 → Q s7) →
      wpAny (model X.prog X.w) X.A (do bindName X.env n .none; unbindBehindTheSuite X.env n pos') (fun _ s7 => Q s7) X.xe s6 := fun {τ G Q} S6 hq =>
    gone_ok (X := X) (pins := pins) ⟨ok, S6.os, S6.bare, S6.base, S6.loc, S6.cell, S6.free, S6.freeC, fun p hp => S6.pin p (List.mem_append_left _ hp), S6.hok, S6.len⟩ hN hi hln hq
  cases f with
  | next =>
    obtain ⟨τ, G, S6, q6⟩ := hsp
    exact fin S6 fun s7 J7 => ⟨_, G, J7, q6⟩
  | brk =>
    obtain ⟨τ, G, S6, q6⟩ := hsp
    exact fin S6 fun s7 J7 => ⟨_, G, J7, q6⟩
  | cont =>
    obtain ⟨τ, G, S6, q6⟩ := hsp
    exact fin S6 fun s7 J7 => ⟨_, G, J7, q6⟩
  | ret u =>
    obtain ⟨v6, τ, G, S6, r6, q6⟩ := hsp
    exact fin S6 fun s7 J7 => ⟨v6, _, G, J7, r6, q6⟩
/-- try: body; except (..): ..; except x as n: suite -/
theorem ps_tryL {hds : List ExceptHandler} {css : List (List Value)} (hs : X.stack = X.env :: X.outer) (hf : X.env.frame = some X.env.locals) (hN : X.N.Nodup) (hi : X.N[i]? = some n) (hln : X.env.kindOf n = some .local) (hc : Names X x c)
    (hb : ∀ (W : WX) (pn : List (Addr × Obj)) (xe : Value → Shared → Prop), Takes (X.tr pn xe) W → PassesOwn (model X.prog X.w) X.A X.env xe → PSs (X.tr pn xe) body (tb W))
    (hk : Paired (Skip X) css hds) (hsu : ∀ (a : Addr) (pn : List (Addr × Obj)), PSs (X.suite a pn) (b₀ :: suite) ts) (hne : ∃ h₀ r, hds ++ [.ExceptHandler (some (.Name x np)) (some n) (b₀ :: suite) pos'] = h₀ :: r) :
    PS X (.Try body (hds ++ [.ExceptHandler (some (.Name x np)) (some n) (b₀ :: suite) pos']) [] [] pos)
      (fun D σ H => tb (fun cls d τ G => (∀ cs, cs ∈ css → PySem.W.exmAny X.K cls cs = some false) ∧ wLast X.K c i ts D cls d τ G) D σ H) := by
  refine ⟨fun pins s σ H D I h => ?_⟩
  have ok := I.ok
  have hfr : X.A.frames = some (X.env :: X.outer) := by rw [ok.frames, hs]
  generalize hL : hds ++ [.ExceptHandler (some (.Name x np)) (some n) (b₀ :: suite) pos'] = L at hne ⊢
  obtain ⟨h₀, r0, rfl⟩ := hne
  refine wpAny_Try_except ?_
  refine wpAny_mono ((hb (fun cls d τ G => (∀ cs, cs ∈ css → PySem.W.exmAny X.K cls cs = some false) ∧ wLast X.K c i ts D cls d τ G) (X.pn ++ pins) (fun e s₁ => wpAny (model X.prog X.w) X.A (noteFrame e X.env) (fun _ s₂ =>
    wpAny (model X.prog X.w) X.A (setFlight e none) (fun _ s₃ => wpAny (model X.prog X.w) X.A (handleBy e X.env (h₀ :: r0)) (SP X pins D) X.xe s₃) X.xe s₂) X.xe s₁) (fun u s' xx => ?_) PassesOwn.looking).run [] s σ H D (I.toTry _) h) (fun f s1 hsp => ?_) (fun e s1 he => he)
  · obtain ⟨a, B, sI, pins', σ', H', cls, d, rfl, J', nb, up, sky, na, os, ag, hsk, w⟩ := xx
    have J : Inv X pins σ' H' sI := J'.ofTry ok
    have sky2 : Sky B (X.env :: X.outer) a (Zc cls d) X.env.locals s'.heap := by rw [← hs]; exact sky
    show wpAny (model X.prog X.w) X.A (noteFrame (.ref a) X.env) _ _ _
    refine Sky.land Zc.steady hfr hf sky2 fun h3 fl3 up3 => ?_
    rw [← hs] at fl3
    obtain ⟨oe3, vs3, he3, hz3, hd3⟩ := fl3.there
    have nS : a ∉ frs X.stack := fun hm => by
      obtain ⟨_, o', e', hnf⟩ := fl3.2.2.1.mem hm
      rw [he3] at e'; cases e'
      exact hnf _ hd3
    have nL : a ≠ X.env.locals := fun z => nS (List.mem_filterMap.mpr ⟨X.env, by rw [hs]; exact List.mem_cons_self, by rw [hf, z]⟩)
    have nF : a ∉ X.fs := fun hm => by
      obtain ⟨e, hx, q⟩ := List.mem_filterMap.mp hm
      exact nS (List.mem_filterMap.mpr ⟨e, by rw [hs]; exact List.mem_cons_of_mem _ hx, q⟩)
    rw [← hL]
    clear hL hb
    have go : ∀ (h3 : Heap), HandSPX.FlyingZ B X.stack a (Zc cls d) h3 → sI.heap.UpToSlots h3 → wpAny (model X.prog X.w) X.A (handleBy (.ref a) X.env (hds ++ [.ExceptHandler (some (.Name x np)) (some n) (b₀ :: suite) pos'])) (SP X pins D) X.xe { s' with heap := h3 } := by
      clear h3 fl3 up3 oe3 vs3 he3 hz3 hd3 h
      induction hk with
      | nil => exact fun h3 fl up => catch_last (s' := { s' with heap := h3 }) hN hi hln hc hsu J nb up fl na os ag nL nF nS w
      | @cons cs0 hd0 css0 hds0 hk0 hkr ih =>
        intro h3 fl up3
        obtain ⟨oe, vs, he, hz, hd⟩ := fl.there
        have K3 : Inv X pins σ' H' { s' with heap := h3 } := J.landed nb fl.1 up3 os ag
        refine hk0 a _ [] σ' H' { s' with heap := h3 } cls _ _ _ (K3.suite he hd na nL nF) ⟨oe, he, hz.1⟩ (hsk _ List.mem_cons_self) fun h' kp => ?_
        exact ih (fun cs m => hsk cs (List.mem_cons_of_mem _ m)) h' (fly_more fl kp) (up3.trans (Heap.UpToSlots.of_keeps kp))
    exact go h3 fl3 (up.trans up3)
  · cases f with
    | next =>
      obtain ⟨τ, G, J, q⟩ := hsp
      exact wpAny_execs_nil ⟨τ, G, J.ofTry ok, q⟩
    | brk =>
      obtain ⟨τ, G, J, q⟩ := hsp
      exact ⟨τ, G, J.ofTry ok, q⟩
    | cont =>
      obtain ⟨τ, G, J, q⟩ := hsp
      exact ⟨τ, G, J.ofTry ok, q⟩
    | ret u =>
      obtain ⟨v, τ, G, J, r, q⟩ := hsp
      exact ⟨v, τ, G, J.ofTry ok, r, q⟩
end
end GL
/-! repr of data with dicts; raise of a made exception; what __init__ does. -/
namespace GL
open PySem PySem.Spec PyProof.Rows L2
def kD : Key → PyData
  | .inl i => .int i
  | .inr x => .str x
mutual
/-- data of any depth, all of it tracked -/
inductive Dq (H : Hp) : V → PyData → Prop
  | non : Dq H .non .none
  | bl (b : Bool) : Dq H (.bl b) (.bool b)
  | int (i : Int) : Dq H (.int i) (.int i)
  | str (x : Str) : Dq H (.str x) (.str x)
  | lst {a : Addr} {xs : List V} {ds : List PyData} : H a = some (.lst xs) → DqA H xs ds → Dq H (.ref a) (.list ds)
  | tup {a : Addr} {xs : List V} {ds : List PyData} : H a = some (.tup xs) → DqA H xs ds → Dq H (.ref a) (.tuple ds)
  | dic {a : Addr} {kvs : List (Key × V)} {ps : List (PyData × PyData)} : H a = some (.dK kvs) → ps.map (·.1) = kvs.map (fun p => kD p.1) → DqA H (kvs.map (·.2)) (ps.map (·.2)) → Dq H (.ref a) (.dict ps)
inductive DqA (H : Hp) : List V → List PyData → Prop
  | nil : DqA H [] []
  | cons {v : V} {vs : List V} {d : PyData} {ds : List PyData} : Dq H v d → DqA H vs ds → DqA H (v :: vs) (d :: ds)
end
structure Mono (H H' : Hp) : Prop where
  l : ∀ a xs, H a = some (.lst xs) → H' a = some (.lst xs)
  t : ∀ a xs, H a = some (.tup xs) → H' a = some (.tup xs)
  d : ∀ a xs, H a = some (.dK xs) → H' a = some (.dK xs)
theorem Ex.mono {H H' : Hp} (e : Ex H H') : Mono H H' := ⟨fun a _ h => e a _ h, fun a _ h => e a _ h, fun a _ h => e a _ h⟩
mutual
theorem Dq.mono {H H' : Hp} (k : Mono H H') : ∀ (d : PyData) (v : V), Dq H v d → Dq H' v d
  | .none, _, h => by cases h; exact .non
  | .bool b, _, h => by cases h; exact .bl b
  | .int i, _, h => by cases h; exact .int i
  | .str x, _, h => by cases h; exact .str x
  | .list ds, _, h => by
    cases h with
    | @lst a xs _ h1 h2 => exact .lst (k.l _ _ h1) (DqA.mono k ds xs h2)
  | .tuple ds, _, h => by
    cases h with
    | @tup a xs _ h1 h2 => exact .tup (k.t _ _ h1) (DqA.mono k ds xs h2)
  | .dict ps, _, h => by
    cases h with
    | @dic a kvs _ h1 h2 h3 => exact .dic (k.d _ _ h1) h2 (DqA.mono2 k ps _ h3)
theorem DqA.mono {H H' : Hp} (k : Mono H H') : ∀ (ds : List PyData) (vs : List V), DqA H vs ds → DqA H' vs ds
  | [], _, h => by cases h; exact .nil
  | d :: ds, _, h => by
    cases h with
    | cons h1 h2 => exact .cons (Dq.mono k d _ h1) (DqA.mono k ds _ h2)
theorem DqA.mono2 {H H' : Hp} (k : Mono H H') : ∀ (ps : List (PyData × PyData)) (vs : List V), DqA H vs (ps.map (·.2)) → DqA H' vs (ps.map (·.2))
  | [], _, h => by cases h; exact .nil
  | p :: ps, _, h => by
    cases h with
    | cons h1 h2 => exact .cons (Dq.mono k p.2 _ h1) (DqA.mono2 k ps _ h2)
end
section
variable {X : Cx} {pins : List (Addr × Obj)} {σ : L2.St} {H : Hp} {s : Shared}
theorem not_sm (sb : SmB X.base) (I : Inv X pins σ H s) {a : Addr} {o : HO} (h : H a = some o) : a ≠ sysModules := fun e => by
  obtain ⟨ob, hb⟩ := sb
  have q := (I.bs _ _ hb).2
  rw [← e, h] at q; cases q
theorem keys_read {h : Heap} {P : Program} {w : World} : ∀ {es : List DictEntry} {vs : List (Key × Value)}, Pairs (mixKind P w) es vs → ReadsAll h (es.map (·.key)) (vs.map fun p => kD p.1) ((es.map fun _ => ([] : List Addr)).flatten)
  | _, _, .nil => .nil
  | _, _, .cons (e := e) (kv := kv) (es := es) (kvs := vs) h1 h2 h3 => by
    have ih := keys_read (h := h) h3
    have hk : Reads h e.key (kD kv.1) [] := by
      rcases keyIs_shape h1 with ⟨i, t, e1, e2⟩ | ⟨x, t, e1, e2⟩
      · rw [e1, e2]; exact .int i t
      · rw [e1, e2]; exact .str x t
    exact ReadsAll.cons hk ih
theorem vals_of_pairs {P : Program} {w : World} : ∀ {es : List DictEntry} {vs : List (Key × Value)}, Pairs (mixKind P w) es vs → es.map (·.val) = vs.map (·.2)
  | _, _, .nil => rfl
  | _, _, .cons h1 h2 h3 => by
    simp only [List.map_cons]
    rw [h2, vals_of_pairs h3]
theorem nil_flat {α β : Type} (l : List α) : (l.map fun _ => ([] : List β)).flatten = [] := by induction l with
  | nil => rfl
  | cons a r ih => simpa using ih
theorem kv_keys : ∀ {kvs : List (Key × V)} {vs : List (Key × Value)}, KV kvs vs → kvs.map (fun p => kD p.1) = vs.map (fun p => kD p.1)
  | _, _, .nil => rfl
  | _, _, .cons h1 h2 => by
    simp only [List.map_cons]
    rw [h1.1, kv_keys h2]
theorem kv_vals : ∀ {kvs : List (Key × V)} {vs : List (Key × Value)}, KV kvs vs → Vals (kvs.map (·.2)) (vs.map (·.2))
  | _, _, .nil => .nil
  | _, _, .cons h1 h2 => .cons h1.2 (kv_vals h2)
mutual
theorem Dq.reads (sb : SmB X.base) (I : Inv X pins σ H s) : ∀ (d : PyData) (v : V) (u : Value), Dq H v d → RelV v u → ∃ as, Reads s.heap u d as ∧ sysModules ∉ as
  | .none, _, _, h, r => by cases h; cases r; exact ⟨_, Reads.none, by simp⟩
  | .bool b, _, _, h, r => by cases h; cases r; exact ⟨_, Reads.bool b, by simp⟩
  | .int i, _, _, h, r => by cases h; obtain ⟨t, rfl⟩ := r; exact ⟨_, Reads.int i t, by simp⟩
  | .str x, _, _, h, r => by cases h; obtain ⟨t, rfl⟩ := r; exact ⟨_, Reads.str x t, by simp⟩
  | .list ds, _, _, h, r => by
    cases h with
    | @lst a xs _ h1 h2 =>
      cases r
      obtain ⟨its, rv, ⟨o, n, ho, hc, _, hd⟩, _⟩ := I.list (SqL.of h1)
      obtain ⟨as, hr, hn⟩ := DqA.reads sb I ds _ its h2 rv
      exact ⟨_, Reads.list ho hc hd hr, fun m => by
        rcases List.mem_cons.mp m with e | m
        · exact not_sm sb I h1 e.symm
        · exact hn m⟩
  | .tuple ds, _, _, h, r => by
    cases h with
    | @tup a xs _ h1 h2 =>
      cases r
      obtain ⟨its, rv, ⟨o, ho, hc, n, hd⟩, _⟩ := I.tuple (SqT.of h1)
      obtain ⟨as, hr, hn⟩ := DqA.reads sb I ds _ its h2 rv
      exact ⟨_, Reads.tuple ho hc hd hr, hn⟩
  | .dict ps, _, _, h, r => by
    cases h with
    | @dic a kvs _ h1 h2 h3 =>
      cases r
      have hO : ObjOk X.prog X.w H s.heap a (.dK kvs) := I.hok a _ h1
      obtain ⟨_, _, vs, rel, o, es, ep, ho, hx, hd, hk, hp, hnd⟩ := hO
      obtain ⟨bs, hr, hn⟩ := DqA.reads2 sb I ps _ (vs.map (·.2)) h3 (kv_vals rel)
      have e1 := keys_read (h := s.heap) hp
      rw [nil_flat, ← kv_keys rel, ← h2] at e1
      rw [← vals_of_pairs hp] at hr
      exact ⟨_, Reads.dict ho hx.1 hd e1 hr, fun m => by
        rcases List.mem_append.mp m with m | m
        · rcases List.mem_cons.mp m with e | m
          · exact not_sm sb I h1 e.symm
          · cases m
        · exact hn m⟩
theorem DqA.reads (sb : SmB X.base) (I : Inv X pins σ H s) : ∀ (ds : List PyData) (vs : List V) (us : List Value), DqA H vs ds → Vals vs us → ∃ as, ReadsAll s.heap us ds as ∧ sysModules ∉ as
  | [], _, _, h, r => by cases h; cases r; exact ⟨_, ReadsAll.nil, by simp⟩
  | d :: ds, _, _, h, r => by
    cases h with
    | cons h1 h2 =>
      cases r with
      | cons r1 r2 =>
        obtain ⟨as, q1, n1⟩ := Dq.reads sb I d _ _ h1 r1
        obtain ⟨bs, q2, n2⟩ := DqA.reads sb I ds _ _ h2 r2
        exact ⟨_, ReadsAll.cons q1 q2, fun m => (List.mem_append.mp m).elim n1 n2⟩
theorem DqA.reads2 (sb : SmB X.base) (I : Inv X pins σ H s) : ∀ (ps : List (PyData × PyData)) (vs : List V) (us : List Value), DqA H vs (ps.map (·.2)) → Vals vs us → ∃ as, ReadsAll s.heap us (ps.map (·.2)) as ∧ sysModules ∉ as
  | [], _, _, h, r => by cases h; cases r; exact ⟨_, ReadsAll.nil, by simp⟩
  | p :: ps, _, _, h, r => by
    cases h with
    | cons h1 h2 =>
      cases r with
      | cons r1 r2 =>
        obtain ⟨as, q1, n1⟩ := Dq.reads sb I p.2 _ _ h1 r1
        obtain ⟨bs, q2, n2⟩ := DqA.reads2 sb I ps _ _ h2 r2
        exact ⟨_, ReadsAll.cons q1 q2, fun m => (List.mem_append.mp m).elim n1 n2⟩
end
/-- data that repr shows -/
structure Da (H : Hp) (v : V) (d : PyData) : Prop where
  q : Dq H v d
  s : d.showable = true
  l : d.leavesShort 100 = true
  z : d.depth ≤ 30
  w : d.weight ≤ 100000
/-- .. with its bounds -/
structure Dz (H : Hp) (v : V) (d : PyData) (Z W : Nat) : Prop where
  q : Dq H v d
  s : d.showable = true
  l : d.leavesShort 100 = true
  z : d.depth ≤ Z
  w : d.weight ≤ W
structure DzA (H : Hp) (vs : List V) (ds : List PyData) (Z W : Nat) : Prop where
  q : DqA H vs ds
  s : PyData.showableAll ds = true
  l : PyData.leavesShortAll 100 ds = true
  z : PyData.depthAll ds ≤ Z
  w : PyData.weightAll ds ≤ W
theorem Dz.da {H : Hp} {v : V} {d : PyData} {Z W : Nat} (h : Dz H v d Z W) (hZ : Z ≤ 30) (hW : W ≤ 100000) : Da H v d := ⟨h.q, h.s, h.l, Nat.le_trans h.z hZ, Nat.le_trans h.w hW⟩
theorem Dz.ex {H H' : Hp} {v : V} {d : PyData} {Z W : Nat} (e : Ex H H') (h : Dz H v d Z W) : Dz H' v d Z W := ⟨Dq.mono e.mono d v h.q, h.s, h.l, h.z, h.w⟩
theorem Dz.le {H : Hp} {v : V} {d : PyData} {Z W Z' W' : Nat} (h : Dz H v d Z W) (hZ : Z ≤ Z') (hW : W ≤ W') : Dz H v d Z' W' := ⟨h.q, h.s, h.l, Nat.le_trans h.z hZ, Nat.le_trans h.w hW⟩
theorem DzA.nil {H : Hp} : DzA H [] [] 0 0 := ⟨.nil, rfl, rfl, Nat.le_refl _, Nat.le_refl _⟩
theorem DzA.cons {H : Hp} {v : V} {d : PyData} {vs : List V} {ds : List PyData} {Z W Z' W' : Nat} (h : Dz H v d Z W) (r : DzA H vs ds Z' W') : DzA H (v :: vs) (d :: ds) (max Z Z') (W + 1 + W') :=
  ⟨.cons h.q r.q, by simp only [PyData.showableAll, h.s, r.s]; rfl, by simp only [PyData.leavesShortAll, h.l, r.l]; rfl, by
    have h1 := h.z
    have h2 := r.z
    simp only [PyData.depthAll]; omega, by
    have h1 := h.w
    have h2 := r.w
    simp only [PyData.weightAll]; omega⟩
theorem Dz.lst {H : Hp} {a : Addr} {xs : List V} {ds : List PyData} {Z W : Nat} (g : H a = some (.lst xs)) (h : DzA H xs ds Z W) : Dz H (.ref a) (.list ds) (Z + 1) W :=
  ⟨.lst g h.q, by simp only [PyData.showable]; exact h.s, by simp only [PyData.leavesShort]; exact h.l, by have := h.z; simp only [PyData.depth]; omega, by have := h.w; simp only [PyData.weight]; omega⟩
theorem Dz.tup {H : Hp} {a : Addr} {xs : List V} {ds : List PyData} {Z W : Nat} (g : H a = some (.tup xs)) (h : DzA H xs ds Z W) : Dz H (.ref a) (.tuple ds) (Z + 1) W :=
  ⟨.tup g h.q, by simp only [PyData.showable]; exact h.s, by simp only [PyData.leavesShort]; exact h.l, by have := h.z; simp only [PyData.depth]; omega, by have := h.w; simp only [PyData.weight]; omega⟩
theorem Dz.dic0 {H : Hp} {a : Addr} (g : H a = some (.dK [])) : Dz H (.ref a) (.dict []) 1 0 := ⟨.dic (ps := []) g rfl .nil, rfl, rfl, by decide, by decide⟩
theorem Dz.dic1 {H : Hp} {a : Addr} {x : Str} {v : V} {d : PyData} {Z W : Nat} (g : H a = some (.dK [(.inr x, v)])) (hx : (PyData.str x).leavesShort 100 = true) (h : Dz H v d Z W) : Dz H (.ref a) (.dict [(.str x, d)]) (Z + 1) (x.length + W + 2) :=
  ⟨.dic (ps := [(.str x, d)]) g rfl (.cons h.q .nil), by simp only [PyData.showable, PyData.showableKv, h.s]; rfl, by simp only [PyData.leavesShort, PyData.leavesShortKv, h.l] at hx ⊢; rw [hx]; rfl, by
    have := h.z
    simp only [PyData.depth, PyData.depthKv]; omega, by
    have := h.w
    have e : x.length = x.cps.size := rfl
    simp only [PyData.weight, PyData.weightKv]; omega⟩
theorem Dz.non {H : Hp} : Dz H .non .none 0 0 := ⟨.non, rfl, rfl, by decide, by decide⟩
theorem Dz.bl {H : Hp} {b : Bool} : Dz H (.bl b) (.bool b) 0 0 := ⟨.bl b, rfl, rfl, by simp [PyData.depth], by simp [PyData.weight]⟩
theorem Dz.int {H : Hp} {i : Int} (h : i.natAbs < 10 ^ 60) : Dz H (.int i) (.int i) 0 300 := by
  have h2 : i.natAbs.log2 < 200 := by
    by_cases h0 : i.natAbs = 0
    · rw [h0]; decide
    · exact (Nat.log2_lt h0).mpr (Nat.lt_trans h (by decide))
  refine ⟨.int i, ?_, ?_, by simp [PyData.depth], ?_⟩
  · simp only [PyData.showable, decide_eq_true_eq]; omega
  · have e := int_text_length_le10 (k := 60) (by decide) h
    simp only [PyData.leavesShort, decide_eq_true_eq]
    show (Str.ofString (toString i)).length ≤ 100
    rw [PySem.ofString_length]; omega
  · simp only [PyData.weight]
    split <;> omega
theorem Dz.str {H : Hp} {s : String} : Dz H (.str (Str.ofString s)) (.str (Str.ofString s)) 0 (Str.ofString s).length := by
  refine ⟨.str _, rfl, ?_, by simp [PyData.depth], Nat.le_refl _⟩
  simp only [PyData.leavesShort, List.all_eq_true, decide_eq_true_eq]
  intro c hc
  rw [PyProof.Rows.signs_ofString] at hc
  obtain ⟨ch, _, rfl⟩ := List.mem_map.mp hc
  have := ch.valid
  have h2 : ch.toNat < 0x110000 := by
    rcases this with h | h
    · exact Nat.lt_trans h (by decide)
    · exact h.2
  exact Nat.lt_trans h2 (by decide)
def rReprQ : List V → Hp → VK → Prop := fun xs H Q => ∃ (v : V) (d : PyData), xs = [v] ∧ Da H v d ∧ Q (.str d.shown) H
theorem call_reprQ (sb : SmB X.base) (gd : X.A.guards = some []) {j : Nat} (rm : Room j X.A) : CallR X (.builtin "repr") rReprQ := by
  intro pins s σ H xs us Q I r h
  obtain ⟨v, d, rfl, hd, q⟩ := h
  cases r with
  | cons rv rn =>
    rename_i u us
    cases rn
    have hu := rm.units
    have hz := hd.z
    obtain ⟨as, rd, nm⟩ := Dq.reads sb I d v u hd.q rv
    have hl : d.shown.length ≤ sizeLine := by
      have h1 := PyData.shown_le 100 (by decide) d hd.l
      have h2 : (100 + 2) * d.weight ≤ 102 * 100000 := Nat.mul_le_mul (Nat.le_refl _) hd.w
      rw [sizeLine_eq]
      omega
    have fin : ∀ (h' : Heap) (u' tk : Tok), (∀ b o, s.heap.get? b = some o → h'.get? b = some o) → EP X pins σ Q (.str d.shown u') { s with heap := h', toks := tk } :=
      fun h' u' tk kk => ⟨.str d.shown, H, I.kept (t' := tk) kk, ⟨u', rfl⟩, q⟩
    have hs := hd.s
    have h1 := hd.q
    cases h1 with
    | non => cases rv; exact P.repr_of_none (fin s.heap _ _ fun _ _ z => z)
    | bl b => cases rv; exact P.repr_of_bool (fin s.heap _ _ fun _ _ z => z)
    | int i => obtain ⟨t, rfl⟩ := rv; exact P.repr_of_int (by simpa [PyData.showable] using hs) (fin s.heap _ _ fun _ _ z => z)
    | str y => obtain ⟨t, rfl⟩ := rv; exact P.repr_of_str (fin s.heap _ _ fun _ _ z => z) hl
    | lst h1 h2 => cases rv; exact repr_of_reads' rd hs (fun _ => nm) gd (by omega) (fun _ _ z => z) fin hl
    | tup h1 h2 => cases rv; exact repr_of_reads' rd hs (fun _ => nm) gd (by omega) (fun _ _ z => z) fin hl
    | dic h1 h2 h3 => cases rv; exact repr_of_reads' rd hs (fun _ => nm) gd (by omega) (fun _ _ z => z) fin hl
end
end GL
namespace GL
open PySem PySem.Spec PyProof.Rows L2
open L2H (RoomH roomH_of)
/-! raise of an exception that was made -/
section
variable {X : Cx} {e : Expr} {te : TE} {W : WX} {pos : Pos}
theorem pmk_val (hx : X.ex = []) (he : PE X e te) : PMk X e (fun σ H Q => te σ H fun x H1 => ∃ (a C : Addr) (d : Option Addr), x = .ref a ∧ H1 a = some (exo a C d) ∧ X.H_0 a = none ∧ Raises X (.ref C) ∧ Q (.ref C) d (delH H1 a)) := by
  intro pins s σ H Q I h
  refine wpAny_mono (he.run pins s σ H _ I h) (fun u s1 hu => ?_) fun _ _ z => z
  obtain ⟨v, H1, I1, r1, a, C, d, rfl, ha, h0, hr, q⟩ := hu
  cases r1
  obtain ⟨t1, ho⟩ := exo_at I1.hok ha
  obtain ⟨G, gs, ga, J⟩ := I1.untrack (a := a) ha (fr0_none h0) hx
  exact ⟨a, _, _, { s1 with heap := G }, delH H1 a, .ref C, d, rfl, J, gs, ga, ho, ⟨rfl, rfl⟩, rfl, rfl, delH_same, rfl, I1.bare, hr, q⟩
def tRaiseV (X : Cx) (W : WX) (te : TE) : TS := fun _ σ H => te σ H fun x H1 => ∃ (a C : Addr) (d : Option Addr), x = .ref a ∧ H1 a = some (exo a C d) ∧ X.H_0 a = none ∧ Raises X (.ref C) ∧ W (.ref C) d σ (delH H1 a)
theorem ps_raiseV (hc : X.calm = true) (hx : X.ex = []) (tk : Takes X W) (he : PE X e te) : PS X (.Raise (some e) none pos) (tRaiseV X W te) := ps_raise hc tk (pmk_val hx he)
end
/-! what __init__ does -/
/-- a fresh exception, its fields stored -/
def Eo (H : Hp) (a C : Addr) (fs : List (Str × V)) : Prop := ∃ dd, dd ≠ a ∧ H a = some (exo a C (some dd)) ∧ H dd = some (exd dd fs)
theorem Eo.ef {H : Hp} {a C : Addr} {fs : List (Str × V)} (h : Eo H a C fs) : Ef H a C fs := by obtain ⟨dd, _, h1, h2⟩ := h; exact ⟨some dd, Ed.of h1 h2⟩
theorem Eo.ex {H H' : Hp} {a C : Addr} {fs : List (Str × V)} (e : Ex H H') (h : Eo H a C fs) : Eo H' a C fs := by obtain ⟨dd, h0, h1, h2⟩ := h; exact ⟨dd, h0, e _ _ h1, e _ _ h2⟩
def spI1 (C : Addr) (f : Str) : Sp := fun vs H Q _ => ∃ a x, vs = [.ref a, x] ∧ H a = some (exo a C none) ∧ ∀ dx, H dx = none → dx ≠ a → Q .non (upd (upd H dx (exd dx [(f, x)])) a (exo a C (some dx)))
def spI2 (C : Addr) (f g : Str) : Sp := fun vs H Q _ => ∃ a x y, vs = [.ref a, x, y] ∧ H a = some (exo a C none) ∧ ∀ dx, H dx = none → dx ≠ a → Q .non (upd (upd (upd H dx (exd dx [(f, x)])) a (exo a C (some dx))) dx (exd dx [(g, y), (f, x)]))
def spC1 (C : Addr) (f : Str) : Sp := fun vs H Q _ => ∃ x, vs = [x] ∧ ∀ a H', H a = none → Ex H H' → Eo H' a C [(f, x)] → Q (.ref a) H'
def spC2 (C : Addr) (f g : Str) : Sp := fun vs H Q _ => ∃ x y, vs = [x, y] ∧ ∀ a H', H a = none → Ex H H' → Eo H' a C [(g, y), (f, x)] → Q (.ref a) H'
theorem inits1 {C : Addr} {f : Str} : Inits C (spI1 C f) (spC1 C f) := by
  rintro vs H Q a ha ⟨x, rfl, q⟩
  refine ⟨by show 1 ≤ 1000; omega, a, x, rfl, upd_same, fun dx hd hne => ⟨rfl, q a _ ha (fun b o hb => ?_) ⟨dx, hne, upd_same, ?_⟩⟩⟩
  · have n1 : b ≠ a := fun e => by rw [e, ha] at hb; cases hb
    have n2 : b ≠ dx := fun e => by rw [e] at hb; rw [upd_ne hne, hb] at hd; cases hd
    rw [upd_ne n1, upd_ne n2, upd_ne n1]; exact hb
  · rw [upd_ne hne, upd_same]
theorem inits2 {C : Addr} {f g : Str} : Inits C (spI2 C f g) (spC2 C f g) := by
  rintro vs H Q a ha ⟨x, y, rfl, q⟩
  refine ⟨by show 2 ≤ 1000; omega, a, x, y, rfl, upd_same, fun dx hd hne => ⟨rfl, q a _ ha (fun b o hb => ?_) ⟨dx, hne, ?_, upd_same⟩⟩⟩
  · have n1 : b ≠ a := fun e => by rw [e, ha] at hb; cases hb
    have n2 : b ≠ dx := fun e => by rw [e] at hb; rw [upd_ne hne, hb] at hd; cases hd
    rw [upd_ne n2, upd_ne n1, upd_ne n2, upd_ne n1]; exact hb
  · rw [upd_ne hne.symm, upd_same]
/-! defs that raise nothing, called anywhere -/
structure FnQ (pg : Program) (w : World) (K : PySem.W.Frag) (mg : Str → Option Value) (bs : Heap) (cx : CXT) (k : Nat) (f : Addr) (fd : FuncData) (ps : List Str) (sp : Sp) : Prop where
  len : ∀ vs H Q E, sp vs H Q E → vs.length = ps.length
  run : ∀ (A : Around) (out : List Env) (s : Shared) (H : Hp) (ar : Args) (us : List Value) (vs : List V) (Q : VK) (E : XK),
    RoomH k A → Env0 pg w K mg bs A out s H → BindsTo s fd ar (ps.zip us) → Vals vs us → sp vs H Q E → codeAny (model pg w) A (.call (.ref f) ar) (CR cx out pg w H s Q E) s
section
variable {pg : Program} {w : World} {K : PySem.W.Frag} {mg : Str → Option Value} {bs : Heap}
theorem FnQ.cold {cx : CXT} {k : Nat} {f : Addr} {fd : FuncData} {ps : List Str} {sp : Sp} (F : FnQ pg w K mg bs cx k f fd ps sp) : FnG pg w K mg bs cx k f fd ps sp :=
  ⟨F.len, fun A out s H ar us vs Q E _ rm => F.run A out s H ar us vs Q E (roomH_of rm)⟩
def cxQ (cx : CXT) (pg : Program) (w : World) (K : PySem.W.Frag) (mg : Str → Option Value) (bs : Heap) (N : List Str) (q : Str) (sc : Scope) (f : Addr) (cd : Value) (A : Around) (out : List Env) (s : Shared) (H : Hp) (E : XK) : Cx :=
  { cxOf cx pg w K mg bs N q sc f cd A out s H E with calm := false }
theorem inv_startQ {cx : CXT} {N ps : List Str} {qual : Str} {sc : Scope} {f : Addr} {cd : Value} {A : Around} {out : List Env} {s s1 : Shared} {H : Hp} {E : XK} {us : List Value} {vs : List V}
    (S : FnScope N ps sc) (ev : Env0 pg w K mg bs A out s H) (hl : vs.length = ps.length) (r : Vals vs us)
    (x : InCallC s s.heap.objs.size (bindL (envOfC qual sc s.heap.objs.size f cd).kindOf (ps.zip us) fun _ => none) (cellsFrom (s.heap.objs.size + 1) sc.names []) (bindC (envOfC qual sc s.heap.objs.size f cd).kindOf (ps.zip us) fun _ => none) s1) :
    Inv (cxQ cx pg w K mg bs N qual sc f cd A out s H E) [] (start N vs) H s1 := by
  have J := inv_start (CX := cx) (E := E) (A := { A with handled := none }) S rfl ⟨ev.frames, ev.mod, ev.bs, ev.bsz, ev.funs, ev.frf, ev.hok, ev.bare⟩ hl r x
  have ok := J.ok
  exact ⟨⟨ok.mod, ok.kind, ok.glob, ok.blt, ok.above, ok.inj, ok.has, ok.cab, (fun z => absurd (show false = true from z) Bool.false_ne_true), Around.frames_deeper ev.frames, ok.stk, ok.exf, ok.bs, ok.bsz, ok.noex, ok.exfs, ok.funs, ok.frf⟩,
    J.os, J.bare, J.base, J.loc, J.cell, J.free, J.freeC, J.pin, J.hok, J.len⟩
theorem Fun.okQ {cx : CXT} {x q : Str} {st : Stmt} {f : Addr} {fd : FuncData} {N ps : List Str} {k : Nat} {sp : Sp} (F : Fun K x q st f fd)
    (S : FnScope N ps (defScope st)) (len : ∀ vs H Q E, sp vs H Q E → vs.length = ps.length)
    (hb : ∀ (cd : Value) (A : Around) (out : List Env) (s : Shared) (H : Hp) (vs : List V) (Q : VK) (E : XK), RoomH k (A.deeper (envOfC q (defScope st) s.heap.objs.size f cd)) → sp vs H Q E →
      ∃ t, PSs (cxQ cx pg w K mg bs N q (defScope st) f cd A out s H E) (defBody st) t ∧ t { nx := fun _ H' => Q .non H', rt := Q } (start N vs) H) :
    FnQ pg w K mg bs cx (k + 1) f fd ps sp := by
  obtain ⟨oc, od, kV, doc, pm, an, cd, ct, osl, rfl, lk, hcd⟩ := F.ex
  refine ⟨len, fun A out s H ar us vs Q E rm ev hbi rv hsp => ?_⟩
  have hle := len _ _ _ _ hsp
  have keepB : ∀ b o, bs.get? b = some o → s.heap.get? b = some o := fun b o z => (ev.bs b o z).1
  have KX : K.In s.heap := ev.mod.kin.keeps keepB
  have lim : s.heap.NoLimit := ev.mod.nolimit.keeps keepB
  have kinds : ∀ y ∈ ps.zip us, (defScope st).names.lookup y.1 = some .local ∨
      ((defScope st).names.lookup y.1 = some .cell ∧ ((cellsFrom (s.heap.objs.size + 1) (defScope st).names []).lookup y.1).isSome = true) := by
    rintro ⟨n, v⟩ hy
    rcases S.par n (List.of_mem_zip hy).1 with z | z
    · exact .inl z
    · exact .inr ⟨z, PySem.W.cellsFrom_some _ _ _ (.inl z)⟩
  have room := rm.depth
  refine codeAny_call_function room (KX _ _ lk) rfl S.co S.gen rfl (PySem.W.codeRec_of KX hcd) (hbi _ _ _ _ ?_)
  refine wpAny_newFunctionEnv_cells S.kind kinds fun env he s1 ic => ?_
  subst he
  refine ⟨lim.keeps ic.toInCall.keep, codeAny_func ?_⟩
  obtain ⟨t, ht, hq⟩ := hb cd A out s H vs Q E (rm.deeper _) hsp
  have J := inv_startQ (cx := cx) (E := E) S ev hle rv ic
  have done : ∀ {τ : L2.St} {G : Hp} {v : V} {u : Value} {s' : Shared}, Inv (cxQ cx pg w K mg bs N q (defScope st) f cd A out s H E) [] τ G s' → RelV v u → Q v G → CE out pg w H s Q u s' :=
    fun {τ G v u s'} J r z => ⟨v, G, J.os, J.bare, J.base, J.hok, r, z⟩
  refine wpAny_mono (ht.run [] s1 (start N vs) H _ J hq) (fun fl s' hs => ?_) fun e s' hs => hs
  cases fl with
  | ret u => exact (let ⟨_, _, _, J', rv', z⟩ := hs; done J' rv' z)
  | next => exact (let ⟨_, _, J', z⟩ := hs; done (v := V.non) (u := Value.none) J' rfl z)
  | brk => exact (let ⟨_, _, _, z⟩ := hs; False.elim z)
  | cont => exact (let ⟨_, _, _, z⟩ := hs; False.elim z)
end
section
variable {X : Cx} {cx : CXT} {k : Nat} {f : Addr} {fd : FuncData} {ps : List Str} {sp : Sp} {dvs : List V} {ds : List Value} {E : XK} {x : Str} {p pos : Pos} {e : Expr} {es : List Expr} {t : TA}
theorem pg_callQ (Fi : FnQ X.prog X.w X.K X.mg X.base cx k f fd ps sp) (rm : RoomH k X.A) (hg : Gl X x)
    (hm : X.mg x = some (.ref f)) (kp : PySem.W.keepIn X.K (.ref f) = true) (hb : Binds X.K fd ps ds) (hd : Vals dvs ds) (hx : Passes cx X E) (ha : PA X (e :: es) t)
    (hdb : (x == ("__debug__" : Str)) = false := by decide) (hst : starEach (e :: es) X.env = (false, eval e X.env) :: starEach es X.env := by rfl)
    (hpl : (backTo pos (starEach es X.env)).any (·.1) = false := by rfl) : PE X (.Call (.Name x p) (e :: es) [] pos) (tCall sp dvs E t) := by
  refine ⟨fun pins s σ H Q I h => wpAny_Call_Name_kw (ld_glob I hg hm ?_ hdb)⟩
  refine PySem.W.callWith_K (h₀ := X.base) I.ok.mod.kin kp (thn (ha.run pos pins s σ H _ I h) ?_) hst hpl
  rintro us s1 ⟨vs, H1, I1, r, q⟩
  have r2 := r.append hd
  have hl : (us ++ ds).length = ps.length := r2.length.symm.trans (Fi.len _ _ _ _ q)
  refine ⟨I1.kIn, wpAny_call (codeAny_mono (Fi.run X.A X.stack s1 H1 ⟨us, []⟩ _ _ Q E rm I1.env0 (hb s1 us I1.kIn hl) r2 q) fun res s' hq => ?_)⟩
  cases res with
  | error e => exact hx pins σ H1 s1 e s' I1 hq
  | ok fl =>
    cases fl with
    | ret u => exact I1.after hq
    | next => exact hq.elim
    | brk => exact hq.elim
    | cont => exact hq.elim
end
end GL
/-! enumerate(zip(xs, ys)), unpacked by the loop. -/
namespace GL
open PySem
section
variable {prog : Program} {w : World} {A : Around} {E : Value → Shared → Prop} {s : Shared}
/-- enumerate's turn, whatever it draws from -/
theorem enum_any {e it : Addr} {i : Nat} {old : Value} {P : Value → Heap → Prop} {Q : Value → Shared → Prop} (he : IsEnum s.heap e it i old)
    (hn : ∀ R : Value → Shared → Prop, (∀ x h1, P x h1 → R x { s with heap := h1 }) → wpAny (model prog w) A (Builtin.SmallTypes.nextOf (.ref it)) R E s)
    (hp : ∀ x h1, P x h1 → IsEnum h1 e it i old)
    (hQ : ∀ x h1 h', P x h1 → IsEnumOut h' e it ((i : Int) + 1) x h1.objs.size → h'.get? h1.objs.size = some { cls := .type "tuple", data := .seq #[.int i s.toks, x] } → h'.objs.size = h1.objs.size + 1 →
      (∀ b o, b ≠ e → h1.get? b = some o → h'.get? b = some o) → Q (.ref h1.objs.size) { s with heap := h', toks := s.toks + 1 }) :
    wpAny (model prog w) A (Builtin.«enumerate.__next__» ⟨[.ref e], []⟩) (fun fin s' => ∃ v, fin = .done (.ret v) ∧ Q v s') E s := by
  obtain ⟨hp0, gs, dr, t0, os⟩ := s
  show wpAny _ _ (field (.ref e) 2 >>= _) _ _ _
  refine wpAny_bind (wpAny_field he rfl (x := .ref it) rfl (wpAny_bind (hn _ fun x h1 px => ?_)))
  have e1 : IsEnum h1 e it i old := hp x h1 px
  show wpAny _ _ (field (.ref e) 3 >>= _) _ _ ⟨h1, gs, dr, t0, os⟩
  refine wpAny_bind (wpAny_field e1 rfl (x := rawInt i) rfl ?_)
  show wpAny _ _ (field (.ref e) 4 >>= _) _ _ ⟨h1, gs, dr, t0, os⟩
  refine wpAny_bind (wpAny_field e1 rfl (x := .none) rfl ?_)
  show wpAny _ _ (mkInt i >>= _) _ _ ⟨h1, gs, dr, t0, os⟩
  refine wpAny_bind (wpAny_mkInt ?_)
  show wpAny _ _ (setField (.ref e) 3 (rawInt ((i : Int) + 1)) >>= _) _ _ ⟨h1, gs, dr, t0 + 1, os⟩
  refine wpAny_bind (wpAny_setField_rec e1 (by simp) fun h2 e2 k2 => ?_)
  replace k2 : Heap.SameBut e h1 h2 := k2
  replace e2 : IsEnum h2 e it ((i : Int) + 1) old := e2
  show wpAny _ _ (setField (.ref e) 4 .none >>= _) _ _ ⟨h2, gs, dr, t0 + 1, os⟩
  refine wpAny_bind (wpAny_setField_rec e2 (by simp) fun h3 e3 k3 => ?_)
  replace k3 : Heap.SameBut e h2 h3 := k3
  replace e3 : IsEnum h3 e it ((i : Int) + 1) old := e3
  show wpAny _ _ (newTuple [.int i t0, x] >>= _) _ _ ⟨h3, gs, dr, t0 + 1, os⟩
  refine wpAny_bind (wpAny_newTuple ?_)
  have z3 : h3.objs.size = h1.objs.size := by rw [k3.1, k2.1]
  have le : e < h1.objs.size := Heap.lt_size e1
  have e4 : IsEnum (h3.push { cls := .type "tuple", data := .seq #[.int i t0, x] }) e it ((i : Int) + 1) old := Heap.get?_push_of_some _ e3
  have t4 : (h3.push { cls := .type "tuple", data := .seq #[.int i t0, x] }).get? h1.objs.size = some { cls := .type "tuple", data := .seq #[.int i t0, x] } := by rw [← z3]; exact Heap.get?_push_size _ rfl
  have z4 : (h3.push { cls := .type "tuple", data := .seq #[.int i t0, x] }).objs.size = h1.objs.size + 1 := by rw [Heap.size_push, z3]
  have k4 : ∀ b o, b ≠ e → h1.get? b = some o → (h3.push { cls := .type "tuple", data := .seq #[.int i t0, x] }).get? b = some o := fun b o n q => Heap.get?_push_of_some _ (k3.extBut b o n (k2.extBut b o n q))
  show wpAny _ _ (Builtin.SmallTypes.ownedTupleIsFree (.ref e) >>= _) _ _ ⟨_, gs, dr, t0 + 1, os⟩
  rw [z3]
  generalize h3.push { cls := .type "tuple", data := .seq #[.int i t0, x] } = h4 at e4 t4 z4 k4
  refine wpAny_bind ?_
  unfold Builtin.SmallTypes.ownedTupleIsFree
  refine wpAny_bind (wpAny_field e4 rfl (x := .none) rfl (wpAny_pure ?_))
  simp only [if_true]
  refine wpAny_bind (wpAny_rule (wpAny_bind (wpAny_field e4 rfl (x := old) rfl ?_)))
  refine wpAny_bind (wpAny_setField_rec e4 (by simp) fun h5 e5 k5 => ?_)
  replace k5 : Heap.SameBut e h4 h5 := k5
  replace e5 : IsEnum h5 e it ((i : Int) + 1) x := e5
  show wpAny _ _ (Builtin.SmallTypes.ownedTupleHandOut (.ref e) (.ref h1.objs.size) >>= _) _ _ ⟨h5, gs, dr, t0 + 1, os⟩
  refine wpAny_bind ?_
  unfold Builtin.SmallTypes.ownedTupleHandOut
  refine wpAny_bind (wpAny_setField_rec e5 (by simp) fun h6 e6 k6 => ?_)
  replace k6 : Heap.SameBut e h5 h6 := k6
  replace e6 : IsEnumOut h6 e it ((i : Int) + 1) x h1.objs.size := e6
  refine wpAny_setField_rec e6 (by simp) fun h7 e7 k7 => ?_
  replace k7 : Heap.SameBut e h6 h7 := k7
  replace e7 : IsEnumOut h7 e it ((i : Int) + 1) x h1.objs.size := e7
  have up : ∀ b o, b ≠ e → h4.get? b = some o → h7.get? b = some o := fun b o n q => k7.extBut b o n (k6.extBut b o n (k5.extBut b o n q))
  refine wpAny_bind (wpAny_letGo (wpAny_pure ⟨_, rfl, hQ x h1 h7 px e7 (up _ _ (Nat.ne_of_gt le) t4) ?_ fun b o n q => up b o n (k4 b o n q)⟩))
  rw [k7.1, k6.1, k5.1, z4]
end
end GL
namespace GL
open PySem PySem.Spec PySem.W
section
variable {prog : Program} {w : World} {A : Around} {E : Value → Shared → Prop} {s : Shared} {z TI TO i1 i2 l1 l2 : Addr} {k1 k2 : Nat} {xs ys : Array Value} {x y a b : Value}
def ZAt (h : Heap) (z TI TO : Addr) : Prop := IsZip h z TI TO .none ∨ ∃ T f oT, IsZipHeld h z TI TO T f ∧ h.get? T = some oT
theorem nextOf_zip {Q : Value → Shared → Prop} (D : ZipApart z TI TO i1 i2 l1 l2) (hz : ZAt s.heap z TI TO) (gI : IsPair s.heap TI (.ref i1) (.ref i2)) (gO : IsPair s.heap TO a b)
    (g1 : s.heap.IsListIter i1 l1 k1) (g2 : s.heap.IsListIter i2 l2 k2) (gx : s.heap.IsList l1 xs) (gy : s.heap.IsList l2 ys) (hx : xs[k1]? = some x) (hy : ys[k2]? = some y)
    (q : ∀ h' T f, IsZipHeld h' z TI TO T f → (T = s.heap.objs.size ∨ ∃ f0, IsZipHeld s.heap z TI TO T f0) → (∃ a b, IsPair h' TO a b) → h'.IsListIter i1 l1 (k1 + 1) → h'.IsListIter i2 l2 (k2 + 1) → IsPair h' s.heap.objs.size x y →
      h'.objs.size = s.heap.objs.size + 1 → (∀ c o, c ≠ z → c ≠ TO → c ≠ i1 → c ≠ i2 → s.heap.get? c = some o → h'.get? c = some o) → Q (.ref s.heap.objs.size) { s with heap := h' }) :
    wpAny (model prog w) A (Builtin.SmallTypes.nextOf (.ref z)) Q E s := by
  rcases hz with hz | ⟨T, f, oT, hz, hT⟩
  · have ty : s.TypeIs (.ref z) "zip" := ⟨_, hz, rfl⟩
    unfold Builtin.SmallTypes.nextOf
    refine wpAny_bind (wpAny_callSpecial?_slot (name := Str.ofString "__next__") ty F.slot_zip_next (wpAny_call_entry F.slot_zip_next ty F.entry_zip_next ?_ (F.args_zip_next_1 _)))
    exact zip_next_item D hz gI gO g1 g2 gx gy hx hy fun h' b1 b2 b3 b4 b5 b6 b7 => wpAny_pure (q h' _ false b1 (.inl rfl) ⟨_, _, b2⟩ b3 b4 b5 b6 b7)
  · have ty : s.TypeIs (.ref z) "zip" := ⟨_, hz, rfl⟩
    unfold Builtin.SmallTypes.nextOf
    refine wpAny_bind (wpAny_callSpecial?_slot (name := Str.ofString "__next__") ty F.slot_zip_next (wpAny_call_entry F.slot_zip_next ty F.entry_zip_next ?_ (F.args_zip_next_1 _)))
    exact zip_next_item_held D hz hT gI g1 g2 gx gy hx hy fun h' b1 b3 b4 b5 b6 b7 => wpAny_pure (q h' T true b1 (.inr ⟨f, hz⟩) ⟨_, _, b7 _ _ D.TOz D.TOi1 D.TOi2 gO⟩ b3 b4 b5 b6 fun c o c1 c2 c3 c4 => b7 c o c1 c3 c4)
theorem zip_end_at {Q : Fin → Shared → Prop} {T : Addr} {f : Bool} {oT : Obj} (hh : A.handled = none) (D : ZipApart z TI TO i1 i2 l1 l2) (gz : IsZipHeld s.heap z TI TO T f) (gT : s.heap.get? T = some oT) (gI : IsPair s.heap TI (.ref i1) (.ref i2))
    (g1 : s.heap.IsListIter i1 l1 k1) (g2 : s.heap.IsListIter i2 l2 k2) (gx : s.heap.IsList l1 xs) (gy : s.heap.IsList l2 ys) (ge : xs[k1]? = none ∨ ys[k2]? = none)
    (q : ∀ h' c, IsZipHeld h' z TI TO T true → (∀ c o, c ≠ z → c ≠ i1 → c ≠ i2 → s.heap.get? c = some o → h'.get? c = some o) → (∃ o, h'.get? c = some o ∧ o.cls = .type "StopIteration") → E (.ref c) { s with heap := h' }) :
    wpAny (model prog w) A (Builtin.«zip.__next__» ⟨[.ref z], []⟩) Q E s := by
  show wpAny _ _ (field (.ref z) 2 >>= _) _ _ _
  refine wpAny_bind (wpAny_field gz rfl (x := .bool false) rfl ?_)
  show wpAny _ _ (field (.ref z) 3 >>= _) _ _ _
  refine wpAny_bind (wpAny_field gz rfl (x := .ref TI) rfl (wpAny_bind (wpAny_seqItems gI rfl ?_)))
  show wpAny _ _ (Builtin.SmallTypes.ownedTupleIsFree (.ref z) >>= _) _ _ _
  refine wpAny_bind (wpAny_tupleHeld_zip gz gT fun m1 zm1 km1 => ?_)
  simp only [Bool.false_eq_true, if_false]
  refine wpAny_bind ?_
  rw [← Array.forIn_toList]
  simp only [List.forIn_cons, List.forIn_nil]
  refine wpAny_bind (wpAny_bind (wpAny_holding ?_))
  show wpAny _ _ (Builtin.SmallTypes.nextOf (.ref i1) >>= _) _ _ _
  cases hx : xs[k1]? with
  | none => exact wpAny_bind (wpAny_nextOf_list_end (s := { s with heap := m1 }) hh (g1.extBut km1.extBut D.i1z) (gx.extBut km1.extBut D.l1z) hx fun m2 c km2 hc =>
      q m2 c (km2 _ _ D.i1z.symm zm1) (fun d o d1 d2 _ r => km2 _ _ d2 (km1.extBut _ _ d1 r)) hc)
  | some x =>
    have hy : ys[k2]? = none := by
      rcases ge with g | g
      · rw [hx] at g; cases g
      · exact g
    refine wpAny_bind (wpAny_nextOf_list_item (s := { s with heap := m1 }) (g1.extBut km1.extBut D.i1z) (gx.extBut km1.extBut D.l1z) hx fun m2 it2 km2 => wpAny_pure (wpAny_pure ?_))
    refine wpAny_bind (wpAny_bind (wpAny_holding ?_))
    show wpAny _ _ (Builtin.SmallTypes.nextOf (.ref i2) >>= _) _ _ _
    exact wpAny_bind (wpAny_nextOf_list_end (s := { s with heap := m2 }) hh ((g2.extBut km1.extBut D.i2z).extBut km2.extBut D.i12.symm) ((gy.extBut km1.extBut D.l2z).extBut km2.extBut D.l2i1) hy fun m3 c km3 hc =>
      q m3 c (km3 _ _ D.i2z.symm (km2.extBut _ _ D.i1z.symm zm1)) (fun d o d1 d2 d3 r => km3 _ _ d3 (km2.extBut _ _ d2 (km1.extBut _ _ d1 r))) hc)
/-- enumerate's end over a zip -/
theorem pyNext_ez_end {e : Addr} {i : Int} {old : Value} {T : Addr} {f : Bool} {oT : Obj} {Q : Option Value → Shared → Prop} (hh : A.handled = none) (he : IsEnum s.heap e z i old) (D : ZipApart z TI TO i1 i2 l1 l2) (gz : IsZipHeld s.heap z TI TO T f) (gT : s.heap.get? T = some oT) (gI : IsPair s.heap TI (.ref i1) (.ref i2))
    (g1 : s.heap.IsListIter i1 l1 k1) (g2 : s.heap.IsListIter i2 l2 k2) (gx : s.heap.IsList l1 xs) (gy : s.heap.IsList l2 ys) (hn : xs[k1]? = none ∨ ys[k2]? = none)
    (q : ∀ h', IsZipHeld h' z TI TO T true → (∀ c o, c ≠ z → c ≠ i1 → c ≠ i2 → s.heap.get? c = some o → h'.get? c = some o) → Q none { s with heap := h' }) : wpAny (model prog w) A (pyNext (.ref e)) Q E s := by
  have ty : s.TypeIs (.ref e) "enumerate" := ⟨_, he, rfl⟩
  have tz : s.TypeIs (.ref z) "zip" := ⟨_, gz, rfl⟩
  unfold pyNext
  refine wpAny_bind (wpAny_attempt (wpAny_callSpecial?_slot (name := Str.ofString "__next__") ty F.slot_enumerate_next (wpAny_call_entry F.slot_enumerate_next ty F.entry_enumerate_next ?_ (F.args_enumerate_next_1 _))))
  show wpAny _ _ (field (.ref e) 2 >>= _) _ _ _
  refine wpAny_bind (wpAny_field he rfl (x := .ref z) rfl (wpAny_bind ?_))
  unfold Builtin.SmallTypes.nextOf
  refine wpAny_bind (wpAny_callSpecial?_slot (name := Str.ofString "__next__") tz F.slot_zip_next (wpAny_call_entry F.slot_zip_next tz F.entry_zip_next ?_ (F.args_zip_next_1 _)))
  refine zip_end_at hh D gz gT gI g1 g2 gx gy hn fun h' c bz k hc => ?_
  obtain ⟨o, ho, hcl⟩ := hc
  exact wpAny_bind (wpAny_isInstance (T := "StopIteration") (b := true) ⟨o, ho, hcl⟩ isSubtype_stop (wpAny_pure (q _ bz k)))
theorem pyNext_ez {e : Addr} {i : Nat} {old : Value} {Q : Option Value → Shared → Prop} (he : IsEnum s.heap e z i old) (D : ZipApart z TI TO i1 i2 l1 l2) (ez : e ≠ z) (eO : e ≠ TO) (e1 : e ≠ i1) (e2 : e ≠ i2) (hz : ZAt s.heap z TI TO) (gI : IsPair s.heap TI (.ref i1) (.ref i2)) (gO : IsPair s.heap TO a b)
    (g1 : s.heap.IsListIter i1 l1 k1) (g2 : s.heap.IsListIter i2 l2 k2) (gx : s.heap.IsList l1 xs) (gy : s.heap.IsList l2 ys) (hx : xs[k1]? = some x) (hy : ys[k2]? = some y)
    (q : ∀ h1 h' T f, IsZipHeld h1 z TI TO T f → (T = s.heap.objs.size ∨ ∃ f0, IsZipHeld s.heap z TI TO T f0) → (∃ a b, IsPair h1 TO a b) → h1.IsListIter i1 l1 (k1 + 1) → h1.IsListIter i2 l2 (k2 + 1) → IsPair h1 s.heap.objs.size x y →
      h1.objs.size = s.heap.objs.size + 1 → (∀ c o, c ≠ z → c ≠ TO → c ≠ i1 → c ≠ i2 → s.heap.get? c = some o → h1.get? c = some o) →
      IsEnumOut h' e z ((i : Int) + 1) (.ref s.heap.objs.size) (s.heap.objs.size + 1) → h'.get? (s.heap.objs.size + 1) = some { cls := .type "tuple", data := .seq #[.int i s.toks, .ref s.heap.objs.size] } → h'.objs.size = s.heap.objs.size + 2 →
      (∀ b o, b ≠ e → h1.get? b = some o → h'.get? b = some o) → Q (some (.ref (s.heap.objs.size + 1))) { s with heap := h', toks := s.toks + 1 }) : wpAny (model prog w) A (pyNext (.ref e)) Q E s := by
  have ty : s.TypeIs (.ref e) "enumerate" := ⟨_, he, rfl⟩
  unfold pyNext
  refine wpAny_bind (wpAny_attempt (wpAny_callSpecial?_slot (name := Str.ofString "__next__") ty F.slot_enumerate_next (wpAny_call_entry F.slot_enumerate_next ty F.entry_enumerate_next ?_ (F.args_enumerate_next_1 _))))
  refine enum_any (P := fun v h1 => v = .ref s.heap.objs.size ∧ ∃ T f, IsZipHeld h1 z TI TO T f ∧ (T = s.heap.objs.size ∨ ∃ f0, IsZipHeld s.heap z TI TO T f0) ∧ (∃ a b, IsPair h1 TO a b) ∧ h1.IsListIter i1 l1 (k1 + 1) ∧ h1.IsListIter i2 l2 (k2 + 1) ∧ IsPair h1 s.heap.objs.size x y ∧
      h1.objs.size = s.heap.objs.size + 1 ∧ ∀ c o, c ≠ z → c ≠ TO → c ≠ i1 → c ≠ i2 → s.heap.get? c = some o → h1.get? c = some o) he
    (fun R hR => nextOf_zip D hz gI gO g1 g2 gx gy hx hy fun h' T f b1 b2 b3 b4 b5 b6 b7 b8 => hR _ h' ⟨rfl, T, f, b1, b2, b3, b4, b5, b6, b7, b8⟩) (fun v h1 hp => ?_) fun v h1 h' hp o1 o2 o3 o4 => ?_
  · obtain ⟨_, T, f, _, _, _, _, _, _, _, b8⟩ := hp
    exact b8 _ _ ez eO e1 e2 he
  · obtain ⟨rfl, T, f, b1, b2, b3, b4, b5, b6, b7, b8⟩ := hp
    rw [b7] at o1 o2 o3 ⊢
    exact wpAny_pure (q h1 h' T f b1 b2 b3 b4 b5 b6 b7 b8 o1 o2 o3 o4)
end
end GL
namespace GL
open PySem PySem.Spec PySem.W
theorem meets_ez (z TI TO : Addr) (f0 : Value) :
    Meets (Builtin.«enumerate.__new__» ⟨[.type "enumerate", .ref z], []⟩) (fun _ R s => IsZip s.heap z TI TO f0 ∧
      R (.ok (.ret (.ref s.heap.objs.size))) { s with heap := s.heap.push { cls := .type "enumerate", data := .fields #[.none, .bool false, .ref z, rawInt 0, .none, .none] } }) :=
  .of_wp fun prog w A R s h => by
    obtain ⟨hp, gs, dr, tk, os⟩ := s
    obtain ⟨hz, h⟩ := h
    have sb := sub_enumerate
    have it : ∀ {A : Around} {Q : Value → Shared → Prop} {E : Value → Shared → Prop}, Q (.ref z) ⟨hp, gs, dr, tk, os⟩ → wpAny (model prog w) A (pyIter (.ref z)) Q E ⟨hp, gs, dr, tk, os⟩ := fun q => wpAny_pyIter_zip hz q
    wp_walk using it
    refine wpAny_stack_any fun st => wpAny_pure ?_
    split
    · rename_i c _ _ _ _ _
      cases hc : (c == Value.type "enumerate")
      · wp_walk using it
        exact ⟨_, rfl, h⟩
      · wp_walk using it
        exact ⟨_, rfl, h⟩
    · wp_walk using it
      exact ⟨_, rfl, h⟩
section
variable {prog : Program} {w : World} {A : Around} {E : Value → Shared → Prop} {s : Shared}
theorem call_ez {z TI TO : Addr} {f0 : Value} {Q : Value → Shared → Prop} (hz : IsZip s.heap z TI TO f0)
    (h : ∀ h', IsEnum h' s.heap.objs.size z 0 .none → h'.objs.size = s.heap.objs.size + 1 → (∀ b o, s.heap.get? b = some o → h'.get? b = some o) → Q (.ref s.heap.objs.size) { s with heap := h' }) :
    wpAny (model prog w) A (call (.type "enumerate") [.ref z]) Q E s := by
  refine callType_new F.called_enumerate (by decide) (F.typeCall_enumerate_1 _) (F.newCall_enumerate_1 _) (fun obj => F.args_object_init_2 obj _) F.entry_enumerate_new (meets_ez z TI TO f0) ⟨hz, ?_⟩
  show _ ∧ _
  have g : IsEnum (s.heap.push { cls := .type "enumerate", data := .fields #[.none, .bool false, .ref z, rawInt 0, .none, .none] }) s.heap.objs.size z 0 .none := Heap.get?_push_size _ rfl
  exact ⟨⟨_, g, rfl⟩, h _ g (Heap.size_push ..) fun b o x => Heap.get?_push_of_some _ x⟩
end
end GL
namespace GL
open PySem PySem.Spec PyProof.Rows L2
def zFree (z TI TO : Addr) : HO := .ext fun h => IsZip h z TI TO .none
def zHeld (z TI TO T : Addr) : HO := .ext fun h => ∃ f, IsZipHeld h z TI TO T f
def Zst (z TI TO : Addr) (H : Hp) : Prop := H z = some (zFree z TI TO) ∨ ∃ T xs, H z = some (zHeld z TI TO T) ∧ H T = some (.tup xs)
def Itez (K : PySem.W.Frag) (a b z TI TO : Addr) : It :=
  ⟨fun i H => Zst z TI TO H ∧ ∃ (xs ys : List V) (x y : V), SqL K H a xs ∧ SqL K H b ys ∧ xs[i]? = some x ∧ ys[i]? = some y,
    fun i H v H' => ∃ P T x y zo, v = .ref P ∧ H P = none ∧ H T = none ∧ T ≠ P ∧ H' = upd (upd (upd H z zo) T (.tup [x, y])) P (.tup [.int (i : Nat), .ref T]) ∧ (∃ T ts, H' z = some (zHeld z TI TO T) ∧ H' T = some (.tup ts)) ∧ (∀ xs, SqL K H a xs → xs[i]? = some x) ∧ ∀ ys, SqL K H b ys → ys[i]? = some y,
    fun i H => (∃ T xs, H z = some (zHeld z TI TO T) ∧ H T = some (.tup xs)) ∧ ∃ xs ys : List V, SqL K H a xs ∧ SqL K H b ys ∧ (xs.length ≤ i ∨ ys.length ≤ i)⟩
theorem zst_at {X : Cx} {pins : List (Addr × Obj)} {σ : L2.St} {H : Hp} {s : Shared} {z TI TO : Addr} (I : Inv X pins σ H s) (h : Zst z TI TO H) : ZAt s.heap z TI TO := by
  rcases h with h | ⟨T, xs, h, hT⟩
  · exact .inl (I.hok z _ h).1
  · obtain ⟨f, q⟩ := (I.hok z _ h).1
    have hO : ObjOk X.prog X.w H s.heap T (.tup xs) := I.hok T _ hT
    obtain ⟨_, its, rv, o, h1, _⟩ := hO
    exact .inr ⟨T, f, o, q, h1⟩
theorem turn_ez {P : Program} {w : World} {K : PySem.W.Frag} {elts : List Expr} {kk : Nat} {tpos : Pos} {a b e z TI TO i1 i2 : Addr} (D : ZipApart z TI TO i1 i2 a b) (ez : e ≠ z) (eI : e ≠ TI) (eO : e ≠ TO) (e1 : e ≠ i1) (e2 : e ≠ i2) :
    Turn P w K (.Tuple elts kk tpos) (Itez K a b z TI TO) [e, TI, TO, i1, i2] e (fun i h => (∃ old, IsEnum h e z ((i : Nat) : Int) old) ∧ IsPair h TI (.ref i1) (.ref i2) ∧ (∃ x y, IsPair h TO x y) ∧ h.IsListIter i1 a i ∧ h.IsListIter i2 b i) where
  mem := by simp
  obj := fun i h st c hc => by
    obtain ⟨⟨old, he⟩, hI, ⟨x, y, hO⟩, ⟨o1, g1, _, d1⟩, ⟨o2, g2, _, d2⟩⟩ := st
    have h5 : c = e ∨ c = TI ∨ c = TO ∨ c = i1 ∨ c = i2 := by simpa using hc
    rcases h5 with rfl | rfl | rfl | rfl | rfl
    · exact ⟨_, he, fun v q => nomatch q⟩
    · exact ⟨_, hI, fun v q => nomatch q⟩
    · exact ⟨_, hO, fun v q => nomatch q⟩
    · exact ⟨o1, g1, fun v q => by rw [d1] at q; cases q⟩
    · exact ⟨o2, g2, fun v q => by rw [d2] at q; cases q⟩
  keep := fun i h h' st k => by
    obtain ⟨⟨old, he⟩, hI, ⟨x, y, hO⟩, h1, h2⟩ := st
    exact ⟨⟨old, k e (by simp) _ he⟩, k TI (by simp) _ hI, ⟨x, y, k TO (by simp) _ hO⟩, h1.at fun o q => k i1 (by simp) o q, h2.at fun o q => k i2 (by simp) o q⟩
  item := by
    intro X hP hw hK hc i pins s σ H E I hf st hg
    subst hP hw hK
    obtain ⟨⟨old, he⟩, hI, ⟨x0, y0, hO⟩, h1, h2⟩ := st
    obtain ⟨hz, xs, ys, x, y, qx, qy, hx, hy⟩ := hg
    obtain ⟨its, rv, p1, _⟩ := I.list qx
    obtain ⟨its2, rv2, p2, _⟩ := I.list qy
    obtain ⟨u, hu, ru⟩ := rv.get hx
    obtain ⟨u2, hu2, ru2⟩ := rv2.get hy
    have hZ := zst_at I hz
    have zl : z < s.heap.objs.size := by
      rcases hZ with q | ⟨_, _, _, q, _⟩
      · exact Heap.lt_size q
      · exact Heap.lt_size q
    refine pyNext_ez he D ez eO e1 e2 hZ hI hO h1 h2 p1.isList p2.isList (x := u) (y := u2) (by simpa using hu) (by simpa using hu2) fun g1 g2 T f b1 b2 b3 b4 b5 b6 b7 b8 o1 o2 o3 o4 => ?_
    refine ⟨_, rfl, wpAny_letOwnedTupleGo_enum (s := { s with heap := g2, toks := s.toks + 1 }) o1 fun g3 e3 sb => ?_⟩
    have el : e < s.heap.objs.size := Heap.lt_size he
    have up : ∀ c o, c ≠ e → g1.get? c = some o → g3.get? c = some o := fun c o n q => (sb.2 c n).trans (o4 c o n q)
    have n1 : H s.heap.objs.size = none := I.hok.fresh (Nat.le_refl _)
    have n2 : H (s.heap.objs.size + 1) = none := I.hok.fresh (Nat.le_succ _)
    have ne12 : s.heap.objs.size ≠ s.heap.objs.size + 1 := Nat.ne_of_lt (Nat.lt_succ_self _)
    have old3 : ∀ c o, c ∉ [e, TI, TO, i1, i2] → c ≠ z → s.heap.get? c = some o → g3.get? c = some o := fun c o hc nz q => up c o (fun z' => hc (by simp [z'])) (b8 c o nz (fun z' => hc (by simp [z'])) (fun z' => hc (by simp [z'])) (fun z' => hc (by simp [z'])) q)
    have lt_of : ∀ c, c ∈ [e, TI, TO, i1, i2] → c < s.heap.objs.size := fun c hc => by
      have h5 : c = e ∨ c = TI ∨ c = TO ∨ c = i1 ∨ c = i2 := by simpa using hc
      rcases h5 with rfl | rfl | rfl | rfl | rfl
      · exact el
      · exact Heap.lt_size hI
      · exact Heap.lt_size hO
      · obtain ⟨_, q, _⟩ := h1; exact Heap.lt_size q
      · obtain ⟨_, q, _⟩ := h2; exact Heap.lt_size q
    have zs : ∃ ob, H z = some ob := by rcases hz with q | ⟨_, _, q, _⟩ <;> exact ⟨_, q⟩
    obtain ⟨zob, hzob⟩ := zs
    have T3 : g3.get? s.heap.objs.size = some { cls := .type "tuple", data := .seq #[u, u2] } := up _ _ (Nat.ne_of_gt el) b6
    have P3 : g3.get? (s.heap.objs.size + 1) = some { cls := .type "tuple", data := .seq #[.int i s.toks, .ref s.heap.objs.size] } := (sb.2 _ (Nat.ne_of_gt (Nat.lt_succ_of_lt el))).trans o2
    have z3 : IsZipHeld g3 z TI TO T f := up _ _ ez.symm b1
    let H' : Hp := upd (upd (upd H z (zHeld z TI TO T)) s.heap.objs.size (.tup [x, y])) (s.heap.objs.size + 1) (.tup [.int (i : Nat), .ref s.heap.objs.size])
    have nzT : z ≠ s.heap.objs.size := Nat.ne_of_lt zl
    have nzP : z ≠ s.heap.objs.size + 1 := Nat.ne_of_lt (Nat.lt_succ_of_lt zl)
    have hz' : H' z = some (zHeld z TI TO T) := by show upd (upd (upd H z _) _ _) _ _ z = _; rw [upd_ne nzP, upd_ne nzT, upd_same]
    have hT' : H' s.heap.objs.size = some (.tup [x, y]) := by show upd (upd (upd H z _) _ _) _ _ _ = _; rw [upd_ne ne12, upd_same]
    have hP' : H' (s.heap.objs.size + 1) = some (.tup [.int (i : Nat), .ref s.heap.objs.size]) := upd_same
    have ho' : ∀ c, c ≠ z → c ≠ s.heap.objs.size → c ≠ s.heap.objs.size + 1 → H' c = H c := fun c a1 a2 a3 => by show upd (upd (upd H z _) _ _) _ _ c = _; rw [upd_ne a3, upd_ne a2, upd_ne a1]
    have zext : ∀ {o : HO}, H z = some o → ∃ φ, o = .ext φ := fun {o} q => by
      rcases hz with q' | ⟨_, _, q', _⟩ <;> (rw [q] at q'; cases q'; exact ⟨_, rfl⟩)
    have keepT : ∀ c xs, H c = some (.tup xs) → H' c = some (.tup xs) := fun c xs q => by
      refine (ho' c (fun z' => ?_) (fun z' => ?_) fun z' => ?_).trans q
      · rw [z'] at q; obtain ⟨φ, r⟩ := zext q; cases r
      · rw [z', n1] at q; cases q
      · rw [z', n2] at q; cases q
    have Z' : ∃ T ts, H' z = some (zHeld z TI TO T) ∧ H' T = some (.tup ts) := by
      refine ⟨T, ?_⟩
      rcases b2 with rfl | ⟨f0, b2⟩
      · exact ⟨_, hz', hT'⟩
      · rcases hz with q | ⟨T0, xs0, q, qT⟩
        · have r : IsZip s.heap z TI TO .none := (I.hok z _ q).1
          have r2 := r.symm.trans b2
          simp [rawInt] at r2
        · obtain ⟨f1, r⟩ := (I.hok z _ q).1
          have r2 := r.symm.trans b2
          have e0 : T0 = T := by
            simp [rawInt] at r2
            exact Int.ofNat.inj r2.1
          subst e0
          exact ⟨xs0, hz', keepT _ _ qT⟩
    have hok3 : HOk X.prog X.w H' g3 := fun c o q => by
      by_cases cz : c = z
      · subst cz
        rw [hz'] at q
        cases q
        exact ⟨⟨f, z3⟩, ⟨_, z3⟩, fun h1 h2 ⟨f1, r⟩ k => ⟨f1, k _ r⟩⟩
      by_cases cT : c = s.heap.objs.size
      · subst cT
        rw [hT'] at q
        cases q
        exact ⟨by show 2 ≤ sizeLine; decide, [u, u2], .cons ru (.cons ru2 .nil), ⟨_, T3, rfl, _, rfl⟩⟩
      by_cases cP : c = s.heap.objs.size + 1
      · subst cP
        rw [hP'] at q
        cases q
        exact ⟨by show 2 ≤ sizeLine; decide, [.int i s.toks, .ref s.heap.objs.size], .cons ⟨_, rfl⟩ (.cons rfl .nil), ⟨_, P3, rfl, _, rfl⟩⟩
      rw [ho' c cz cT cP] at q
      have ncf : ∀ d o', H d = some o' → d ∉ [e, TI, TO, i1, i2] := fun d o' r m => by rw [(hf d m).1] at r; cases r
      refine (I.hok c o q).stay (fun d v hd r => ?_) (fun d r => ?_) (fun d xs r => keepT d xs r)
      · rcases hd with rfl | hd
        · exact old3 _ _ (ncf _ _ q) cz r
        · refine old3 _ _ (ncf _ _ hd) (fun z' => ?_) r
          rw [z'] at hd; obtain ⟨φ, r2⟩ := zext hd; cases r2
      · refine (ho' d (fun z' => ?_) (fun z' => ?_) fun z' => ?_).trans r
        · rw [z'] at r; obtain ⟨φ, r2⟩ := zext r; cases r2
        · rw [z', n1] at r; cases r
        · rw [z', n2] at r; cases r
    have J : Inv X pins σ H' { s with heap := g3, toks := s.toks + 1 } := by
      refine I.step (g' := s.gens) (d' := s.drawn) (ch := [e, TI, TO, i1, i2]) (fun c hc => ⟨(hf c hc).2.2.2.1, (hf c hc).2.1, (hf c hc).2.2.2.2.1, (hf c hc).2.2.2.2.2⟩)
        (fun c o _ _ hc q n => old3 c o hc (fun z' => by rw [z', hzob] at n; cases n) q) (fun c o _ _ hc q n => ⟨o.slots, old3 c o hc (fun z' => by rw [z', hzob] at n; cases n) q⟩)
        (fun c o hc q n => ?_) (fun c o hc q => ?_) (fun c xs q => keepT c xs q) (fun c o u q => ?_) (fun c ps q => ⟨#[], ?_⟩) (fun m hm => ?_) hok3 I.bare
      · have cl := Heap.lt_size q
        rw [ho' c (fun z' => by rw [z', hzob] at n; cases n) (Nat.ne_of_lt cl) (Nat.ne_of_lt (Nat.lt_succ_of_lt cl))]; exact n
      · by_cases cz : c = z
        · subst cz; exact ⟨_, z3⟩
        · exact ⟨o, old3 c o hc cz q⟩
      · refine (ho' c (fun z' => ?_) (fun z' => ?_) fun z' => ?_).trans q
        · rw [z'] at q; obtain ⟨φ, r⟩ := zext q; cases r
        · rw [z', n1] at q; cases q
        · rw [z', n2] at q; cases q
      · have e' : H' c = H c := ho' c (fun z' => by rw [z'] at q; obtain ⟨φ, r⟩ := zext q; cases r) (fun z' => by rw [z', n1] at q; cases q) (fun z' => by rw [z', n2] at q; cases q)
        rw [e', q]; simp
      · obtain ⟨o, es, ep, ho, r⟩ := hm
        exact ⟨o, es, ep, old3 _ o (fun z' => (hf _ z').2.1 rfl) (fun z' => by have q := I.free; rw [z', hzob] at q; cases q) ho, r⟩
    refine ⟨.ref (s.heap.objs.size + 1), H', J, rfl, ⟨_, s.heap.objs.size, x, y, _, rfl, n2, n1, ne12, rfl, Z', fun l r => by rw [I.list_inj r qx]; exact hx, fun l r => by rw [I.list_inj r qy]; exact hy⟩, ⟨⟨.ref s.heap.objs.size, ?_⟩, ?_, ?_, ?_, ?_⟩, fun c hc => ?_⟩
    · have e1 : ((i + 1 : Nat) : Int) = (i : Int) + 1 := by omega
      rw [e1]; exact e3
    · exact up _ _ eI.symm (b8 _ _ D.TIz D.TITO D.TIi1 D.TIi2 hI)
    · obtain ⟨a', b', q⟩ := b3
      exact ⟨a', b', up _ _ eO.symm q⟩
    · exact b4.at fun o q => up _ o e1.symm q
    · exact b5.at fun o q => up _ o e2.symm q
    · have cl := lt_of c hc
      rw [ho' c (fun z' => by have q := (hf c hc).1; rw [z', hzob] at q; cases q) (Nat.ne_of_lt cl) (Nat.ne_of_lt (Nat.lt_succ_of_lt cl))]
      exact (hf c hc).1
  done := by
    intro X hP hw hK hc i pins s σ H E I hf st hg
    subst hP hw hK
    obtain ⟨⟨old, he⟩, hI, ⟨x0, y0, hO⟩, h1, h2⟩ := st
    obtain ⟨⟨T, ts, hz, hT⟩, xs, ys, qx, qy, hend⟩ := hg
    obtain ⟨its, rv, p1, _⟩ := I.list qx
    obtain ⟨its2, rv2, p2, _⟩ := I.list qy
    have l1 := rv.length
    have l2 := rv2.length
    have hn : its.toArray[i]? = none ∨ its2.toArray[i]? = none := by
      rcases hend with q | q
      · exact .inl (by simp; omega)
      · exact .inr (by simp; omega)
    obtain ⟨f, gz⟩ := (I.hok z _ hz).1
    have hO2 : ObjOk X.prog X.w H s.heap T (.tup ts) := I.hok T _ hT
    obtain ⟨_, _, _, oT, gT, _⟩ := hO2
    have hd : X.A.handled = none := I.ok.hd hc
    refine pyNext_ez_end hd he D gz gT hI h1 h2 p1.isList p2.isList hn fun g bz k => ⟨rfl, ?_⟩
    have ncf : ∀ d o', H d = some o' → d ∉ [e, TI, TO, i1, i2] := fun d o' r m => by rw [(hf d m).1] at r; cases r
    have k' : ∀ c o, c ∉ [e, TI, TO, i1, i2] → c ≠ z → s.heap.get? c = some o → g.get? c = some o := fun c o hc nz r => k c o nz (fun z' => hc (by simp [z'])) (fun z' => hc (by simp [z'])) r
    refine I.step (g' := s.gens) (d' := s.drawn) (t' := s.toks) (ch := [e, TI, TO, i1, i2]) (fun c hc => ⟨(hf c hc).2.2.2.1, (hf c hc).2.1, (hf c hc).2.2.2.2.1, (hf c hc).2.2.2.2.2⟩)
      (fun c o _ _ hc q n => k' c o hc (fun z' => by rw [z', hz] at n; cases n) q) (fun c o _ _ hc q n => ⟨o.slots, k' c o hc (fun z' => by rw [z', hz] at n; cases n) q⟩)
      (fun c o hc q n => n) (fun c o hc q => ?_) (fun c xs q => q) (fun c o u q => q) (fun c ps q => ⟨#[], by rw [q]; simp⟩) (fun m hm => ?_) (fun c o q => ?_) I.bare
    · by_cases cz : c = z
      · subst cz; exact ⟨_, bz⟩
      · exact ⟨o, k' c o hc cz q⟩
    · obtain ⟨o, es, ep, ho, r⟩ := hm
      exact ⟨o, es, ep, k' _ o (fun z' => (hf _ z').2.1 rfl) (fun z' => by have q := I.free; rw [z', hz] at q; cases q) ho, r⟩
    · by_cases cz : c = z
      · subst cz
        rw [hz] at q
        cases q
        exact ⟨⟨true, bz⟩, ⟨_, bz⟩, fun h1 h2 ⟨f1, r⟩ k => ⟨f1, k _ r⟩⟩
      · refine (I.hok c o q).stay (fun d v hd r => ?_) (fun d r => r) (fun d xs r => r)
        rcases hd with rfl | hd
        · exact k' _ _ (ncf _ _ q) cz r
        · refine k' _ _ (ncf _ _ hd) (fun z' => ?_) r
          rw [z', hz] at hd; cases hd
  self := fun A i s Q E st h => let ⟨⟨_, he⟩, _⟩ := st; wpAny_pyIter_enum he h
end GL
namespace GL
open PySem PySem.Spec PyProof.Rows L2
def iEZ (K : PySem.W.Frag) (ta : TA) : TI := fun σ H R => ta σ H fun vs H1 => ∃ a b xs ys, vs = [.ref a, .ref b] ∧ SqL K H1 a xs ∧ SqL K H1 b ys ∧ ∀ z TI TO, H1 z = none → R (Itez K a b z TI TO) (upd H1 z (zFree z TI TO))
theorem pi_ez {X : Cx} {e e2 : Expr} {ta : TA} {p p2 pos pos2 tpos : Pos} {elts : List Expr} {kk : Nat} (hg : Gl X "enumerate") (hm : X.mg "enumerate" = none) (hg2 : Gl X "zip") (hm2 : X.mg "zip" = none) (ha : PA X [e, e2] ta)
    (hs : starEach [e, e2] X.env = (false, eval e X.env) :: starEach [e2] X.env := by rfl) (hpl : (backTo pos2 (starEach [e2] X.env)).any (·.1) = false := by rfl)
    (hs1 : starEach [.Call (.Name "zip" p2) [e, e2] [] pos2] X.env = [(false, eval (.Call (.Name "zip" p2) [e, e2] [] pos2) X.env)] := by rfl) :
    PI X (.Tuple elts kk tpos) (.Call (.Name "enumerate" p) [.Call (.Name "zip" p2) [e, e2] [] pos2] [] pos) (iEZ X.K ta) := by
  refine ⟨fun pins s σ H R I h => ?_⟩
  refine Call_ (ld_blt I hg hm boot_enumerate (PyProof.Rows.callWith_type1 ?_ hs1 rfl))
  rw [hs1]
  show wpAny _ _ (spliced ((false, _) :: [])) _ _ s
  refine Calls.spliced_cons ?_
  show wpAny _ _ (eval _ X.env) _ _ s
  refine (Call_ (ld_blt I hg2 hm2 PyProof.Rows.boot_zip (PyProof.Rows.callWith_type1 (thn (ha.run pos2 pins s σ H _ I h) fun us s1 ⟨vs, H1, I1, r1, q1⟩ => ?_) hs hpl)))
  obtain ⟨a, b, xs, ys, rfl, hqx, hqy, q⟩ := q1
  cases r1 with
  | cons r rr =>
    cases rr with
    | cons r' rr =>
      cases rr
      cases r
      cases r'
      obtain ⟨its, rv, p1, _⟩ := I1.list hqx
      obtain ⟨its2, rv2, p2', _⟩ := I1.list hqy
      have la : a < s1.heap.objs.size := p1.lt
      have lb : b < s1.heap.objs.size := p2'.lt
      refine call_zip_2 p1.isList p2'.isList fun h' hz hTI hTO h1 h2 hsz hk => ?_
      refine Calls.spliced_nil ?_
      refine call_ez (s := { s1 with heap := h' }) hz fun h2' he hsz2 hk2 => wpAny_pyIter_enum he ?_
      have kk2 : ∀ c o, s1.heap.get? c = some o → h2'.get? c = some o := fun c o r => hk2 c o (hk c o r)
      have hz2 : IsZip h2' (s1.heap.objs.size + 4) (s1.heap.objs.size + 2) (s1.heap.objs.size + 3) .none := hk2 _ _ hz
      have zn : H1 (s1.heap.objs.size + 4) = none := I1.hok.fresh (Nat.le_add_right _ _)
      have J : Inv X pins σ (upd H1 (s1.heap.objs.size + 4) (zFree (s1.heap.objs.size + 4) (s1.heap.objs.size + 2) (s1.heap.objs.size + 3))) { s1 with heap := h2' } :=
        I1.laid (t' := s1.toks) (a := s1.heap.objs.size + 4) kk2 (Nat.le_add_right _ _) ⟨hz2, ⟨_, hz2⟩, fun g1 g2 r k => k _ r⟩
      have es : ({ s1 with heap := h' } : Shared).heap.objs.size = s1.heap.objs.size + 5 := hsz
      rw [es] at he ⊢
      have ne5 : ∀ j, j < 5 → s1.heap.objs.size + 5 ≠ s1.heap.objs.size + j := fun j hj => by
        generalize s1.heap.objs.size = n0
        omega
      have D := PySem.W.ktu_apart s1.heap.objs.size a b la lb
      refine ⟨s1.heap.objs.size + 5, [s1.heap.objs.size + 5, s1.heap.objs.size + 2, s1.heap.objs.size + 3, s1.heap.objs.size, s1.heap.objs.size + 1], _, _, _, rfl, J, turn_ez D (ne5 4 (by decide)) (ne5 2 (by decide)) (ne5 3 (by decide)) (ne5 0 (by decide)) (ne5 1 (by decide)),
        ⟨⟨.none, he⟩, hk2 _ _ hTI, ⟨_, _, hk2 _ _ hTO⟩, h1.at fun o r => hk2 _ o r, h2.at fun o r => hk2 _ o r⟩, fun c hc => ?_, q _ _ _ zn⟩
      have h5 : c = s1.heap.objs.size + 5 ∨ c = s1.heap.objs.size + 2 ∨ c = s1.heap.objs.size + 3 ∨ c = s1.heap.objs.size ∨ c = s1.heap.objs.size + 1 := by simpa using hc
      have ne4 : ∀ j, j ≠ 4 → s1.heap.objs.size + j ≠ s1.heap.objs.size + 4 := fun j hj => by
        generalize s1.heap.objs.size = n0
        omega
      have hle : s1.heap.objs.size ≤ c ∧ c ≠ s1.heap.objs.size + 4 := by
        rcases h5 with rfl | rfl | rfl | rfl | rfl
        · exact ⟨Nat.le_add_right _ _, ne4 5 (by decide)⟩
        · exact ⟨Nat.le_add_right _ _, ne4 2 (by decide)⟩
        · exact ⟨Nat.le_add_right _ _, ne4 3 (by decide)⟩
        · exact ⟨Nat.le_refl _, ne4 0 (by decide)⟩
        · exact ⟨Nat.le_add_right _ _, ne4 1 (by decide)⟩
      refine I1.fpOk hle.1 ?_
      rw [upd_ne hle.2]
      exact I1.hok.fresh hle.1
end GL
namespace GL
open PySem PySem.Spec PyProof.Rows L2
def clsB (K : PySem.W.Frag) (C : Addr) : Bool :=
  decide (PySem.W.findIn K (.ref C) "__setattr__" = some (some (.builtin "object.__setattr__"))) && decide (PySem.W.subIn K (.ref C) (.type "BaseException") = some true) &&
  decide (PySem.W.typeIn K (.ref C) = some (.type "type")) && PySem.W.keepIn K (.ref C) && decide (PySem.W.findIn K (.ref C) "__getattribute__" = some (some (.builtin "BaseException.__getattribute__"))) &&
  decide (PySem.W.findIn K (.ref C) "__getattr__" = some none) && PySem.W.hasDictIn K C && decide (PySem.W.findIn K (.ref C) "__class__" = some (some (.builtin "object.__class__"))) &&
  decide (PySem.W.mroIn K C (.type "object") = some true) && decide (PySem.W.specialIn K (.builtin "object.__class__") "__get__" = some (some (.builtin "getset_descriptor.__get__"))) && decide (PySem.W.takesIn K (.builtin "object.__class__") = some true)
theorem clsX_of {K : PySem.W.Frag} {C : Addr} {nm q : Str} {N : Addr} {bs bm : List Value} {sn : List Str} {sub : List Value} {ab : Bool} {col : Option Bool} {dd : Option Addr} {k0 k1 k2 k3 k5 : Option Value}
    (l : K.lookup C = some (excClassObj nm q C N bs bm true sn sub ab col dd k0 k1 k2 k3 k5 "ValueError.__new__")) (r : PySem.HandSPX.refsVE bm = true) (h : clsB K C = true) : ClsX K C := by
  unfold clsB at h
  simp only [Bool.and_eq_true, decide_eq_true_eq] at h
  obtain ⟨⟨⟨⟨⟨⟨⟨⟨⟨⟨h1, h2⟩, h3⟩, h4⟩, h5⟩, h6⟩, h7⟩, h8⟩, h9⟩, h10⟩, h11⟩ := h
  exact ⟨⟨⟨_, _, _, _, _, _, _, _, _, _, _, _, _, _, _, l, r⟩, h1, h2, h3, h4⟩, h5, h6, h7, h8, h9, h10, h11⟩
def matB (K : PySem.W.Frag) (cs : Nat → Addr) (n : Nat) (t : Nat → Nat → Bool) : Bool := (List.range n).all fun i => (List.range n).all fun j => decide (PySem.W.kitOne K (.ref (cs i)) (.ref (cs j)) = some (t i j))
theorem mat_ok {K : PySem.W.Frag} {cs : Nat → Addr} {n : Nat} {t : Nat → Nat → Bool} (h : matB K cs n t = true) (i j : Nat) (hi : i < n) (hj : j < n) : PySem.W.kitOne K (.ref (cs i)) (.ref (cs j)) = some (t i j) := by
  have h1 := List.all_eq_true.mp h i (List.mem_range.mpr hi)
  exact of_decide_eq_true (List.all_eq_true.mp h1 j (List.mem_range.mpr hj))
def bltB (K : PySem.W.Frag) (cs : Nat → Addr) (n : Nat) (v : Value) : Bool := (List.range n).all fun i => decide (PySem.W.kitOne K (.ref (cs i)) v = some true)
theorem blt_ok {K : PySem.W.Frag} {cs : Nat → Addr} {n : Nat} {v : Value} (h : bltB K cs n v = true) (i : Nat) (hi : i < n) : PySem.W.kitOne K (.ref (cs i)) v = some true := of_decide_eq_true (List.all_eq_true.mp h i (List.mem_range.mpr hi))
def noB (K : PySem.W.Frag) (cs : Nat → Addr) (n : Nat) (vs : List Value) : Bool := (List.range n).all fun i => decide (PySem.W.kitAny K (.ref (cs i)) vs = some false)
theorem no_ok {K : PySem.W.Frag} {cs : Nat → Addr} {n : Nat} {vs : List Value} (h : noB K cs n vs = true) (i : Nat) (hi : i < n) : PySem.W.kitAny K (.ref (cs i)) vs = some false := of_decide_eq_true (List.all_eq_true.mp h i (List.mem_range.mpr hi))
def gcI {α : Type} (us ws : List α) : List α := ws
def gcI2 {α : Type} (us ws : List α) : List α := match ws with
  | [w0, w1] => [w1, w0]
  | _ => []
theorem hrc {zs : List V} {ws : List Value} (h : zs.length = 1) (r : Vals zs ws) : Vals (gcI [] zs) (gcI [] ws) := r
theorem hrc2 {zs : List V} {ws : List Value} (h : zs.length = 2) (r : Vals zs ws) : Vals (gcI2 [] zs) (gcI2 [] ws) := match zs, ws, r, h with
  | [_, _], [_, _], .cons r0 (.cons r1 .nil), _ => .cons r1 (.cons r0 .nil)
/-- !=: a list and the empty list; or data -/
def rNeX (K : PySem.W.Frag) : R2 := fun x y H Q => (∃ (a b : Addr) (xs : List V), x = .ref a ∧ y = .ref b ∧ H a = some (.lst xs) ∧ H b = some (.lst []) ∧ xs = [] ∧ Q (.bl false) H) ∨ rNeD K x y H Q
theorem op_neX {X : Cx} (hu : X.A.units + 64 < cLine) : OpR X (compareOp .NotEq) (rNeX X.K) := by
  intro pins s σ H x y v u Q I rx ry h
  rcases h with ⟨a, b, xs, rfl, rfl, ha, hb, rfl, q⟩ | h
  · exact op_neD hu pins s σ H _ _ v u Q I rx ry ⟨.list [], .list [], .lst (SqL.of ha) .nil, .lst (SqL.of hb) .nil, rfl, rfl, q⟩
  · exact op_neD hu pins s σ H x y v u Q I rx ry h
end GL
/-! loops over enumerate(zip(..)); comprehensions that keep nothing. -/
namespace GL
open PySem PySem.Spec PyProof.Rows L2
theorem for_ez {K : PySem.W.Frag} {a b z TI TO : Addr} {xs ys : List V} {n : Nat} {g : TG} {tb : TS} {D : Ends} {σ : L2.St} {H : Hp} (hx : xs.length = n) (hy : ys.length = n) (n0 : 0 < n) (Pv : Nat → L2.St → Hp → Prop) (h0 : Pv 0 σ H)
    (hG : ∀ i σ H, Pv i σ H → SqL K H a xs ∧ SqL K H b ys ∧ Zst z TI TO H ∧ (0 < i → ∃ T ts, H z = some (zHeld z TI TO T) ∧ H T = some (.tup ts)))
    (hs : ∀ i σ H P T x y zo H', i < n → Pv i σ H → xs[i]? = some x → ys[i]? = some y → H P = none → H T = none → T ≠ P → H' = upd (upd (upd H z zo) T (.tup [x, y])) P (.tup [.int (i : Nat), .ref T]) → (∃ T ts, H' z = some (zHeld z TI TO T) ∧ H' T = some (.tup ts)) →
      g (.ref P) σ H' fun σ2 H2 => tb { D with nx := Pv (i + 1), ct := Pv (i + 1), bk := D.nx } σ2 H2) (hd : ∀ σ H, Pv n σ H → D.nx σ H) :
    ∃ W : Nat → Nat → L2.St → Hp → Prop, (∃ m, W 0 m σ H) ∧ ∀ i m σ H, W i m σ H →
      ((Itez K a b z TI TO).stop i H ∧ D.nx σ H) ∨ ((Itez K a b z TI TO).go i H ∧ ∃ N : L2.St → Hp → Prop, (∀ σ' H', N σ' H' → ∃ m', m' < m ∧ W (i + 1) m' σ' H') ∧ ∀ x H', (Itez K a b z TI TO).yld i H x H' → g x σ H' fun σ2 H2 => tb { D with nx := N, ct := N, bk := D.nx } σ2 H2) := by
  refine ⟨fun i m σ H => m = n - i ∧ i ≤ n ∧ Pv i σ H, ⟨n, by simp, Nat.zero_le _, h0⟩, ?_⟩
  rintro i m σ H ⟨rfl, hi, p⟩
  obtain ⟨q1, q2, q3, q4⟩ := hG i σ H p
  by_cases hlt : i < n
  · have e1 : i < xs.length := by omega
    have e2 : i < ys.length := by omega
    refine .inr ⟨⟨q3, xs, ys, xs[i], ys[i], q1, q2, by simp [e1], by simp [e2]⟩, Pv (i + 1), fun σ' H' p' => ⟨n - (i + 1), by omega, rfl, hlt, p'⟩, fun v H' y => ?_⟩
    obtain ⟨P, T, x, y, zo, rfl, h1, h2, h3, h4, h5, h6, h7⟩ := y
    exact hs i σ H P T x y zo H' hlt p (h6 xs q1) (h7 ys q2) h1 h2 h3 h4 h5
  · have e : i = n := by omega
    subst e
    exact .inl ⟨⟨q4 n0, xs, ys, q1, q2, .inl (by omega)⟩, hd σ H p⟩
/-- nothing is kept of the comprehension -/
theorem lc_none {p : Addr} {σ : L2.St} {H : Hp} {te : TE} {wi : TI} {tt : TT} {j : Nat} {Q : VK} (Pr : List V → Hp → Prop)
    (src : ∀ R : It → Hp → Prop, (∀ J H1 xs, Ex H H1 → Pr xs H1 → Walk J xs.length (fun H2 => Kp p H1 H2) (YAt xs) → R J H1) → wi σ H R)
    (ht : ∀ xs H1, Ex H H1 → Pr xs H1 → ∀ x, x ∈ xs → ∀ H2, Ex H1 H2 → ∀ Q1 : Bool → Hp → Prop, (∀ H3, Ex H2 H3 → Q1 false H3) → tt ((σ.set j none).set j (some x)) H2 Q1)
    (q : ∀ D H2, H D = none → H2 D = some (.lst []) → Ex H H2 → Q (.ref D) H2) : tLc wi (gName j) tt te [j] σ H Q := by
  refine src _ fun J H1 xs e1 pr w D hD => ?_
  refine lc_it w (fun i H2 => H2 D = some (.lst []) ∧ Ex H1 H2) ⟨upd_same, Ex.nw hD⟩ (fun i H2 _ g => Ex.kp g.2) ?_ fun H2 g => ?_
  · rintro i x H2 H3 hi ⟨g1, g2⟩ ⟨rfl, hx⟩
    have hm : x ∈ xs := List.mem_of_getElem? hx
    refine ⟨?_, ?_⟩
    · show ((σ.set j none).set j (some x)).set j none = σ.set j none
      rw [List.set_set, List.set_set]
    · exact ht xs H1 e1 pr x hm H3 g2 _ fun H4 e4 => iteF ⟨e4 _ _ g1, g2.tr e4⟩
  · exact q D H2 (e1.no hD) g.1 (e1.tr g.2)
/-! rows of made exceptions: of the classes js, all with the one field -/
def Es (cs : Nat → Addr) (f : Str) (one : V) (H : Hp) : List V → List Nat → Prop := Paired fun v j => ∃ a, v = .ref a ∧ Ef H a (cs j) [(f, one)]
theorem Es.ex {cs : Nat → Addr} {f : Str} {one : V} {H H' : Hp} (e : Ex H H') : ∀ {vs : List V} {js : List Nat}, Es cs f one H vs js → Es cs f one H' vs js
  | _, _, .nil => .nil
  | _, _, .cons ⟨a, ea, h⟩ r => .cons ⟨a, ea, h.ex e⟩ (Es.ex e r)
theorem Es.get {cs : Nat → Addr} {f : Str} {one : V} {H : Hp} : ∀ {vs : List V} {js : List Nat}, Es cs f one H vs js → ∀ (i : Nat) (x : V), vs[i]? = some x → ∃ j a, js[i]? = some j ∧ x = .ref a ∧ Ef H a (cs j) [(f, one)]
  | _, _, .nil, i, x, h => by cases h
  | _, _, .cons ⟨a, ea, h⟩ r, 0, x, hx => by cases hx; exact ⟨_, a, rfl, ea, h⟩
  | _, _, .cons _ r, i + 1, x, hx => by
    obtain ⟨j, a, h1, h2, h3⟩ := Es.get r i x hx
    exact ⟨j, a, h1, h2, h3⟩
theorem Es.app {cs : Nat → Addr} {f : Str} {one : V} {H : Hp} : ∀ {vs ws : List V} {js ks : List Nat}, Es cs f one H vs js → Es cs f one H ws ks → Es cs f one H (vs ++ ws) (js ++ ks)
  | _, _, _, _, .nil, h => h
  | _, _, _, _, .cons h r, h' => .cons h (Es.app r h')
def ErsE (cs : Nat → Addr) (f : Str) (one : V) (σ : L2.St) (js : List Nat) (ta : TA) : Prop := ∀ (H : Hp) (Q : List V → Hp → Prop), (∀ vs H', Ex H H' → Es cs f one H' vs js → Q vs H') → ta σ H Q
section
variable {cs : Nat → Addr} {f : Str} {one : V} {σ : L2.St} {js : List Nat} {ta : TA} {i j : Nat}
theorem ErsE.nil : ErsE cs f one σ [] tNil := fun H Q k => k [] H (Ex.rfl' H) .nil
theorem ErsE.pos (hi : σ[i]? = some (some one)) (r : ErsE cs f one σ js ta) : ErsE cs f one σ (j :: js) (tCons (tCall (spC1 (cs j) f) [] (fun _ _ _ => False) (tCons (tVar i) tNil)) ta) := fun H Q k =>
  ⟨_, hi, one, rfl, fun a H1 _ e1 o1 => r H1 _ fun vs H2 e2 es => k _ H2 (e1.tr e2) (.cons ⟨a, rfl, o1.ef.ex e2⟩ es)⟩
theorem ErsE.kw (hi : σ[i]? = some (some one)) (r : ErsE cs f one σ js ta) : ErsE cs f one σ (j :: js) (tCons (tKw 0 1 (spC1 (cs j) f) gcI (fun _ _ _ => False) tNil (tCons (tVar i) tNil)) ta) := fun H Q k =>
  ⟨_, hi, rfl, rfl, one, rfl, fun a H1 _ e1 o1 => r H1 _ fun vs H2 e2 es => k _ H2 (e1.tr e2) (.cons ⟨a, rfl, o1.ef.ex e2⟩ es)⟩
/-- .. in a list -/
theorem ErsE.lst {Q : VK} {H : Hp} (h : ErsE cs f one σ js ta) (hl : js.length ≤ 1000) (q : ∀ D vs H', H D = none → Ex H H' → H' D = some (.lst vs) → Es cs f one H' vs js → Q (.ref D) H') : tLst ta σ H Q := by
  refine h H _ fun vs H1 e1 es => ⟨?_, fun D hD => ?_⟩
  · have : vs.length = js.length := Paired.length es
    exact sz_le (by omega)
  · have e2 := Ex.nw (o := .lst vs) hD
    exact q D vs _ (e1.no hD) (e1.tr e2) upd_same (es.ex e2)
end
end GL
/-! A lambda, with a default or none, handed to a def that asks it. -/
namespace GL
open PySem PySem.Spec PyProof.Rows L2 LamX
/-- the values of the defaults, as the function's object tells them -/
def DfO (h : Heap) (dV : Value) (ds : List Value) : Prop := (ds = [] ∧ dV = .none) ∨ ∃ t, ds ≠ [] ∧ dV = .ref t ∧ h.get? t = some (PySem.W.kdv_tup ds)
abbrev lamFd (X : Cx) (params : Arguments) (body : Expr) (scope : Scope) (dV doc pm : Value) (c' : Addr) (ctv : Value) : FuncData :=
  PySem.W.kdv_fn "<lambda>" (X.env.qual ++ "<lambda>") params (.expr body) scope (cloFrom X.env.cells scope.names []) dV doc pm (.ref c') ctv
abbrev lamOb (X : Cx) (params : Arguments) (body : Expr) (scope : Scope) (dV doc pm : Value) (c' : Addr) (ctv : Value) : Obj := { cls := .type "function", data := .func (lamFd X params body scope dV doc pm c' ctv) }
section
variable {X : Cx} {pins : List (Addr × Obj)} {σ : L2.St} {H : Hp} {s : Shared}
/-- the function is made, its defaults known -/
theorem lam_tail {T : List (Addr × Str)} {c P : Addr} {params : Arguments} {body : Expr} {scope : Scope} {pos : Pos} {dV : Value} {E : Value → Shared → Prop} {Q : Value → Shared → Prop} (I : Inv X pins σ H s) (tb : TabB X.base X.mg c P) (hcode : X.env.code = .ref c)
    (hm : (P, X.env.qual ++ "<lambda>") ∈ T) (hu : ∀ p ∈ T, p.1 = P → p.2 = X.env.qual ++ "<lambda>") (hT : Tabs T H) (hfree : ∀ y ∈ scope.names, y.2 = .free → ∃ c, X.env.cells.lookup y.1 = some c)
    (h : ∀ (f c' : Addr) (pm ctv doc : Value) (H1 : Hp) (s1 : Shared), Inv X pins σ H1 s1 → ExtN H H1 → Tabs T H1 → s.heap.objs.size ≤ f → (∀ b o, H b = none → s.heap.get? b = some o → s1.heap.get? b = some o ∧ H1 b = none) →
      s1.heap.get? f = some (lamOb X params body scope dV doc pm c' ctv) → H1 f = none → f ∉ frs X.stack → H1 c' = some (CodeO c' (X.env.qual ++ "<lambda>")) → Q (.ref f) s1) :
    wpAny (model X.prog X.w) X.A (makeTail "<lambda>" (X.env.qual ++ "<lambda>") params (.expr body) scope X.env dV .none none pos pos.line) Q E s := by
  obtain ⟨ps, hP, ht, ha⟩ := hT _ hm
  have bP : s.heap.BuiltinsAt X.mg P := tb.bm.keeps I.bk
  have hPs : s.heap.get? P = some { cls := .none, data := .fields ps } := I.hok P _ hP
  have gm := I.mod.glob.keeps I.bk
  have ch := tb.code.keeps I.bk
  have nofr : ∀ f, s.heap.objs.size ≤ f → f ∉ frs X.stack := fun f hf z => by
    rcases List.mem_cons.mp (I.stkSub _ z) with e | e
    · have h1 := I.lt
      rw [← e] at h1
      exact absurd (Nat.lt_of_lt_of_le h1 hf) (Nat.lt_irrefl _)
    · exact I.nofs hf e
  cases hc : codeAmong pos ps.toList with
  | none =>
    refine PySem.W.kdv_makeTail (mg := X.mg) (c := c) (P := P) (ps := ps) (closure_ok hfree) I.ok.glob gm hcode ch hPs ht hc tb.gP bP fun c' ctv doc h' tk hx hge hlt hrec htb => ?_
    obtain ⟨c2, oc, vs, t, e2, hoc, hd, hv⟩ := hrec
    cases e2
    have hsz : s.heap.objs.size ≤ h'.objs.size := Nat.le_trans hge (Nat.le_of_lt hlt)
    have nC : H c' = none := I.hok.fresh hge
    have J := inv_table (t' := tk) (more := #[rawInt pos.line, rawInt pos.col, .ref c']) (h' := h'.push (lamOb X params body scope dV doc ((X.mg "__name__").getD .none) c' ctv)) I hP
      (fun b o hb e => Heap.get?_push_of_some _ (hx b o hb e)) (Heap.get?_push_of_some _ htb) hge ⟨oc, vs, t, Heap.get?_push_of_some _ hoc, hd, hv⟩
    have hE : ExtN H (upd (upd H P (.tbl (ps ++ #[rawInt pos.line, rawInt pos.col, .ref c']))) c' (CodeO c' (X.env.qual ++ "<lambda>"))) := fun b o e n => by
      have n1 : b ≠ c' := ne_of_none e nC
      have n2 : b ≠ P := fun z => n ps (Option.some.inj (e.symm.trans (by rw [z]; exact hP)))
      rw [upd_ne n1, upd_ne n2]
      exact e
    have eL : (ps ++ #[rawInt pos.line, rawInt pos.col, .ref c']).toList = ps.toList ++ [rawInt pos.line, rawInt pos.col, .ref c'] := by simp
    refine h h'.objs.size c' ((X.mg "__name__").getD .none) ctv doc _ _ J hE (fun p hp => ?_) hsz (fun b o n e => ⟨Heap.get?_push_of_some _ (hx b o (fun z => by rw [z, hP] at n; cases n) e), ?_⟩) (Heap.get?_push_size _ rfl) ?_ (nofr _ hsz) upd_same
    · by_cases hb : p.1 = P
      · rw [hu p hp hb, hb]
        refine ⟨_, by rw [upd_ne (ne_of_none hP nC), upd_same], by rw [eL]; exact PySem.TriplesOk_snoc _ _ _ _ ht, fun p2 cv hcv => ?_⟩
        rw [eL] at hcv
        rcases among_app _ ht hcv with z | z
        · obtain ⟨c0, e1, e2⟩ := ha p2 cv z
          exact ⟨c0, e1, hE _ _ e2 codeO_ne⟩
        · exact ⟨c', z, upd_same⟩
      · obtain ⟨qs, a1, a2, a3⟩ := hT p hp
        refine ⟨qs, by rw [upd_ne (ne_of_none a1 nC), upd_ne hb]; exact a1, a2, fun p2 cv hcv => ?_⟩
        obtain ⟨c0, e1, e2⟩ := a3 p2 cv hcv
        exact ⟨c0, e1, hE _ _ e2 codeO_ne⟩
    · have n1 : b ≠ c' := fun z => by
        have l := Heap.lt_size e
        rw [z] at l
        exact absurd (Nat.lt_of_lt_of_le l hge) (Nat.lt_irrefl _)
      have n2 : b ≠ P := fun z => by rw [z, hP] at n; cases n
      rw [upd_ne n1, upd_ne n2]
      exact n
    · have n1 : h'.objs.size ≠ c' := Nat.ne_of_gt hlt
      have n2 : h'.objs.size ≠ P := Nat.ne_of_gt (Nat.lt_of_lt_of_le (Heap.lt_size hPs) hsz)
      rw [upd_ne n1, upd_ne n2]
      exact I.hok.fresh hsz
  | some cv =>
    obtain ⟨c', e, hco⟩ := ha pos cv hc
    subst e
    refine PySem.W.kdv_makeTailHit (mg := X.mg) (c := c) (P := P) (ps := ps) (closure_ok hfree) I.ok.glob gm hcode ch hPs ht hc bP fun ctv doc h' tk hx hsz => ?_
    have J : Inv X pins σ H { s with heap := h'.push (lamOb X params body scope dV doc ((X.mg "__name__").getD .none) c' ctv), toks := tk } := I.kept fun b o e => Heap.get?_push_of_some _ (hx b o e)
    exact h h'.objs.size c' ((X.mg "__name__").getD .none) ctv doc H _ J (ExtN.refl H) hT hsz (fun b o n e => ⟨Heap.get?_push_of_some _ (hx b o e), n⟩) (Heap.get?_push_size _ rfl) (I.hok.fresh hsz) (nofr _ hsz) hco
/-- .. and before that the defaults: none, or one number -/
def Dft (params : Arguments) (ks : List Int) : Prop := params.kw_defaults = [] ∧ params.kwonlyargs = [] ∧ ((ks = [] ∧ params.defaults = []) ∨ ∃ i j p, ks = [i] ∧ params.defaults = [.Constant (.int i) j p])
theorem lam_make3 {T : List (Addr × Str)} {c P : Addr} {params : Arguments} {body : Expr} {scope : Scope} {pos : Pos} {ks : List Int} {Q : Value → Shared → Prop} (I : Inv X pins σ H s) (tb : TabB X.base X.mg c P) (hcode : X.env.code = .ref c)
    (hm : (P, X.env.qual ++ "<lambda>") ∈ T) (hu : ∀ p ∈ T, p.1 = P → p.2 = X.env.qual ++ "<lambda>") (hT : Tabs T H) (hdf : Dft params ks) (hfree : ∀ y ∈ scope.names, y.2 = .free → ∃ c, X.env.cells.lookup y.1 = some c)
    (h : ∀ (f c' : Addr) (dV pm ctv doc : Value) (ds : List Value) (H1 : Hp) (s1 : Shared), Inv X pins σ H1 s1 → ExtN H H1 → Tabs T H1 → ds.length = ks.length → DfO s1.heap dV ds → (∀ t, dV = .ref t → H1 t = none ∧ t ∉ frs X.stack) →
      s1.heap.get? f = some (lamOb X params body scope dV doc pm c' ctv) → H1 f = none → f ∉ frs X.stack → H1 c' = some (CodeO c' (X.env.qual ++ "<lambda>")) → Q (.ref f) s1) :
    wpAny (model X.prog X.w) X.A (eval (.Lambda params body scope pos) X.env) Q X.xe s := by
  obtain ⟨h1, h2, h3⟩ := hdf
  rcases h3 with ⟨rfl, h3⟩ | ⟨i, j, p, rfl, h3⟩
  · refine PySem.W.kla_eval (by
      obtain ⟨_, _, _, _, _, _, _⟩ := params
      cases h1; cases h3; rfl) ?_
    rw [makeFunction_eq]
    simp only [List.zip_nil_right, List.filterMap_nil, List.isEmpty_nil, if_true, pure_bind]
    exact lam_tail I tb hcode hm hu hT hfree fun f c' pm ctv doc H1 s1 J e1 t1 _ _ g1 g2 g3 g4 => h f c' .none pm ctv doc [] H1 s1 J e1 t1 rfl (.inl ⟨rfl, rfl⟩) (fun t z => by cases z) g1 g2 g3 g4
  · refine PySem.W.kdv_lam (by rw [h3]; rfl) h1 ?_
    rw [h3]
    refine PySem.W.kdv_all1 (thn (pe_int.run pins s σ H (fun v H1 => H1 = H) I rfl) fun v s1 hv => ?_)
    obtain ⟨x, H1, I1, rx, eH⟩ := hv
    subst eH
    refine PySem.W.kdv_all0 ?_
    rw [makeFunction_eq]
    simp only [List.zip_nil_right, List.filterMap_nil, List.isEmpty_nil, if_true, pure_bind, List.isEmpty_cons, Bool.false_eq_true, if_false]
    refine wpAny_bind (wpAny_newTextTuple ?_)
    have J1 : Inv X pins σ H1 { s1 with heap := s1.heap.push { cls := .type "tuple", data := .seq [v].toArray } } := I1.kept (t' := s1.toks) fun b o e => Heap.get?_push_of_some _ e
    have fr0 : s1.heap.objs.size ∉ frs X.stack := fun z => by
      rcases List.mem_cons.mp (I1.stkSub _ z) with e | e
      · have h1 := I1.lt
        rw [← e] at h1
        exact absurd h1 (Nat.lt_irrefl _)
      · exact I1.nofs (Nat.le_refl _) e
    refine lam_tail J1 tb hcode hm hu hT hfree fun f c' pm ctv doc H2 s2 J e1 t1 _ kp g1 g2 g3 g4 => ?_
    have kt := kp s1.heap.objs.size (PySem.W.kdv_tup [v]) (I1.hok.fresh (Nat.le_refl _)) (Heap.get?_push_size _ rfl)
    exact h f c' (.ref s1.heap.objs.size) pm ctv doc [v] H2 s2 J e1 t1 rfl (.inr ⟨_, by simp, rfl, kt.1⟩) (fun t z => by cases z; exact ⟨kt.2, fr0⟩) g1 g2 g3 g4
end
end GL
namespace GL
open PySem PySem.Spec PyProof.Rows L2 LamX
/-- the lambda's names: its parameters ls, captured ones, globals -/
structure LamT (N : List Str) (sc scope : Scope) (ls : List Str) : Prop where
  kd : scope.kind = .function
  noCo : scope.isCoroutine = false
  noGen : scope.isGenerator = false
  noCell : ∀ y ∈ scope.names, y.2 ≠ .cell
  own : ∀ y ∈ scope.names, y.2 = .local → y.1 ∉ N
  par : ∀ y ∈ ls, scope.names.lookup y = some .local
  fre : ∀ y ∈ scope.names, y.2 = .free → sc.names.lookup y.1 = some .cell ∨ sc.names.lookup y.1 = some .free
def lamTB (N : List Str) (sc scope : Scope) (ls : List Str) : Bool :=
  decide (scope.kind = .function) && !scope.isCoroutine && !scope.isGenerator && (scope.names.all fun y => !decide (y.2 = .cell) && (!decide (y.2 = .local) || !N.contains y.1) && (!decide (y.2 = .free) || decide (sc.names.lookup y.1 = some .cell) || decide (sc.names.lookup y.1 = some .free))) &&
    ls.all fun y => decide (scope.names.lookup y = some .local)
theorem lamT_by {N : List Str} {sc scope : Scope} {ls : List Str} (h : lamTB N sc scope ls = true) : LamT N sc scope ls := by
  unfold lamTB at h
  simp only [Bool.and_eq_true, Bool.or_eq_true, Bool.not_eq_true', decide_eq_true_eq, decide_eq_false_iff_not, List.all_eq_true] at h
  obtain ⟨⟨⟨⟨a1, a2⟩, a3⟩, a4⟩, a5⟩ := h
  refine ⟨a1, a2, a3, fun y hy => (a4 y hy).1.1, fun y hy e m => ?_, a5, fun y hy e => ?_⟩
  · rcases (a4 y hy).1.2 with z | z
    · exact z e
    · rw [List.contains_iff_mem.mpr m] at z
      cases z
  · rcases (a4 y hy).2 with (z | z) | z
    · exact absurd e z
    · exact .inl z
    · exact .inr z
section
variable {X : Cx} {pins : List (Addr × Obj)} {σ : L2.St} {H HZ : Hp} {s s1 : Shared}
theorem LamT.caught {scope : Scope} {ls : List Str} {N : List Str} (L : LamT N X.env.scope scope ls) (ok : X.Ok) : ∀ y ∈ scope.names, y.2 = .free → ∃ c, X.env.cells.lookup y.1 = some c := fun y hy e =>
  (L.fre y hy e).elim (fun k => ok.has _ (.inl k)) fun k => ok.has _ (.inr k)
/-- entered -/
theorem lam_in {A : Around} {outer : List Env} {E : XK} {scope : Scope} {f c' : Addr} {hN : Heap} {tk : Nat} {bs : List (Str × Value)} {ls : List Str} (I : Inv X pins σ H s) (L : LamT X.N X.env.scope scope ls) (e0 : Env0 X.prog X.w X.K X.mg X.base A outer s1 HZ) (hd : A.handled = none)
    (un : Un (frs X.stack) [] H HZ s.heap s1.heap) (hns : hN.Ns s1.heap.objs.size fun y => bs.reverse.lookup y) (kp : ∀ b o, s1.heap.get? b = some o → hN.get? b = some o) :
    Inv (lamCx X A outer s1 HZ E scope f c') [] σ HZ { s1 with heap := hN, toks := tk } := by
  have fr := L.caught I.ok
  have cells : ∀ {y c}, (cloFrom X.env.cells scope.names []).lookup y = some c → X.env.cells.lookup y = some c := fun {y c} e => by
    rcases cloFrom_mem (PySem.mem_of_lookup e) with hm | ⟨q1, q2⟩
    · cases hm
    · obtain ⟨c1, hc1⟩ := fr _ q1 rfl
      have hc2 : X.env.cells.lookup y = some c1 := hc1
      have eq : c = c1 := by
        rw [q2, hc2] <;> rfl
      rw [eq]
      exact hc2
  have seen : ∀ {y}, scope.names.lookup y = some .free → ∃ c, (cloFrom X.env.cells scope.names []).lookup y = some c := fun {y} hl =>
    mem_lookup (cloFrom_has (cells := X.env.cells) (acc := []) (show (y, NameKind.free) ∈ scope.names from PySem.mem_of_lookup hl))
  have keepC : ∀ {c : Addr} {v : Option Value}, H c = none → s.heap.IsCell c v → hN.IsCell c v := fun {c v} n ⟨o, ho, hdt⟩ => by
    obtain ⟨sl, q⟩ := un.any ho n (by simp)
    exact ⟨_, kp _ _ q, hdt⟩
  have noX : ∀ b : Addr, b ∉ (lamCx X A outer s1 HZ E scope f c').ex := fun b z => absurd (show b ∈ ([] : List Addr) from z) (by simp)
  refine ⟨⟨e0.mod, L.kd, rfl, rfl, Nat.le_refl _, fun y z c e1 e2 => I.ok.inj y z c (cells e1) (cells e2), fun y hy => ?_, fun y c z _ => ?_, fun _ => hd, Around.frames_deeper e0.frames, .inr ⟨rfl, rfl⟩, fun b z => absurd z (noX b), e0.bs, e0.bsz, fun b _ _ => noX b, fun b z => absurd z (noX b), e0.funs, e0.frf⟩,
    rfl, e0.bare, Un.kept kp, ⟨_, hns, fun i y v e1 e2 e3 => ?_⟩, fun y c e => ?_, e0.hok.fresh (Nat.le_refl _), fun y c e => ?_, fun q hq => absurd (show q ∈ ([] : List (Addr × Obj)) ++ [] from hq) (by simp), e0.hok.kept kp, I.len⟩
  · rcases (show scope.names.lookup y = some .cell ∨ scope.names.lookup y = some .free from hy) with k | k
    · exact absurd rfl (L.noCell _ (PySem.mem_of_lookup k))
    · exact seen k
  · cases (show false = true from z)
  · rcases (show Vis scope y from e3) with k | k | k
    · exact absurd (List.mem_of_getElem? (show X.N[i]? = some y from e1)) (L.own _ (PySem.mem_of_lookup k) rfl)
    · exact absurd rfl (L.noCell _ (PySem.mem_of_lookup k))
    · obtain ⟨m, hn, hl⟩ := I.loc
      have vis : Vis X.env.scope y := (L.fre _ (PySem.mem_of_lookup k) rfl).elim (fun k => .inr (.inl k)) (fun k => .inr (.inr k))
      obtain ⟨u, r, q⟩ := hl i y v e1 e2 vis
      obtain ⟨c2, at2⟩ := seen k
      refine ⟨u, r, .inr ⟨.inr k, c2, at2, ?_⟩⟩
      have at1 := cells at2
      rcases q with ⟨kl, _⟩ | ⟨_, c3, e4, z⟩
      · have kl : X.env.scope.names.lookup y = some .local := kl
        rcases L.fre _ (PySem.mem_of_lookup k) rfl with k2 | k2 <;> rw [show X.env.scope.names.lookup y = _ from k2] at kl <;> cases kl
      · rw [at1] at e4
        cases e4
        exact keepC (I.freeC y _ at1) z
  · obtain ⟨u, z⟩ := I.cell y c (cells e)
    exact ⟨u, keepC (I.freeC y c (cells e)) z⟩
  · obtain ⟨v, o, ho, hdt⟩ := I.cell y c (cells e)
    exact un.free c o ho (I.freeC y c (cells e)) (by simp)
/-- the parameters, bound to their defaults -/
def BindD (ls : List Str) (n : Nat) (params : Arguments) (body : Expr) (scope : Scope) : Prop := ∀ (q : Str) (cl : List (Str × Addr)) (dV doc pm cv ctv : Value) (s : Shared) (ds : List Value), DfO s.heap dV ds → ds.length = n →
  BindsTo s (PySem.W.kdv_fn "<lambda>" q params (.expr body) scope cl dV doc pm cv ctv) ⟨[], []⟩ (ls.zip ds)
/-- a(), in the def that got the lambda -/
theorem pe_ask {CXg : CXT} {Eg : XK} {Ng : List Str} {qg : Str} {sg : Scope} {g f c' : Addr} {cdg dV doc pm ctv : Value} {ds : List Value} {ls : List Str} {params : Arguments} {body : Expr} {scope : Scope} {n k i : Nat} {a : Str} {pn : List (Addr × Obj)} {xe : Value → Shared → Prop} {W : WX} {t : XK → TE} {p1 p2 : Pos}
    (I : Inv X pins σ H s) (L : LamT X.N X.env.scope scope ls) (hf : s.heap.get? f = some (lamOb X params body scope dV doc pm c' ctv)) (hfn : H f = none) (hfr : f ∉ frs X.stack) (hD : DfO s.heap dV ds) (hDn : ∀ t, dV = .ref t → H t = none ∧ t ∉ frs X.stack)
    (hbd : BindD ls n params body scope) (hdl : ds.length = n) (tk : Takes ((cxOf CXg X.prog X.w X.K X.mg X.base Ng qg sg g cdg X.A X.stack s H Eg).tr pn xe) W) (gd : X.A.guards = some []) (hr : Room (k + 1) (X.A.deeper (envOfC qg sg s.heap.objs.size g cdg)))
    (hbody : ∀ (A : Around) (outer : List Env) (s : Shared) (H : Hp) (E : XK), A.guards = some [] → Room k (A.deeper (lamEnv X scope s.heap.objs.size f c')) → PE (lamCx X A outer s H E scope f c') body (t E))
    (hN : Ng[i]? = some a) (hv : Vis sg a) (hd : (a == ("__debug__" : Str)) = false := by decide) (hcd : (a == ("__classdict__" : Str)) = false := by decide) :
    PE ((cxOf CXg X.prog X.w X.K X.mg X.base Ng qg sg g cdg X.A X.stack s H Eg).tr pn xe) (.Call (.Name a p1) [] [] p2)
      (fun τ HZ Q => ∃ E : XK, (∀ cls d G, E cls d G → W cls d τ G) ∧ τ[i]? = some (some (.ref f)) ∧ HZ c' = some (CodeO c' (X.env.qual ++ "<lambda>")) ∧ t E σ HZ Q) := by
  refine ⟨fun pinsZ sZ τ HZ Q IZ h => ?_⟩
  obtain ⟨E, hW, q1, q2, q3⟩ := h
  refine wpAny_Call_Name_kw (thn ((pe_var (pos := p1) (i := i) hN hv hd hcd).run pinsZ sZ τ HZ (fun v G => v = .ref f ∧ G = HZ) IZ ⟨.ref f, q1, rfl, rfl⟩) fun u s2 ⟨v, G, I2, r1, e1⟩ => ?_)
  obtain ⟨ev, eG⟩ := e1
  subst ev
  subst eG
  obtain rfl : u = Value.ref f := r1
  have un : Un (frs X.stack) [] H G s.heap s2.heap := I2.base
  have of2 : s2.heap.get? f = some (lamOb X params body scope dV doc pm c' ctv) := un.keep f _ hf hfn hfr (by simp)
  have D2 : DfO s2.heap dV ds := by
    rcases hD with z | ⟨t, nd, e, z⟩
    · exact .inl z
    · obtain ⟨n1, n2⟩ := hDn t e
      exact .inr ⟨t, nd, e, un.keep t _ z n1 n2 (by simp)⟩
  refine PySem.W.callWith_F0 ⟨_, _, _, _, of2⟩ ?_
  obtain ⟨⟨oc, vs, t, hoc, hdc, hvc⟩, _, _⟩ := I2.hok c' _ q2
  have rc : codeAny (model X.prog X.w) (X.A.deeper (envOfC qg sg s.heap.objs.size g cdg)) (.call (.ref f) ⟨[], []⟩) (CR (L2.CX X.prog X.w) (envOfC qg sg s.heap.objs.size g cdg :: X.stack) X.prog X.w G s2 Q E) s2 := by
    refine PySem.W.kla_callFunE hr.depth of2 rfl L.noCo L.noGen rfl ⟨c', oc, vs, t, rfl, hoc, hdc, hvc⟩ (hbd _ _ _ _ _ _ _ s2 ds D2 hdl _ _ _ _ ?_)
    refine wpAny_newFunctionEnv (fun y hy => L.noCell y hy) (fun ⟨y, u⟩ hy => L.par y (List.of_mem_zip hy).1) (fun hN hns hsb => ⟨I2.nolimit.fresh _ hsb, ?_⟩) L.kd
    have kp : ∀ b o, s2.heap.get? b = some o → hN.get? b = some o := fun b o e => hsb.extBut b o (Nat.ne_of_lt (Heap.lt_size e)) (Heap.get?_push_of_some _ e)
    have J : Inv (lamCx X (X.A.deeper (envOfC qg sg s.heap.objs.size g cdg)) (envOfC qg sg s.heap.objs.size g cdg :: X.stack) s2 G E scope f c') [] σ G { s2 with heap := hN, toks := s2.toks + (ls.zip ds).length } := lam_in I L I2.env0 hr.hd un hns kp
    refine PySem.W.kla_codeExpr (wpAny_mono ((hbody (X.A.deeper (envOfC qg sg s.heap.objs.size g cdg)) _ s2 G E gd (hr.deeper _)).run [] _ _ G Q J q3) (fun v s3 hq => ?_) fun e s3 hq => hq)
    obtain ⟨u, G3, J3, rv, q⟩ := hq
    exact ⟨u, G3, J3.os, J3.bare, J3.base, J3.hok, rv, q⟩
  refine wpAny_call (codeAny_mono rc fun r s3 hq => ?_)
  cases r with
  | error e => exact tk e s3 (XE.of_call I2 hW hq)
  | ok fl =>
    cases fl with
    | ret u => exact I2.after hq
    | next => exact False.elim hq
    | brk => exact False.elim hq
    | cont => exact False.elim hq
end
/-- the reading of a() -/
def tAsk (W : WX) (f c' : Addr) (q : Str) (tl : XK → Hp → VK → Prop) : TE := fun τ G Q => ∃ E : XK, (∀ cls d G', E cls d G' → W cls d τ G') ∧ τ[0]? = some (some (.ref f)) ∧ G c' = some (CodeO c' q) ∧ tl E G Q
/-- the def that asks what it got: TT, what it makes of the lambda's reading -/
def Gives (X : Cx) (Ng : List Str) (x : Str) (sg : Scope) (g : Addr) (cdg : Value) (bg : List Stmt) (a q : Str) (TT : (XK → Hp → VK → Prop) → List V → Hp → VK → Prop) : Prop :=
  ∀ (f c' : Addr) (s : Shared) (H : Hp) (Q : VK) (vs : List V) (tl : XK → Hp → VK → Prop),
    (∀ (W : WX) (pn : List (Addr × Obj)) (xe : Value → Shared → Prop) (p1 p2 : Pos), Takes ((cxOf CX0 X.prog X.w X.K X.mg X.base Ng x sg g cdg X.A X.stack s H (fun _ _ _ => False)).tr pn xe) W →
      PE ((cxOf CX0 X.prog X.w X.K X.mg X.base Ng x sg g cdg X.A X.stack s H (fun _ _ _ => False)).tr pn xe) (.Call (.Name a p1) [] [] p2) (tAsk W f c' q tl)) →
    H c' = some (CodeO c' q) → TT tl vs H Q →
    ∃ t, PSs (cxOf CX0 X.prog X.w X.K X.mg X.base Ng x sg g cdg X.A X.stack s H (fun _ _ _ => False)).nox bg t ∧ t { nx := fun _ G => Q .non G, rt := Q } (L2.start Ng (.ref f :: vs)) H
def tLamG (T : List (Addr × Str)) (m : Nat) (TT : (XK → Hp → VK → Prop) → List V → Hp → VK → Prop) (t : XK → TE) (tes : TA) : TE := fun σ H Q => Tabs T H ∧ ∀ H1, ExtN H H1 → Tabs T H1 → tes σ H1 fun vs H2 => Ex H1 H2 ∧ vs.length = m ∧ TT (fun E G Q' => t E σ G Q') vs H2 Q
section
variable {X : Cx}
/-- x(lambda ..: body, e, ..) -/
theorem pe_lamG {T : List (Addr × Str)} {TT : (XK → Hp → VK → Prop) → List V → Hp → VK → Prop} {x a : Str} {g c P : Addr} {k : Nat} {fdg : FuncData} {st : Stmt} {Ng pr ls : List Str} {ks : List Int}
    {params : Arguments} {body : Expr} {scope : Scope} {t : XK → TE} {es : List Expr} {tes : TA} {p lpos pos : Pos} (gd : X.A.guards = some []) (hr : Room (k + 2) X.A) (hg : Gl X x) (hm : X.mg x = some (.ref g)) (F : Fun X.K x x st g fdg) (hb : Binds X.K fdg (a :: pr) []) (Sg : FnScope Ng (a :: pr) (defScope st)) (hNg : Ng[0]? = some a) (hva : Vis (defScope st) a)
    (hG : ∀ cdv, Gives X Ng x (defScope st) g cdv (defBody st) a (X.env.qual ++ "<lambda>") TT)
    (tb : TabB X.base X.mg c P) (hcode : X.env.code = .ref c) (hmT : (P, X.env.qual ++ "<lambda>") ∈ T) (hu : ∀ p ∈ T, p.1 = P → p.2 = X.env.qual ++ "<lambda>") (L : LamT X.N X.env.scope scope ls) (hdf : Dft params ks) (hbd : BindD ls ks.length params body scope)
    (hbody : ∀ (A : Around) (outer : List Env) (s : Shared) (H : Hp) (E : XK) (f c' : Addr), A.guards = some [] → Room k (A.deeper (lamEnv X scope s.heap.objs.size f c')) → PE (lamCx X A outer s H E scope f c') body (t E)) (ha : PA X es tes)
    (hdb : (x == ("__debug__" : Str)) = false := by decide) (hd : (a == ("__debug__" : Str)) = false := by decide) (hcd : (a == ("__classdict__" : Str)) = false := by decide) (hpl : (backTo pos (starEach es X.env)).any (·.1) = false := by rfl) :
    PE X (.Call (.Name x p) (.Lambda params body scope lpos :: es) [] pos) (tLamG T pr.length TT t tes) := by
  refine ⟨fun pins s σ H Q I h => ?_⟩
  obtain ⟨hT, h⟩ := h
  obtain ⟨oc, od, kV, docg, pmg, an, cdg, ctg, osl, rfl, lk, hcg⟩ := F.ex
  refine wpAny_Call_Name_kw (ld_glob I hg hm ?_ hdb)
  refine PySem.W.callWith_K (h₀ := X.base) I.ok.mod.kin F.kp ?_ (by rfl) hpl
  show wpAny _ _ (spliced ((false, eval (.Lambda params body scope lpos) X.env) :: backTo pos (starEach es X.env))) _ _ s
  refine Calls.spliced_cons (lam_make3 I tb hcode hmT hu hT hdf (L.caught I.ok) fun f c' dV pm ctv doc ds H1 s1 J1 eN T1 hdl hD hDn hf hfn hfr hco => ?_)
  have lf : f ≠ X.env.locals := fun z => by
    obtain ⟨m, ⟨o, es', ep, e1, e2, _⟩, _⟩ := J1.loc
    rw [z, e1] at hf
    cases hf
    cases e2
  have fsS : ∀ b, b ∉ frs X.stack → b ∉ X.fs := fun b n z => by
    rcases J1.ok.stk with e | ⟨e, _⟩
    · exact n (by rw [e]; exact z)
    · exact n (by rw [e]; exact List.mem_filterMap.mpr (let ⟨q, m, r⟩ := List.mem_filterMap.mp z; ⟨q, List.mem_cons_of_mem _ m, r⟩))
  obtain ⟨pd, hpd1, hpd2⟩ : ∃ pd : List (Addr × Obj), (∀ q ∈ pd, s1.heap.get? q.1 = some q.2 ∧ H1 q.1 = none ∧ q.1 ≠ X.env.locals ∧ q.1 ∉ X.fs ∧ ∀ v, q.2.data ≠ .cell v) ∧ (∀ G : Heap, (∀ q ∈ pd, G.get? q.1 = some q.2) → DfO G dV ds) ∧ (∀ t, dV = .ref t → ∃ o, (t, o) ∈ pd) := by
    rcases hD with ⟨e1, e2⟩ | ⟨t, nd, e, z⟩
    · exact ⟨[], fun q hq => by simp at hq, fun G _ => .inl ⟨e1, e2⟩, fun t e => by rw [e2] at e; cases e⟩
    · obtain ⟨n1, n2⟩ := hDn t e
      refine ⟨[(t, PySem.W.kdv_tup ds)], fun q hq => ?_, fun G hq => .inr ⟨t, nd, e, hq _ (List.mem_singleton.mpr rfl)⟩, fun t' e' => ⟨_, by rw [e] at e'; cases e'; exact List.mem_singleton.mpr rfl⟩⟩
      have eq : q = (t, PySem.W.kdv_tup ds) := by simpa using hq
      rw [eq]
      refine ⟨z, n1, fun y => ?_, fsS t n2, fun v y => by cases y⟩
      obtain ⟨m, ⟨o, es', ep, e1, e2, _⟩, _⟩ := J1.loc
      have y : t = X.env.locals := y
      rw [y, e1] at z
      cases z
      cases e2
  have hp2 : ∀ q ∈ X.pn ++ ((f, lamOb X params body scope dV doc pm c' ctv) :: (pd ++ pins)), s1.heap.get? q.1 = some q.2 ∧ H1 q.1 = none ∧ q.1 ≠ X.env.locals ∧ q.1 ∉ X.fs ∧ ∀ v, q.2.data ≠ .cell v := by
    intro q hq
    rcases List.mem_append.mp hq with m | m
    · exact J1.pin q (List.mem_append_left _ m)
    · rcases List.mem_cons.mp m with m | m
      · rw [m]
        exact ⟨hf, hfn, lf, fsS f hfr, fun v z => by cases z⟩
      · rcases List.mem_append.mp m with m | m
        · exact hpd1 q m
        · exact J1.pin q (List.mem_append_right _ m)
  have J2 : Inv X ((f, lamOb X params body scope dV doc pm c' ctv) :: (pd ++ pins)) σ H1 s1 := { J1 with pin := hp2 }
  refine thn (ha.run pos _ s1 σ H1 _ J2 (h H1 eN T1)) ?_
  rintro us s2 ⟨vs, H2, I2, rv, e12, hlen, q⟩
  have hp3 : ∀ q ∈ X.pn ++ pins, s2.heap.get? q.1 = some q.2 ∧ H2 q.1 = none ∧ q.1 ≠ X.env.locals ∧ q.1 ∉ X.fs ∧ ∀ v, q.2.data ≠ .cell v := by
    intro q hq
    rcases List.mem_append.mp hq with m | m
    · exact I2.pin q (List.mem_append_left _ m)
    · exact I2.pin q (List.mem_append_right _ (List.mem_cons_of_mem _ (List.mem_append_right _ m)))
  have I2' : Inv X pins σ H2 s2 := { I2 with pin := hp3 }
  have pf := I2.pin (f, lamOb X params body scope dV doc pm c' ctv) (List.mem_append_right _ List.mem_cons_self)
  have D2 : DfO s2.heap dV ds := hpd2.1 s2.heap fun q hq => (I2.pin q (List.mem_append_right _ (List.mem_cons_of_mem _ (List.mem_append_left _ hq)))).1
  have hDn2 : ∀ t, dV = .ref t → H2 t = none ∧ t ∉ frs X.stack := fun t e => by
    obtain ⟨o, m⟩ := hpd2.2 t e
    exact ⟨(I2.pin (t, o) (List.mem_append_right _ (List.mem_cons_of_mem _ (List.mem_append_left _ m)))).2.1, (hDn t e).2⟩
  refine ⟨I2'.kIn, ?_⟩
  have lv := rv.length
  have rc : codeAny (model X.prog X.w) X.A (.call (.ref g) ⟨.ref f :: us, []⟩) (CR CX0 X.stack X.prog X.w H2 s2 Q (fun _ _ _ => False)) s2 := by
    refine run_ofS (k := k + 1) (N := Ng) (ps := a :: pr) (us := .ref f :: us) (vs := .ref f :: vs) lk hcg Sg hr I2'.env0 (by have z := hb s2 (.ref f :: us) I2'.kIn (by simp [← lv, hlen]); rwa [List.append_nil] at z) (.cons rfl rv) (by simp [hlen]) fun hr2 => ?_
    obtain ⟨t2, ht2, hq2⟩ := hG cdg f c' s2 H2 Q vs (fun E G Q' => t E σ G Q') (fun W pn xe p1 p2 tk => pe_ask (i := 0) I2' L pf.1 pf.2.1 hfr D2 hDn2 hbd hdl tk gd hr2 (fun A outer s H E gd2 hr3 => hbody A outer s H E f c' gd2 hr3) hNg hva hd hcd) (e12 _ _ hco) q
    exact ⟨t2, ht2.nox, hq2⟩
  refine wpAny_call (codeAny_mono rc fun r s3 hq => ?_)
  cases r with
  | error e => exact (show False from hq).elim
  | ok fl =>
    cases fl with
    | ret u => exact I2'.after hq
    | next => exact False.elim hq
    | brk => exact False.elim hq
    | cont => exact False.elim hq
end
end GL
/-! Defs that make lambdas: their code object known; the law's end with their tables. -/
namespace GL
open PySem PySem.Spec PyProof.Rows L2 LamX
/-- cd is the code of the def at f -/
def CodeF (K : PySem.W.Frag) (f : Addr) (cd : Value) : Prop := ∃ o fd, K.lookup f = some o ∧ o.data = .func fd ∧ fd.code = cd
/-- the table of the def at f -/
def tabAt (K : PySem.W.Frag) (f : Addr) : Option Addr := match K.lookup f with
  | some o => match o.data with
    | .func fd => match fd.code with
      | .ref c => match K.lookup c with
        | some oc => match oc.data with
          | .fields vs => match (vs[11]? : Option Value) with
            | some (.ref P) => some P
            | _ => none
          | _ => none
        | none => none
      | _ => none
    | _ => none
  | none => none
def tabsB (K : PySem.W.Frag) (fs : List Addr) : Bool := let ps := fs.map (tabAt K); ps.all (fun q => match q with
  | some P => (K.lookup P).isNone
  | none => false) && decide ps.Nodup
/-- of the table at P -/
def TabF (K : PySem.W.Frag) (bs : Heap) (mg : Str → Option Value) (f P : Addr) : Prop := ∃ c, CodeF K f (.ref c) ∧ TabB bs mg c P
theorem TabF.code {K : PySem.W.Frag} {bs : Heap} {mg : Str → Option Value} {f P : Addr} {cd : Value} (t : TabF K bs mg f P) (h : CodeF K f cd) : ∃ c, cd = .ref c ∧ TabB bs mg c P := by
  obtain ⟨c, ⟨o, fd, e1, e2, e3⟩, tb⟩ := t
  obtain ⟨o', fd', g1, g2, g3⟩ := h
  rw [e1] at g1
  cases g1
  rw [e2] at g2
  cases g2
  exact ⟨c, by rw [← g3, e3], tb⟩
section
variable {pg : Program} {w : World} {K : PySem.W.Frag} {mg : Str → Option Value} {bs : Heap}
/-- a def by its body, its code known -/
theorem Fun.okGC {cx : CXT} {x q : Str} {st : Stmt} {f : Addr} {fd : FuncData} {N ps : List Str} {k : Nat} {sp : Sp} (F : Fun K x q st f fd)
    (S : FnScope N ps (defScope st)) (len : ∀ vs H Q E, sp vs H Q E → vs.length = ps.length)
    (hb : ∀ (cd : Value) (A : Around) (out : List Env) (s : Shared) (H : Hp) (vs : List V) (Q : VK) (E : XK), A.guards = some [] → CodeF K f cd →
      Room k (A.deeper (envOfC q (defScope st) s.heap.objs.size f cd)) → sp vs H Q E →
      ∃ t, PSs (cxOf cx pg w K mg bs N q (defScope st) f cd A out s H E) (defBody st) t ∧ t { nx := fun _ H' => Q .non H', rt := Q } (start N vs) H) :
    FnG pg w K mg bs cx (k + 1) f fd ps sp := by
  obtain ⟨oc, od, kV, doc, pm, an, cd, ct, osl, rfl, lk, hcd⟩ := F.ex
  refine ⟨len, fun A out s H ar us vs Q E hg rm ev hbi rv hsp => ?_⟩
  have hle := len _ _ _ _ hsp
  have keepB : ∀ b o, bs.get? b = some o → s.heap.get? b = some o := fun b o z => (ev.bs b o z).1
  have KX : K.In s.heap := ev.mod.kin.keeps keepB
  have lim : s.heap.NoLimit := ev.mod.nolimit.keeps keepB
  have kinds : ∀ y ∈ ps.zip us, (defScope st).names.lookup y.1 = some .local ∨
      ((defScope st).names.lookup y.1 = some .cell ∧ ((cellsFrom (s.heap.objs.size + 1) (defScope st).names []).lookup y.1).isSome = true) := by
    rintro ⟨n, v⟩ hy
    rcases S.par n (List.of_mem_zip hy).1 with z | z
    · exact .inl z
    · exact .inr ⟨z, PySem.W.cellsFrom_some _ _ _ (.inl z)⟩
  have room := rm.depth
  refine codeAny_call_function room (KX _ _ lk) rfl S.co S.gen rfl (PySem.W.codeRec_of KX hcd) (hbi _ _ _ _ ?_)
  refine wpAny_newFunctionEnv_cells S.kind kinds fun env he s1 ic => ?_
  subst he
  refine ⟨lim.keeps ic.toInCall.keep, codeAny_func ?_⟩
  obtain ⟨t, ht, hq⟩ := hb cd A out s H vs Q E hg ⟨_, _, lk, rfl, rfl⟩ (rm.deeper _) hsp
  have J := inv_start (CX := cx) (E := E) S rm.hd ev hle rv ic
  refine wpAny_mono (ht.run [] s1 (start N vs) H _ J hq) (fun fl s' hs => ?_) fun e s' hs => hs
  cases fl with
  | ret u => exact (let ⟨_, _, _, J', rv', z⟩ := hs; to_end J' rv' z)
  | next => exact (let ⟨_, _, J', z⟩ := hs; to_end (v := V.non) (u := Value.none) J' rfl z)
  | brk => exact (let ⟨_, _, _, z⟩ := hs; False.elim z)
  | cont => exact (let ⟨_, _, _, z⟩ := hs; False.elim z)
end
/-! ### the end -/
section
theorem law_inT {pg : Program} {w : World} {K : PySem.W.Frag} {mg mb : Str → Option Value} {cx : CXT} {k : Nat} {fa a : Addr} {fd : FuncData} {x : Str} {sp : Sp} {s : Shared} {tf : List (Addr × Addr × Addr)}
    {vs : List Value} {H : Hp} (KX : K.In s.heap) (hns : s.heap.Ns mainGlobals mg) (hb : s.heap.Ns builtinsNs mb)
    (hbb : ∀ y : Str, y ≠ "__name__" → mb y = bootBuiltins y) (lim : s.heap.NoLimit) (hg : s.gens = #[])
    (ha : s.heap.get? a = some { cls := .type "list", data := .seq vs.toArray }) (rm : Room k callerA)
    (hbm : ∃ (bm : Addr) (ob : Obj), mg "__builtins__" = some (.ref bm) ∧ bm ≠ builtinsNs ∧ s.heap.get? bm = some ob ∧ ob.cls = .type "module" ∧ ob.dict = some builtinsNs ∧ ob.data = .plain)
    (hT : ∀ p ∈ tf, s.heap.get? p.2.2 = some { cls := .none, data := .fields #[] }) (nT : ∀ p ∈ tf, K.lookup p.2.2 = none) (hC : ∀ p ∈ tf, CodeF K p.1 (.ref p.2.1) ∧ PySem.W.CodeHd s.heap p.2.1 p.2.2)
    (sm : ∃ o es ep, s.heap.get? sysModules = some o ∧ o.data = .dict es ep) (F : ∀ bs : Heap, K.In bs → bs.Ns mainGlobals mg → SmB bs → (∀ p ∈ tf, TabF K bs mg p.1 p.2.2) → FnG pg w K mg bs cx k fa fd [x] sp) (hbi : ∀ (s : Shared) (u : Value), BindsTo s fd ⟨[u], []⟩ [(x, u)])
    (hO : ∀ b, H b = none ∨ (∃ p ∈ tf, p.2.2 = b ∧ H b = some (.tbl #[])) ∨ ∃ o xs, H b = some (.frz o (.lst xs))) (hok : HOk pg w H s.heap) (only : ∀ b, H b ≠ none → b = a ∨ ∃ p ∈ tf, p.2.2 = b) (hK : H a ≠ none → K.lookup a = none)
    (hH : ∀ p ∈ tf, H p.2.2 = some (.tbl #[])) (hsp : sp [.ref a] H (fun v _ => v = .bl true) fun _ _ _ => False) (hcx : ∀ H e s', cx [] H s (fun _ _ _ => False) e s' → False) :
    codeAny (model pg w) callerA (.call (.ref fa) ⟨[.ref a], []⟩)
      (fun r s' => r = .ok (.ret (.bool true)) ∧ OldK s.heap s'.heap ∧ s'.os = s.os ∧ AllBare s'.gens) s := by
  have off : ∀ {b : Addr} {o : Obj}, s.heap.get? b = some o → (∀ us n, o.data ≠ .seq us n) → o.data ≠ .fields #[] → H b = none := by
    intro b o e n1 n2
    cases q : H b with
    | none => rfl
    | some u =>
      rcases only b (by rw [q]; simp) with z | ⟨p, hp, z⟩
      · rw [z, ha] at e
        cases e
        exact (n1 _ _ rfl).elim
      · have e2 := hT p hp
        rw [z, e] at e2
        cases e2
        exact (n2 rfl).elim
  have noDict : ∀ {b : Addr} {o : Obj} {es : Array DictEntry} {ep : Nat}, s.heap.get? b = some o → o.data = .dict es ep → H b = none := fun e d =>
    off e (fun us n z => by rw [d] at z; cases z) fun z => by rw [d] at z; cases z
  have ns_of : ∀ {b : Addr} {m : Str → Option Value}, s.heap.Ns b m → (hidT s.heap H).Ns b m := fun ⟨o, es, ep, e, d, r⟩ => ⟨o, es, ep, hidT_get e (noDict e d), d, r⟩
  have KB : K.In (hidT s.heap H) := fun b o e => hidT_get (KX b o e) (by
    by_cases z : H b = none
    · exact z
    · rcases only b z with q | ⟨p, hp, q⟩
      · rw [q] at z e
        rw [hK z] at e
        cases e
      · have n := nT p hp
        rw [q, e] at n
        cases n)
  have md : Mod K mg (hidT s.heap H) := ⟨KB, ns_of hns, ⟨mb, ns_of hb, hbb⟩, lim.imp fun _ z => ⟨ns_of z.1, z.2⟩⟩
  have tbs : ∀ p ∈ tf, TabF K (hidT s.heap H) mg p.1 p.2.2 := fun p hp => by
    obtain ⟨cf, C⟩ := hC p hp
    refine ⟨p.2.1, cf, ?_, ?_, fun z => ?_⟩
    · obtain ⟨o, us, file, tf, flags, tg, inF, text, tt, e1, r1, r2, r3, r4, r5, r6, r7, r8, hne⟩ := C
      exact ⟨o, us, file, tf, flags, tg, inF, text, tt, hidT_get e1 (off e1 (fun vs n z => by rw [r2] at z; cases z) fun z => by rw [r2] at z; cases z; simp at r3), r1, r2, r3, r4, r5, r6, r7, r8, hne⟩
    · obtain ⟨bm, ob, b1, b2, b3, b4, b5, b6⟩ := hbm
      have nG : bm ≠ mainGlobals := fun q => by
        obtain ⟨o, es, ep, e, hd, _⟩ := hns
        rw [q, e] at b3
        cases b3
        rw [hd] at b6
        cases b6
      have nP : bm ≠ p.2.2 := fun q => by
        rw [q, hT p hp] at b3
        cases b3
        cases b6
      exact ⟨bm, ob, b1, b2, nG, nP, hidT_get b3 (off b3 (fun vs n z => by rw [b6] at z; cases z) fun z => by rw [b6] at z; cases z), b4, b5, b6⟩
    · obtain ⟨o, es, ep, e, hd, _⟩ := hns
      rw [z, hT p hp] at e
      cases e
      cases hd
  have ev : Env0 pg w K mg (hidT s.heap H) callerA [] s H :=
    ⟨rfl, md, fun _ _ e => of_hidT e, Nat.le_of_eq (hidT_size _ _), trivial, (fun b z => absurd (show b ∈ ([] : List Addr) from z) (by simp)), hok, .of_eq hg⟩
  refine codeAny_mono ((F _ KB (ns_of hns) (let ⟨o, es, ep, e1, e2⟩ := sm; ⟨o, hidT_get e1 (noDict e1 e2)⟩) tbs).run callerA [] s H ⟨[.ref a], []⟩ [.ref a] [.ref a] _ _ rfl rm ev (hbi s (.ref a)) (.cons rfl .nil) hsp) ?_
  rintro (e | fl) s' z
  · exact (hcx H e s' z).elim
  · cases fl with
    | ret u =>
      obtain ⟨v, H', os, bare, un, hok', ru, rfl⟩ := z
      cases ru
      have stay : ∀ b o, (∀ p ∈ tf, p.2.2 ≠ b) → s.heap.get? b = some o → s'.heap.get? b = some o := fun b o nb e => by
        rcases hO b with q | ⟨p, hp, q, _⟩ | ⟨ob, xs, q⟩
        · exact un.keep b o e q (by intro y; cases y) (by intro y; cases y)
        · exact absurd q (nb p hp)
        · have e1 := (hok b _ q).1
          have e2 := (hok' b _ (un.frzs b ob _ q)).1
          exact e2.trans (e1.symm.trans e)
      have grown : ∀ p ∈ tf, ∃ more : Array Value, s'.heap.get? p.2.2 = some { cls := .none, data := .fields more } := fun p hp => by
        obtain ⟨more, z⟩ := un.tbls p.2.2 #[] (hH p hp)
        exact ⟨_, hok' p.2.2 _ z⟩
      refine ⟨rfl, ⟨fun b o e => ?_, fun b o e => ?_⟩, os, bare⟩
      · by_cases hb : ∃ p ∈ tf, p.2.2 = b
        · obtain ⟨p, hp, ep⟩ := hb
          obtain ⟨more, hm⟩ := grown p hp
          rw [← ep] at e ⊢
          rw [hT p hp] at e
          cases e
          exact .inr (.inl ⟨((hC p hp).2.tab (hT p hp)).isCodeTable, rfl, #[], more, rfl, by rw [Array.empty_append]; exact hm⟩)
        · exact .inl (stay b o (fun p hp q => hb ⟨p, hp, q⟩) e)
      · by_cases hb : ∃ p ∈ tf, p.2.2 = b
        · obtain ⟨p, hp, ep⟩ := hb
          obtain ⟨more, hm⟩ := grown p hp
          rw [← ep]
          exact ⟨_, hm⟩
        · exact ⟨o, stay b o (fun p hp q => hb ⟨p, hp, q⟩) e⟩
    | next => exact z.elim
    | brk => exact z.elim
    | cont => exact z.elim
theorem tabs_out {K : PySem.W.Frag} {fs : List Addr} (h : tabsB K fs = true) : ∀ f ∈ fs, ∃ P, tabAt K f = some P ∧ K.lookup P = none := fun f hf => by
  unfold tabsB at h
  simp only [Bool.and_eq_true, List.all_eq_true, List.mem_map] at h
  have q := h.1 (tabAt K f) ⟨f, hf, rfl⟩
  cases e : tabAt K f with
  | none => rw [e] at q; cases q
  | some P => rw [e] at q; exact ⟨P, rfl, Option.isNone_iff_eq_none.mp q⟩
theorem tabs_ne {K : PySem.W.Frag} {f g P Q : Addr} {fs : List Addr} (h : tabsB K (f :: g :: fs) = true) (h1 : tabAt K f = some P) (h2 : tabAt K g = some Q) : P ≠ Q := fun e => by
  unfold tabsB at h
  simp only [Bool.and_eq_true, decide_eq_true_eq, List.map_cons, List.nodup_cons, List.mem_cons] at h
  exact h.2.1 (.inl (by rw [h1, h2, e]))
/-- what is known of the law's promise at the head's heap -/
def LawT (l : PySem.W.OpenLaw) (w : World) (K : PySem.W.Frag) (cx : CXT) (k n : Nat) (x : Str) (mg : Str → Option Value) (fa : Addr) (rs : List DefRec) : Prop :=
  ∃ (fd : FuncData) (fts : List Addr) (sp : Sp), tabsB K fts = true ∧ (∀ f ∈ fts, ∃ d ∈ rs, mg d.name = some (.ref f)) ∧ (∀ (s : Shared) (u : Value), BindsTo s fd ⟨[u], []⟩ [(x, u)]) ∧
    (∀ (H : Hp) (a : Addr) (ns : List Int), ns.length ≤ n → (∀ f ∈ fts, ∀ P, tabAt K f = some P → H P = some (.tbl #[])) → SqL K H a (ns.map V.int) → sp [.ref a] H (fun v _ => v = .bl true) fun _ _ _ => False) ∧
    ∀ bs : Heap, K.In bs → bs.Ns mainGlobals mg → SmB bs → (∀ f ∈ fts, ∀ P, tabAt K f = some P → TabF K bs mg f P) → FnG l.prog w K mg bs cx k fa fd [x] sp
theorem walkT {l : PySem.W.OpenLaw} {n k : Nat} {q : Program} {loose : List Str} {XP : (Str → Option Value) → Heap → Prop} {YP : World → Heap → Prop} {d : DefRec}
    {K : Params → PySem.W.Frag} {cx : CXT} {x : Str} (hi : importsNone q = true) (hn : l.most = some n) (hn2 : n ≤ sizeLine) (hdf : d.params.defaults = []) (rm : Room k callerA)
    (hY : ∀ (w : World) (h : Heap), YP w h → (K w.params).In h)
    (F : ∀ (w : World) (mg : Str → Option Value) (fa : Addr) (h : Heap), (K w.params).In h → h.Ns mainGlobals mg → mg d.name = some (.ref fa) → LawT l w (K w.params) cx k n x mg fa (recsOf q))
    (hcx : ∀ (H : Hp) (s : Shared) (e : Value) (s' : Shared), cx [] H s (fun _ _ _ => False) e s' → False) :
    PySem.W.WalkO q loose XP YP l.row.toRowW d [] (fun f vs => PySem.call f vs) := by
  refine Att.attach_call hn hdf ?_
  intro w _ s mg mb fa o pm cd doc a vs ns G Y ho hd hcd hmg hob hin hle hg
  have KX := hY w _ Y
  have sm : ∃ o es ep, s.heap.get? sysModules = some o ∧ o.data = .dict es ep := by
    obtain ⟨mm, ⟨o, es, ep, e1, e2, _⟩, _⟩ := (G.T.seer hi).mods
    exact ⟨o, es, ep, e1, e2⟩
  obtain ⟨fd, fts, sp, tB, hd2, hb, hsp, hF⟩ := F w mg fa _ KX G.T.g hmg
  have rv := vals_ints hin
  have lv := hin.length
  -- the tables
  obtain ⟨tf, htf, htf2⟩ : ∃ tf : List (Addr × Addr × Addr), (∀ p ∈ tf, p.1 ∈ fts ∧ tabAt (K w.params) p.1 = some p.2.2 ∧ (K w.params).lookup p.2.2 = none ∧ s.heap.get? p.2.2 = some { cls := .none, data := .fields #[] } ∧ CodeF (K w.params) p.1 (.ref p.2.1) ∧ PySem.W.CodeHd s.heap p.2.1 p.2.2) ∧ ∀ f ∈ fts, ∃ p ∈ tf, p.1 = f := by
    have one : ∀ f ∈ fts, ∃ p : Addr × Addr × Addr, p.1 = f ∧ tabAt (K w.params) p.1 = some p.2.2 ∧ (K w.params).lookup p.2.2 = none ∧ s.heap.get? p.2.2 = some { cls := .none, data := .fields #[] } ∧ CodeF (K w.params) p.1 (.ref p.2.1) ∧ PySem.W.CodeHd s.heap p.2.1 p.2.2 := fun f hf => by
      obtain ⟨P, hP, nP⟩ := tabs_out tB f hf
      obtain ⟨dd, hdm, hdn⟩ := hd2 f hf
      obtain ⟨a', o', fd', c, P', h1, h2, h3, h4, h5, h6⟩ := G.T.tab dd hdm
      rw [hdn] at h1
      cases h1
      have C := PySem.W.CodeHd.of h5 h6
      have hPt := h6
      unfold tabAt at hP
      split at hP
      · rename_i oK kf
        have e1 := KX _ _ kf
        rw [h2] at e1
        cases e1
        rw [h3] at hP
        simp only [h4] at hP
        split at hP
        · rename_i oc kc
          have e2 := KX _ _ kc
          obtain ⟨o2, us, file, tf, flags, tg, inF, text, tt, g1, g2, g3, g4, _⟩ := id C
          rw [g1] at e2
          cases e2
          rw [g3] at hP
          simp only [g4] at hP
          cases hP
          refine ⟨(f, c, P), rfl, ?_, nP, ?_, ⟨_, _, kf, h3, h4⟩, C⟩
          · show tabAt _ f = some P
            unfold tabAt
            simp only [kf, h3, h4, kc, g3, g4]
          · exact hPt.2
        · cases hP
      · cases hP
    clear hsp hF hd2 tB
    induction fts with
    | nil => exact ⟨[], ⟨fun p hp => (List.not_mem_nil hp).elim, fun f hf => (List.not_mem_nil hf).elim⟩⟩
    | cons f r ih =>
      obtain ⟨p, hp1, hp2⟩ := one f List.mem_cons_self
      obtain ⟨tf, t1, t2⟩ := ih fun g hg => one g (List.mem_cons_of_mem _ hg)
      refine ⟨p :: tf, fun z hz => ?_, fun g hg => ?_⟩
      · rcases List.mem_cons.mp hz with e | m
        · rw [e]
          exact ⟨by rw [hp1]; exact List.mem_cons_self, hp2⟩
        · exact ⟨List.mem_cons_of_mem _ (t1 z m).1, (t1 z m).2⟩
      · rcases List.mem_cons.mp hg with e | m
        · exact ⟨p, List.mem_cons_self, by rw [hp1, e]⟩
        · obtain ⟨z, z1, z2⟩ := t2 g m
          exact ⟨z, List.mem_cons_of_mem _ z1, z2⟩
  have bmn := G.T.bmain
  have hTb : ∀ p ∈ tf, s.heap.get? p.2.2 = some { cls := .none, data := .fields #[] } := fun p hp => (htf p hp).2.2.2.1
  have sm2 := sm
  have tabsF : ∀ bs : Heap, (∀ p ∈ tf, TabF (K w.params) bs mg p.1 p.2.2) → ∀ f ∈ fts, ∀ P, tabAt (K w.params) f = some P → TabF (K w.params) bs mg f P := fun bs h f hf P hP => by
    obtain ⟨p, hp, e⟩ := htf2 f hf
    have z := h p hp
    have t := (htf p hp).2.1
    rw [e] at z t
    rw [hP] at t
    cases t
    exact z
  have Fall : ∀ bs : Heap, (K w.params).In bs → bs.Ns mainGlobals mg → SmB bs → (∀ p ∈ tf, TabF (K w.params) bs mg p.1 p.2.2) → FnG l.prog w (K w.params) mg bs cx k fa fd [x] sp := fun bs h1 h2 h3 h4 => hF bs h1 h2 h3 (tabsF bs h4)
  have inT : ∀ b, (∃ p ∈ tf, p.2.2 = b) → s.heap.get? b = some { cls := .none, data := .fields #[] } := fun b ⟨p, hp, e⟩ => by rw [← e]; exact hTb p hp
  have aT : ¬ ∃ p ∈ tf, p.2.2 = a := fun z => by
    have q := inT a z
    rw [hob] at q
    have z' : Data.seq vs.toArray _ = Data.fields #[] := congrArg Obj.data (Option.some.inj q)
    cases z'
  have hfin : ∀ H : Hp, (∀ p ∈ tf, H p.2.2 = some (.tbl #[])) → ∀ f ∈ fts, ∀ P, tabAt (K w.params) f = some P → H P = some (.tbl #[]) := fun H h f hf P hP => by
    obtain ⟨p, hp, e⟩ := htf2 f hf
    have t := (htf p hp).2.1
    rw [e, hP] at t
    cases t
    exact h p hp
  have deci : ∀ b, Decidable (∃ p ∈ tf, p.2.2 = b) := fun b => Classical.propDecidable _
  cases hk : (K w.params).lookup a with
  | some o' =>
    have e := KX a o' hk
    rw [hob] at e
    cases e
    have hp : ∀ p ∈ tf, (if ∃ q ∈ tf, q.2.2 = p.2.2 then some (HO.tbl #[]) else none) = some (HO.tbl #[]) := fun p hp => if_pos ⟨p, hp, rfl⟩
    have S : SqL (K w.params) (fun b => if ∃ q ∈ tf, q.2.2 = b then some (HO.tbl #[]) else none) a (ns.map V.int) :=
      .inr ⟨_, vs.toArray, _, hk, rfl, rfl, rfl, by rw [List.size_toArray, lv]; exact Nat.le_trans hle hn2, by simpa using rv⟩
    refine law_inT (tf := tf) (H := fun b => if ∃ q ∈ tf, q.2.2 = b then some (HO.tbl #[]) else none) KX G.T.g G.T.b G.T.builtins G.T.nolimit hg hob rm bmn hTb (fun p hp => (htf p hp).2.2.1) (fun p hp => (htf p hp).2.2.2.2) sm Fall hb (fun b => ?_) (fun b u z => ?_) (fun b z => ?_) (fun z => absurd (if_neg aT) z) hp
      (hsp _ a ns hle (hfin _ hp) S) fun H e s' => hcx H s e s'
    · by_cases hb : ∃ q ∈ tf, q.2.2 = b
      · obtain ⟨p, hp, e⟩ := id hb
        exact .inr (.inl ⟨p, hp, e, if_pos hb⟩)
      · exact .inl (if_neg hb)
    · by_cases hb : ∃ q ∈ tf, q.2.2 = b
      · have z' := (if_pos hb).symm.trans z
        cases z'
        exact inT b hb
      · have z' := (if_neg hb).symm.trans z
        cases z'
    · by_cases hb : ∃ q ∈ tf, q.2.2 = b
      · exact .inr hb
      · exact absurd (if_neg hb) z
  | none =>
    obtain ⟨H, eH⟩ : ∃ H : Hp, H = fun b => if b = a then some (.frz { cls := .type "list", data := .seq vs.toArray } (.lst (ns.map V.int))) else if ∃ q ∈ tf, q.2.2 = b then some (HO.tbl #[]) else none := ⟨_, rfl⟩
    have Ha : H a = some (.frz { cls := .type "list", data := .seq vs.toArray } (.lst (ns.map V.int))) := by rw [eH]; exact if_pos rfl
    have Ht : ∀ b, (∃ q ∈ tf, q.2.2 = b) → H b = some (.tbl #[]) := fun b hb => by
      rw [eH]
      show (if b = a then _ else if ∃ q ∈ tf, q.2.2 = b then _ else _) = _
      rw [if_neg (fun e => aT (by rw [← e]; exact hb)), if_pos hb]
    have Hn : ∀ b, b ≠ a → ¬ (∃ q ∈ tf, q.2.2 = b) → H b = none := fun b h1 h2 => by
      rw [eH]
      show (if b = a then _ else if ∃ q ∈ tf, q.2.2 = b then _ else _) = _
      rw [if_neg h1, if_neg h2]
    clear eH
    have hp : ∀ p ∈ tf, H p.2.2 = some (.tbl #[]) := fun p hp => Ht _ ⟨p, hp, rfl⟩
    have cs3 : ∀ b, b = a ∨ (∃ q ∈ tf, q.2.2 = b) ∨ H b = none := fun b => by
      by_cases h1 : b = a
      · exact .inl h1
      · by_cases h2 : ∃ q ∈ tf, q.2.2 = b
        · exact .inr (.inl h2)
        · exact .inr (.inr (Hn b h1 h2))
    refine law_inT (tf := tf) (H := H) KX G.T.g G.T.b G.T.builtins G.T.nolimit hg hob rm bmn hTb (fun p hp => (htf p hp).2.2.1) (fun p hp => (htf p hp).2.2.2.2) sm Fall hb (fun b => ?_) (fun b u z => ?_) (fun b z => ?_) (fun _ => hk) hp
      (hsp _ a ns hle (hfin _ hp) (.inl (.inr ⟨_, Ha⟩))) fun H e s' => hcx H s e s'
    · rcases cs3 b with e | e | e
      · rw [e]
        exact .inr (.inr ⟨_, _, Ha⟩)
      · obtain ⟨p, hp, e2⟩ := id e
        exact .inr (.inl ⟨p, hp, e2, Ht b e⟩)
      · exact .inl e
    · rcases cs3 b with e | e | e
      · subst e
        rw [Ha] at z
        cases z
        exact ⟨hob, by rw [List.length_map]; exact Nat.le_trans hle hn2, vs, _, rv, hob⟩
      · rw [Ht b e] at z
        cases z
        exact inT b e
      · rw [e] at z
        cases z
    · rcases cs3 b with e | e | e
      · exact .inl e
      · exact .inr e
      · exact absurd e z
end
end GL
/-! list(text); isinstance of data or of an own exception; the parameters of a lambda; tables behind calls. -/
namespace GL
open PySem PySem.Spec PyProof.Rows L2 LamX
def sgn (c : Nat) : V := .str ⟨#[c]⟩
def rLstT : List V → Hp → VK → Prop := fun xs H Q => ∃ z : Str, xs = [.str z] ∧ z.length ≤ 100000 ∧ ∀ q, H q = none → Q (.ref q) (upd H q (.lst (z.cps.toList.map sgn)))
theorem call_list_txt {X : Cx} (hc : X.calm = true) : CallR X (.type "list") rLstT := by
  intro pins s σ H xs us Q I r h
  obtain ⟨z, rfl, hz, q⟩ := h
  obtain ⟨u, rfl, ru⟩ := vals1 r
  obtain ⟨t, rfl⟩ := ru
  have hl : z.cps.size ≤ sizeLine := sz_le (show z.length ≤ 1000000 by omega)
  refine PySem.call_list_str (I.ok.hd hc) z t (fun h' tk acc c' hk e hi => ?_) hl
  refine ⟨.ref s.heap.objs.size, upd H s.heap.objs.size (.lst (z.cps.toList.map sgn)), I.laid hk (Nat.le_refl _) ⟨by rw [List.length_map, Array.length_toList]; exact hl, acc.toList, c', ?_, by rw [Array.toArray_toList]; exact e⟩, rfl, q _ (I.hok.fresh (Nat.le_refl _))⟩
  refine vals_of_idx _ _ (by rw [List.length_map, Array.length_toList, Array.length_toList]; exact hi.1) fun j u hj => ?_
  obtain ⟨c, t', hcj, rfl⟩ := hi.2 j u (by rw [← Array.getElem?_toList]; exact hj)
  exact ⟨sgn c, by simp [hcj], ⟨_, rfl⟩⟩
/-- isinstance(x, C): an own exception, or data -/
def rIsE (K : PySem.W.Frag) : List V → Hp → VK → Prop := fun xs H Q => rIsi K xs H Q ∨ rIsX K xs H Q
theorem call_isE {X : Cx} : CallR X (.builtin "isinstance") (rIsE X.K) := by
  intro pins s σ H xs us Q I r h
  rcases h with h | h
  · exact call_isi pins s σ H xs us Q I r h
  · exact call_isX pins s σ H xs us Q I r h
theorem isE_go {K : PySem.W.Frag} {p : Addr} {H : Hp} {v : V} {c : String} {Q : VK} (h : Kd p H v) (hc : c ∈ ["int", "bool", "str", "list", "tuple", "dict"]) (q : Q (.bl (isT (tyN H v) c)) H) : rIsE K [v, .ty c] H Q := .inl (isi_go h hc q)
theorem bindD0 {params : Arguments} {body : Expr} {scope : Scope} (h : ∀ (q : Str) (cl : List (Str × Addr)) (doc pm cv ctv : Value), bindArgs (PySem.W.kdv_fn "<lambda>" q params (.expr body) scope cl .none doc pm cv ctv) ⟨[], []⟩ = pure []) : BindD [] 0 params body scope := by
  intro q cl dV doc pm cv ctv s ds hD hl
  have e : ds = [] := List.length_eq_zero_iff.mp hl
  subst e
  rcases hD with ⟨_, rfl⟩ | ⟨t, nd, _⟩
  · exact .of_eq (h q cl doc pm cv ctv)
  · exact absurd rfl nd
theorem bindD1 {params : Arguments} {body : Expr} {scope : Scope} {x : Str} (h : ∀ (q : Str) (cl : List (Str × Addr)) (dV doc pm cv ctv : Value), ∃ k : Option (Array Value) → Sem (List (Str × Value)), bindArgs (PySem.W.kdv_fn "<lambda>" q params (.expr body) scope cl dV doc pm cv ctv) ⟨[], []⟩ = (seqItems? dV >>= k) ∧ ∀ v, k (some #[v]) = pure [(x, v)]) : BindD [x] 1 params body scope := by
  intro q cl dV doc pm cv ctv s ds hD hl
  match ds, hl with
  | [v], _ =>
    rcases hD with ⟨z, _⟩ | ⟨t, _, rfl, hg⟩
    · cases z
    · obtain ⟨k, h1, h2⟩ := h q cl (.ref t) doc pm cv ctv
      exact .of_defaults rfl hg rfl h1 (h2 v)
/-- all but p and the tables stays -/
def Kt (p : Addr) (H H' : Hp) : Prop := ∀ b o, b ≠ p → (∀ ps, o ≠ .tbl ps) → H b = some o → H' b = some o
theorem Kt.of {p : Addr} {H H' : Hp} (k : Kp p H H') : Kt p H H' := fun b o n _ h => k b o n h
theorem Kt.ex {p : Addr} {H H' : Hp} (k : Ex H H') : Kt p H H' := fun b o n _ h => k b o h
theorem Kt.nw {p : Addr} {H H' : Hp} (k : ExtN H H') : Kt p H H' := fun b o _ t h => k b o h t
theorem Kt.tr {p : Addr} {H H1 H2 : Hp} (a : Kt p H H1) (b : Kt p H1 H2) : Kt p H H2 := fun x o n t h => b x o n t (a x o n t h)
/-- p is no table and no code -/
theorem TabS.kp {H H' : Hp} {P p : Addr} {q : Str} {xs : List V} (hp : H p = some (.lst xs)) (t : TabS H P q) (k : Kp p H H') : TabS H' P q := by
  obtain ⟨ps, h1, h2, h3⟩ := t
  refine ⟨ps, k _ _ (fun e => by rw [e, hp] at h1; cases h1) h1, h2, fun pos cv hc => ?_⟩
  obtain ⟨c, e1, e2⟩ := h3 pos cv hc
  exact ⟨c, e1, k _ _ (fun e => by rw [e, hp] at e2; unfold CodeO at e2; cases e2) e2⟩
theorem Tabs.kp {T : List (Addr × Str)} {H H' : Hp} {p : Addr} {xs : List V} (hp : H p = some (.lst xs)) (t : Tabs T H) (k : Kp p H H') : Tabs T H' := fun z hz => TabS.kp hp (t z hz) k
theorem Rk.lst {H : Hp} {p c : Addr} {n : Nat} (r : Rk H p c n) : ∃ xs, H p = some (.lst xs) := let ⟨_, _, _, h, _⟩ := r.ex; ⟨_, h⟩
theorem Tabs.rk {T : List (Addr × Str)} {H H' : Hp} {p c : Addr} {n : Nat} (r : Rk H p c n) (t : Tabs T H) (k : Kp p H H') : Tabs T H' := let ⟨_, h⟩ := r.lst; Tabs.kp h t k
/-- .. when a lambda was made -/
theorem Rk.en {H H' : Hp} {p c : Addr} {n : Nat} (r : Rk H p c n) (e : ExtN H H') : Rk H' p c n := by
  obtain ⟨ns, t, l, h1, h2, h3⟩ := r.ex
  exact ⟨⟨ns, t, l, e _ _ h1 (fun _ z => by cases z), e _ _ h2 (fun _ z => by cases z), h3⟩⟩
theorem Kd.en {p : Addr} {H H' : Hp} (k : ExtN H H') {v : V} (h : Kd p H v) : Kd p H' v := by
  induction h with
  | non => exact .non
  | bl b => exact .bl b
  | int i => exact .int i
  | str z => exact .str z
  | lst n e z _ ih => exact .lst n (k _ _ e (fun _ z => by cases z)) z ih
  | tup n e z _ ih => exact .tup n (k _ _ e (fun _ z => by cases z)) z ih
  | dK n e => exact .dK n (k _ _ e (fun _ z => by cases z))
theorem rec_of {rs : List DefRec} {nm : Str} {mg : Str → Option Value} {f : Addr} (h : (rs.any fun e => e.name == nm) = true) (hm : mg nm = some (.ref f)) : ∃ d ∈ rs, mg d.name = some (.ref f) := by
  obtain ⟨d, h1, h2⟩ := List.any_eq_true.mp h
  exact ⟨d, h1, by rw [show d.name = nm from beq_iff_eq.mp h2]; exact hm⟩
/-- the name of a lambda of the def q -/
abbrev lamQ (q : Str) : Str := (q ++ ".<locals>.") ++ "<lambda>"
end GL
namespace Mine
open PySem PySem.Spec PyProof.Rows L2 GL LamX
def topS (i : Nat) : Stmt := PySem.Challenge.pw_priceblind_k28_names_as_numbers.main.body.getD i (.Pass ⟨0, 0, 0, 0⟩)
abbrev s_is_integer : Stmt := topS 3
abbrev N_is_integer : List Str := ["value"]
abbrev P_is_integer : List Str := ["value"]
theorem sc_is_integer : FnScope N_is_integer P_is_integer (defScope s_is_integer) := ⟨rfl, rfl, rfl, by decide +kernel, rfl, by decide +kernel, by decide +kernel⟩
abbrev s_is_within : Stmt := topS 4
abbrev N_is_within : List Str := ["value", "least", "most"]
abbrev P_is_within : List Str := ["value", "least", "most"]
theorem sc_is_within : FnScope N_is_within P_is_within (defScope s_is_within) := ⟨rfl, rfl, rfl, by decide +kernel, rfl, by decide +kernel, by decide +kernel⟩
abbrev s_is_name : Stmt := topS 5
abbrev N_is_name : List Str := ["value", "letter"]
abbrev P_is_name : List Str := ["value"]
theorem sc_is_name : FnScope N_is_name P_is_name (defScope s_is_name) := ⟨rfl, rfl, rfl, by decide +kernel, rfl, by decide +kernel, by decide +kernel⟩
abbrev s_name_number : Stmt := topS 13
abbrev N_name_number : List Str := ["name", "number", "letter"]
abbrev P_name_number : List Str := ["name"]
theorem sc_name_number : FnScope N_name_number P_name_number (defScope s_name_number) := ⟨rfl, rfl, rfl, by decide +kernel, rfl, by decide +kernel, by decide +kernel⟩
abbrev s_name_of : Stmt := topS 14
abbrev N_name_of : List Str := ["number", "name"]
abbrev P_name_of : List Str := ["number"]
theorem sc_name_of : FnScope N_name_of P_name_of (defScope s_name_of) := ⟨rfl, rfl, rfl, by decide +kernel, rfl, by decide +kernel, by decide +kernel⟩
abbrev s_name_or_none : Stmt := topS 15
abbrev N_name_or_none : List Str := ["number", "name", "digit"]
abbrev P_name_or_none : List Str := ["number"]
theorem sc_name_or_none : FnScope N_name_or_none P_name_or_none (defScope s_name_or_none) := ⟨rfl, rfl, rfl, by decide +kernel, rfl, by decide +kernel, by decide +kernel⟩
abbrev s_Lcart : Stmt := topS 17
abbrev N_Lcart : List Str := ["script", "cell"]
abbrev P_Lcart : List Str := ["script"]
theorem sc_Lcart : FnScope N_Lcart P_Lcart (defScope s_Lcart) := ⟨rfl, rfl, rfl, by decide +kernel, rfl, by decide +kernel, by decide +kernel⟩
abbrev s_Lhaul : Stmt := topS 18
abbrev N_Lhaul : List Str := ["cart", "many", "rest", "turn", "cell", "mixed"]
abbrev P_Lhaul : List Str := ["cart", "many"]
theorem sc_Lhaul : FnScope N_Lhaul P_Lhaul (defScope s_Lhaul) := ⟨rfl, rfl, rfl, by decide +kernel, rfl, by decide +kernel, by decide +kernel⟩
abbrev s_Lpick : Stmt := topS 19
abbrev N_Lpick : List Str := ["cart", "some"]
abbrev P_Lpick : List Str := ["cart", "some"]
theorem sc_Lpick : FnScope N_Lpick P_Lpick (defScope s_Lpick) := ⟨rfl, rfl, rfl, by decide +kernel, rfl, by decide +kernel, by decide +kernel⟩
abbrev s_Lname : Stmt := topS 20
abbrev N_Lname : List Str := ["cart", "turn"]
abbrev P_Lname : List Str := ["cart"]
theorem sc_Lname : FnScope N_Lname P_Lname (defScope s_Lname) := ⟨rfl, rfl, rfl, by decide +kernel, rfl, by decide +kernel, by decide +kernel⟩
abbrev s_Lnumber : Stmt := topS 21
abbrev N_Lnumber : List Str := ["name", "total", "letter"]
abbrev P_Lnumber : List Str := ["name"]
theorem sc_Lnumber : FnScope N_Lnumber P_Lnumber (defScope s_Lnumber) := ⟨rfl, rfl, rfl, by decide +kernel, rfl, by decide +kernel, by decide +kernel⟩
abbrev s_Lletters : Stmt := topS 22
abbrev N_Lletters : List Str := ["number", "name", "left", "digit"]
abbrev P_Lletters : List Str := ["number"]
theorem sc_Lletters : FnScope N_Lletters P_Lletters (defScope s_Lletters) := ⟨rfl, rfl, rfl, by decide +kernel, rfl, by decide +kernel, by decide +kernel⟩
abbrev s_Lheard : Stmt := topS 23
abbrev N_Lheard : List Str := ["ask", "caught", "error"]
abbrev P_Lheard : List Str := ["ask"]
theorem sc_Lheard : FnScope N_Lheard P_Lheard (defScope s_Lheard) := ⟨rfl, rfl, rfl, by decide +kernel, rfl, by decide +kernel, by decide +kernel⟩
abbrev s_Lpair_right : Stmt := topS 24
abbrev N_Lpair_right : List Str := ["cart", "name", "number", "other", "letter", "near", "turn", "told", "due"]
abbrev P_Lpair_right : List Str := ["cart"]
theorem sc_Lpair_right : FnScope N_Lpair_right P_Lpair_right (defScope s_Lpair_right) := ⟨rfl, rfl, rfl, by decide +kernel, rfl, by decide +kernel, by decide +kernel⟩
abbrev s_law : Stmt := topS 25
abbrev N_law : List Str := ["script", "cart", "turn", "odd", "none"]
abbrev P_law : List Str := ["script"]
theorem sc_law : FnScope N_law P_law (defScope s_law) := ⟨rfl, rfl, rfl, by decide +kernel, rfl, by decide +kernel, by decide +kernel⟩
def clsBody : Stmt → List Stmt
  | .ClassDef _ _ _ b _ _ _ _ _ _ _ => b
  | _ => []
abbrev s_BadNumber_init : Stmt := (clsBody (topS 8)).getD 0 (.Pass ⟨0, 0, 0, 0⟩)
abbrev N_BadNumber_init : List Str := ["self", "part"]
theorem sc_BadNumber_init : FnScope N_BadNumber_init N_BadNumber_init (defScope s_BadNumber_init) := ⟨rfl, rfl, rfl, by decide +kernel, rfl, by decide +kernel, by decide +kernel⟩
abbrev s_BadName_init : Stmt := (clsBody (topS 9)).getD 0 (.Pass ⟨0, 0, 0, 0⟩)
abbrev N_BadName_init : List Str := ["self", "part"]
theorem sc_BadName_init : FnScope N_BadName_init N_BadName_init (defScope s_BadName_init) := ⟨rfl, rfl, rfl, by decide +kernel, rfl, by decide +kernel, by decide +kernel⟩

structure Txt (K : PySem.W.Frag) (mg : Str → Option Value) (fs : Nat → Addr) (fd : Nat → FuncData) (tk : Nat → Tok) (cs : Nat → Addr) : Prop where
  f_is_integer : Fun K "is_integer" "is_integer" s_is_integer (fs 0) (fd 0)
  m_is_integer : mg "is_integer" = some (.ref (fs 0))
  f_is_within : Fun K "is_within" "is_within" s_is_within (fs 1) (fd 1)
  m_is_within : mg "is_within" = some (.ref (fs 1))
  f_is_name : Fun K "is_name" "is_name" s_is_name (fs 2) (fd 2)
  m_is_name : mg "is_name" = some (.ref (fs 2))
  f_name_number : Fun K "name_number" "name_number" s_name_number (fs 3) (fd 3)
  m_name_number : mg "name_number" = some (.ref (fs 3))
  f_name_of : Fun K "name_of" "name_of" s_name_of (fs 4) (fd 4)
  m_name_of : mg "name_of" = some (.ref (fs 4))
  f_name_or_none : Fun K "name_or_none" "name_or_none" s_name_or_none (fs 5) (fd 5)
  m_name_or_none : mg "name_or_none" = some (.ref (fs 5))
  f_Lcart : Fun K "_law_cart" "_law_cart" s_Lcart (fs 6) (fd 6)
  m_Lcart : mg "_law_cart" = some (.ref (fs 6))
  f_Lhaul : Fun K "_law_haul" "_law_haul" s_Lhaul (fs 7) (fd 7)
  m_Lhaul : mg "_law_haul" = some (.ref (fs 7))
  f_Lpick : Fun K "_law_pick" "_law_pick" s_Lpick (fs 8) (fd 8)
  m_Lpick : mg "_law_pick" = some (.ref (fs 8))
  f_Lname : Fun K "_law_name" "_law_name" s_Lname (fs 9) (fd 9)
  m_Lname : mg "_law_name" = some (.ref (fs 9))
  f_Lnumber : Fun K "_law_number" "_law_number" s_Lnumber (fs 10) (fd 10)
  m_Lnumber : mg "_law_number" = some (.ref (fs 10))
  f_Lletters : Fun K "_law_letters" "_law_letters" s_Lletters (fs 11) (fd 11)
  m_Lletters : mg "_law_letters" = some (.ref (fs 11))
  f_Lheard : Fun K "_law_heard" "_law_heard" s_Lheard (fs 12) (fd 12)
  m_Lheard : mg "_law_heard" = some (.ref (fs 12))
  f_Lpair_right : Fun K "_law_pair_right" "_law_pair_right" s_Lpair_right (fs 13) (fd 13)
  m_Lpair_right : mg "_law_pair_right" = some (.ref (fs 13))
  f_law : Fun K "law" "law" s_law (fs 14) (fd 14)
  m_law : mg "law" = some (.ref (fs 14))
  c_LETTERS : mg "LETTERS" = some (.str "abcdefghijklmnopqrstuvwxyz" (tk 0))
  c_LONGEST_NAME : mg "LONGEST_NAME" = some (.int 12 (tk 1))
  c_BASE : mg "BASE" = some (.int 27 (tk 2))
  c_BEHIND_ALL_NAMES : mg "BEHIND_ALL_NAMES" = some (.int 150094635296999121 (tk 3))
  z_abs : mg "abs" = none
  z_all : mg "all" = none
  z_bool : mg "bool" = none
  z_divmod : mg "divmod" = none
  z_int : mg "int" = none
  z_isinstance : mg "isinstance" = none
  z_len : mg "len" = none
  z_list : mg "list" = none
  z_range : mg "range" = none
  z_repr : mg "repr" = none
  z_str : mg "str" = none
  x_StripError : ClsX K (cs 0)
  m_StripError : mg "StripError" = some (.ref (cs 0))
  k_StripError : PySem.W.keepIn K (.ref (cs 0)) = true
  q_StripError : PySem.W.excIn K (cs 0) [.type "ValueError", .type "Exception", .type "BaseException", .type "object"] "ValueError.__new__" = true
  x_BadNumber : ClsX K (cs 1)
  m_BadNumber : mg "BadNumber" = some (.ref (cs 1))
  f_BadNumber_init : Fun K "__init__" "BadNumber.__init__" s_BadNumber_init (fs 15) (fd 15)
  i_BadNumber : PySem.W.findIn K (.ref (cs 1)) "__init__" = some (some (.ref (fs 15)))
  t_BadNumber : PySem.W.typeIn K (.ref (fs 15)) = some (.type "function")
  n_BadNumber_part : PySem.W.findIn K (.ref (cs 1)) "part" = some none
  x_BadName : ClsX K (cs 2)
  m_BadName : mg "BadName" = some (.ref (cs 2))
  f_BadName_init : Fun K "__init__" "BadName.__init__" s_BadName_init (fs 16) (fd 16)
  i_BadName : PySem.W.findIn K (.ref (cs 2)) "__init__" = some (some (.ref (fs 16)))
  t_BadName : PySem.W.typeIn K (.ref (fs 16)) = some (.type "function")
  n_BadName_part : PySem.W.findIn K (.ref (cs 2)) "part" = some none
  ino_n1 : PySem.W.kitOne K (.type "NoneType") (.ref (cs 1)) = some false
  ino_n2 : PySem.W.kitOne K (.type "NoneType") (.ref (cs 2)) = some false
  isc_11 : PySem.W.kitOne K (.ref (cs 1)) (.ref (cs 1)) = some true
  isc_12 : PySem.W.kitOne K (.ref (cs 1)) (.ref (cs 2)) = some false
  isc_21 : PySem.W.kitOne K (.ref (cs 2)) (.ref (cs 1)) = some false
  isc_22 : PySem.W.kitOne K (.ref (cs 2)) (.ref (cs 2)) = some true
  exm_1 : PySem.W.exmOne K (.ref (cs 1)) (.ref (cs 0)) = some true
  exm_2 : PySem.W.exmOne K (.ref (cs 2)) (.ref (cs 0)) = some true
section
variable {K : PySem.W.Frag} {mg : Str → Option Value} {fs : Nat → Addr} {fd : Nat → FuncData} {tk : Nat → Tok} {cs : Nat → Addr}
theorem b_is_integer (T : Txt K mg fs fd tk cs) : Binds K (fd 0) P_is_integer [] := T.f_is_integer.binds fun _ _ _ _ _ _ us hl => match us, hl with | [_], _ => rfl
theorem b_is_within (T : Txt K mg fs fd tk cs) : Binds K (fd 1) P_is_within [] := T.f_is_within.binds fun _ _ _ _ _ _ us hl => match us, hl with | [_, _, _], _ => rfl
theorem b_is_name (T : Txt K mg fs fd tk cs) : Binds K (fd 2) P_is_name [] := T.f_is_name.binds fun _ _ _ _ _ _ us hl => match us, hl with | [_], _ => rfl
theorem b_name_number (T : Txt K mg fs fd tk cs) : Binds K (fd 3) P_name_number [] := T.f_name_number.binds fun _ _ _ _ _ _ us hl => match us, hl with | [_], _ => rfl
theorem b_name_of (T : Txt K mg fs fd tk cs) : Binds K (fd 4) P_name_of [] := T.f_name_of.binds fun _ _ _ _ _ _ us hl => match us, hl with | [_], _ => rfl
theorem b_name_or_none (T : Txt K mg fs fd tk cs) : Binds K (fd 5) P_name_or_none [] := T.f_name_or_none.binds fun _ _ _ _ _ _ us hl => match us, hl with | [_], _ => rfl
theorem b_Lcart (T : Txt K mg fs fd tk cs) : Binds K (fd 6) P_Lcart [] := T.f_Lcart.binds fun _ _ _ _ _ _ us hl => match us, hl with | [_], _ => rfl
theorem b_Lhaul (T : Txt K mg fs fd tk cs) : Binds K (fd 7) P_Lhaul [] := T.f_Lhaul.binds fun _ _ _ _ _ _ us hl => match us, hl with | [_, _], _ => rfl
theorem b_Lpick (T : Txt K mg fs fd tk cs) : Binds K (fd 8) P_Lpick [] := T.f_Lpick.binds fun _ _ _ _ _ _ us hl => match us, hl with | [_, _], _ => rfl
theorem b_Lname (T : Txt K mg fs fd tk cs) : Binds K (fd 9) P_Lname [] := T.f_Lname.binds fun _ _ _ _ _ _ us hl => match us, hl with | [_], _ => rfl
theorem b_Lnumber (T : Txt K mg fs fd tk cs) : Binds K (fd 10) P_Lnumber [] := T.f_Lnumber.binds fun _ _ _ _ _ _ us hl => match us, hl with | [_], _ => rfl
theorem b_Lletters (T : Txt K mg fs fd tk cs) : Binds K (fd 11) P_Lletters [] := T.f_Lletters.binds fun _ _ _ _ _ _ us hl => match us, hl with | [_], _ => rfl
theorem b_Lheard (T : Txt K mg fs fd tk cs) : Binds K (fd 12) P_Lheard [] := T.f_Lheard.binds fun _ _ _ _ _ _ us hl => match us, hl with | [_], _ => rfl
theorem b_Lpair_right (T : Txt K mg fs fd tk cs) : Binds K (fd 13) P_Lpair_right [] := T.f_Lpair_right.binds fun _ _ _ _ _ _ us hl => match us, hl with | [_], _ => rfl
theorem b_law (T : Txt K mg fs fd tk cs) : Binds K (fd 14) P_law [] := T.f_law.binds fun _ _ _ _ _ _ us hl => match us, hl with | [_], _ => rfl
def g_kw_name_number_0_name {α : Type} (us ws : List α) : List α := match us, ws with
  | [], [w0] => [w0]
  | _, _ => []
theorem kw_name_number_0_name (T : Txt K mg fs fd tk cs) : KwB K (fd 3) P_name_number 0 ["name"] g_kw_name_number_0_name := by
  obtain ⟨oc, od, kV, doc, pm, an, cd, ct, osl, e, _⟩ := T.f_name_number.ex
  refine ⟨fun s us ws h1 h2 => ?_, fun {vs us zs ws} h1 h2 r1 r2 => ?_⟩
  · rw [e]
    exact match us, ws, h1, h2 with | [], [_], _, _ => .of_eq rfl
  · exact match vs, us, zs, ws, r1, r2, h1, h2 with | [], [], [_], [_], (.nil), (.cons rw0 (.nil)), _, _ => .cons rw0 (.nil)
def g_kw_name_of_0_number {α : Type} (us ws : List α) : List α := match us, ws with
  | [], [w0] => [w0]
  | _, _ => []
theorem kw_name_of_0_number (T : Txt K mg fs fd tk cs) : KwB K (fd 4) P_name_of 0 ["number"] g_kw_name_of_0_number := by
  obtain ⟨oc, od, kV, doc, pm, an, cd, ct, osl, e, _⟩ := T.f_name_of.ex
  refine ⟨fun s us ws h1 h2 => ?_, fun {vs us zs ws} h1 h2 r1 r2 => ?_⟩
  · rw [e]
    exact match us, ws, h1, h2 with | [], [_], _, _ => .of_eq rfl
  · exact match vs, us, zs, ws, r1, r2, h1, h2 with | [], [], [_], [_], (.nil), (.cons rw0 (.nil)), _, _ => .cons rw0 (.nil)
theorem b_BadNumber_init (T : Txt K mg fs fd tk cs) : Binds K (fd 15) N_BadNumber_init [] := T.f_BadNumber_init.binds fun _ _ _ _ _ _ us hl => match us, hl with | [_, _], _ => rfl
theorem b_BadName_init (T : Txt K mg fs fd tk cs) : Binds K (fd 16) N_BadName_init [] := T.f_BadName_init.binds fun _ _ _ _ _ _ us hl => match us, hl with | [_, _], _ => rfl
end
def optV : Option Int → V
  | none => .non
  | some i => .int i
def within (v : V) (l m : Option Int) : Bool := match v with
  | .int i => (match l with | some j => decide (j ≤ i) | none => true) && (match m with | some j => decide (i ≤ j) | none => true)
  | _ => false
def LET : Str := "abcdefghijklmnopqrstuvwxyz"
def nameB (z : Str) : Bool := (decide (1 ≤ z.length) && decide (z.length ≤ 12)) && z.cps.toList.all fun c => decide (c ∈ LET.cps.toList)
def isNm : V → Bool
  | .str z => nameB z
  | _ => false
/-- letters as digits -/
def nnL : Nat → List Nat → Nat
  | a, [] => a
  | a, c :: r => nnL (a * 27 + (c - 96)) r
def nnum (z : Str) : Nat := nnL 0 z.cps.toList
/-- and back: f digits at most -/
def lets : Nat → Nat → List Nat → Option (List Nat)
  | 0, _, acc => some acc
  | f + 1, n, acc => if n = 0 then some acc else if n % 27 = 0 then none else lets f (n / 27) ((n % 27 + 96) :: acc)
def nmOf : V → Option Str
  | .int i => if 1 ≤ i ∧ i ≤ 150094635296999120 then (lets 12 i.toNat []).map fun l => ⟨l.toArray⟩ else none
  | _ => none
def optS : Option Str → V
  | none => .non
  | some z => .str z
def spInt : Sp := fun vs H Q _ => ∃ (p : Addr) (v : V), vs = [v] ∧ Kd p H v ∧ ∀ H', Ex H H' → Q (.bl (wh v)) H'
def spWithin : Sp := fun vs H Q _ => ∃ (p : Addr) (v : V) (l m : Option Int), vs = [v, optV l, optV m] ∧ Kd p H v ∧ ∀ H', Ex H H' → Q (.bl (within v l m)) H'
def spName : Sp := fun vs H Q _ => ∃ (p : Addr) (v : V), vs = [v] ∧ Kd p H v ∧ (∀ z, v = .str z → z.length ≤ 100000) ∧ ∀ H', Ex H H' → Q (.bl (isNm v)) H'
def spNum (cs : Nat → Addr) : Sp := fun vs H Q E => ∃ (p : Addr) (v : V), vs = [v] ∧ Kd p H v ∧ (∀ z, v = .str z → z.length ≤ 100000) ∧ (∀ z, v = .str z → nameB z = true → ∀ H', Ex H H' → Q (.int (nnum z)) H') ∧
  (isNm v = false → ∀ dd H', Ex H H' → H' dd = some (exd dd [("part", .str "name")]) → E (.ref (cs 2)) (some dd) H')
def spOf (cs : Nat → Addr) : Sp := fun vs H Q E => ∃ (p : Addr) (v : V), vs = [v] ∧ Kd p H v ∧ (∀ z, nmOf v = some z → ∀ H', Ex H H' → Q (.str z) H') ∧
  (nmOf v = none → ∀ dd H', Ex H H' → H' dd = some (exd dd [("part", .str "number")]) → E (.ref (cs 1)) (some dd) H')
def spNone : Sp := fun vs H Q _ => ∃ (p : Addr) (v : V), vs = [v] ∧ Kd p H v ∧ ∀ H', Ex H H' → Q (optS (nmOf v)) H'
def spDrawW : Sp := fun vs H Q _ => ∃ (p c : Addr) (many : Int) (n : Nat), vs = [.ref p, .int many] ∧ Rk H p c n ∧ n < 100000 ∧ 0 < many ∧ many < 18446744073709551616 ∧
  ∀ (r : Int) (H' : Hp), 0 ≤ r → r < many → Rk H' p c (n + 1) → Kp p H H' → Q (.int r) H'
def spLname : Sp := fun vs H Q _ => ∃ (p c : Addr) (n : Nat), vs = [.ref p] ∧ Rk H p c n ∧ n < 90000 ∧ ∀ z H', nameB z = true → Rk H' p c (n + 20) → Kp p H H' → Q (.str z) H'
def spLnumber : Sp := fun vs H Q _ => ∃ z : Str, vs = [.str z] ∧ nameB z = true ∧ ∀ H', Ex H H' → Q (.int (nnum z)) H'
def spLet : Sp := fun vs H Q _ => ∃ n : Nat, vs = [.int n] ∧ ∀ H', Ex H H' → Q (optS (nmOf (.int n))) H'
def TL (P0 P1 : Addr) : List (Addr × Str) := [(P0, lamQ "_law_pair_right"), (P1, lamQ "law")]
theorem TL.m0 {P0 P1 : Addr} : (P0, lamQ "_law_pair_right") ∈ TL P0 P1 := List.mem_cons_self
theorem TL.m1 {P0 P1 : Addr} : (P1, lamQ "law") ∈ TL P0 P1 := List.mem_cons_of_mem _ List.mem_cons_self
theorem TL.u0 {P0 P1 : Addr} (ne : P0 ≠ P1) : ∀ p ∈ TL P0 P1, p.1 = P0 → p.2 = lamQ "_law_pair_right" := by
  intro p hp e
  simp only [TL, List.mem_cons, List.not_mem_nil, or_false] at hp
  rcases hp with rfl | rfl
  · rfl
  · exact absurd e.symm ne
theorem TL.u1 {P0 P1 : Addr} (ne : P0 ≠ P1) : ∀ p ∈ TL P0 P1, p.1 = P1 → p.2 = lamQ "law" := by
  intro p hp e
  simp only [TL, List.mem_cons, List.not_mem_nil, or_false] at hp
  rcases hp with rfl | rfl
  · exact absurd e ne
  · rfl
def wd (i : Nat) : Str := if i = 1 then "number" else "name"
/-- an own error with its part -/
def ErrAt (cs : Nat → Addr) (i : Nat) (y : Str) (cls : Value) (d : Option Addr) (G : Hp) : Prop := cls = .ref (cs i) ∧ ∃ dd : Addr, d = some dd ∧ G dd = some (exd dd [("part", .str y)])
/-- what comes of asking: None, or the word and the part -/
def E0h (cs : Nat → Addr) (Q : VK) : XK := fun cls d G => ∃ (i : Nat) (y : Str), (i = 1 ∨ i = 2) ∧ ErrAt cs i y cls d G ∧ ∀ p G', Ex G G' → G' p = some (.tup [.str (wd i), .str y]) → Q (.ref p) G'
def TTh (cs : Nat → Addr) : (XK → Hp → VK → Prop) → List V → Hp → VK → Prop := fun tl vs H Q => vs = [] ∧ ∀ (E : XK) (Qn : VK), (∀ v G, Q .non G → Qn v G) → (∀ cls d G, E0h cs Q cls d G → E cls d G) → tl E H Qn
def spPair (P0 P1 : Addr) : Sp := fun vs H Q _ => ∃ (p c : Addr) (n : Nat), vs = [.ref p] ∧ Rk H p c n ∧ n ≤ 80000 ∧ Tabs (TL P0 P1) H ∧ ∀ H', Rk H' p c (n + 100) → Tabs (TL P0 P1) H' → Q (.bl true) H'
def spLaw (K : PySem.W.Frag) (P0 P1 : Addr) : Sp := fun vs H Q _ => ∃ (a : Addr) (ns : List Int), vs = [.ref a] ∧ SqL K H a (ns.map V.int) ∧ ns.length ≤ 63 ∧ H P0 = some (.tbl #[]) ∧ H P1 = some (.tbl #[]) ∧ ∀ H', Q (.bl true) H'
theorem law_pre {K : PySem.W.Frag} {P0 P1 : Addr} {H : Hp} {a : Addr} {ns : List Int} (hl : ns.length ≤ 63) (hS : SqL K H a (ns.map V.int)) (h0 : H P0 = some (.tbl #[])) (h1 : H P1 = some (.tbl #[])) : spLaw K P0 P1 [.ref a] H (fun v _ => v = .bl true) fun _ _ _ => False := ⟨a, ns, rfl, hS, hl, h0, h1, fun _ => rfl⟩

section
variable {P : Program} {w : World} {K : PySem.W.Frag} {mg : Str → Option Value} {base : Heap} {fs : Nat → Addr} {fd : Nat → FuncData} {tk : Nat → Tok} {cs : Nat → Addr}
theorem ok_BadNumber_init (T : Txt K mg fs fd tk cs) : FnG P w K mg base CX0 1 (fs 15) (fd 15) N_BadNumber_init (spI1 (cs 1) "part") := by
  refine Fun.okG T.f_BadNumber_init sc_BadNumber_init (fun vs H Q E h => ?_) (fun cd A out s H vs Q E gd hr h => ?_)
  · obtain ⟨a, x, rfl, _⟩ := h
    rfl
  · obtain ⟨a, x, rfl, ha, k⟩ := h
    exact ⟨_, PSs.nox (pss_one (ps_ost (pv 0) (pv 1))), ⟨_, rfl, _, rfl, a, cs 1, rfl, T.x_BadNumber.ox, T.n_BadNumber_part, .inl ⟨ha, fun dx hd hne => k dx hd hne⟩⟩⟩
theorem ok_BadName_init (T : Txt K mg fs fd tk cs) : FnG P w K mg base CX0 1 (fs 16) (fd 16) N_BadName_init (spI1 (cs 2) "part") := by
  refine Fun.okG T.f_BadName_init sc_BadName_init (fun vs H Q E h => ?_) (fun cd A out s H vs Q E gd hr h => ?_)
  · obtain ⟨a, x, rfl, _⟩ := h
    rfl
  · obtain ⟨a, x, rfl, ha, k⟩ := h
    exact ⟨_, PSs.nox (pss_one (ps_ost (pv 0) (pv 1))), ⟨_, rfl, _, rfl, a, cs 2, rfl, T.x_BadName.ox, T.n_BadName_part, .inl ⟨ha, fun dx hd hne => k dx hd hne⟩⟩⟩
end
end Mine
set_option maxHeartbeats 400000
namespace Mine
open PySem PySem.Spec PyProof.Rows L2 GL
theorem lgW {m : Int} (m0 : 0 < m) (m1 : m < 18446744073709551616) : m.natAbs.log2 < 9000 := Nat.lt_of_lt_of_le ((Nat.log2_lt (by omega)).mpr (show m.natAbs < 2 ^ 64 by omega)) (by decide)
theorem rd_isE {K : PySem.W.Frag} {p : Addr} {σ : L2.St} {i : Nat} {H : Hp} {v : V} {c : String} {Q : VK} (hi : σ[i]? = some (some v)) (h : Kd p H v)
    (hc : c ∈ ["int", "bool", "str", "list", "tuple", "dict"]) (q : Q (.bl (isT (tyN H v) c)) H) : tCB (rIsE K) (tCons (tVar i) (tCons (tC (.ty c)) tNil)) σ H Q := ⟨v, hi, isE_go h hc q⟩
def sign : V → Nat
  | .str y => y.cps.getD 0 0
  | _ => 0
section
variable {P : Program} {w : World} {K : PySem.W.Frag} {mg : Str → Option Value} {base : Heap} {fs : Nat → Addr} {fd : Nat → FuncData} {tk : Nat → Tok} {cs : Nat → Addr}
theorem ok_is_integer (T : Txt K mg fs fd tk cs) : FnG P w K mg base CX0 1 (fs 0) (fd 0) P_is_integer spInt := by
  refine Fun.okG T.f_is_integer sc_is_integer (fun vs H Q E h => ?_) (fun cd A out s H vs Q E gd hr h => ?_)
  · obtain ⟨p, v, rfl, _⟩ := h
    rfl
  · obtain ⟨p, v, rfl, hv, k⟩ := h
    refine ⟨_, PSs.nox ((pss_one (ps_ret (pe_and (pe_callB call_isE (by rfl) T.z_isinstance (by decide +kernel) (pa_cons (pv 0) (pa_cons (pe_bltn (v := .ty "int") (u := .type "int") (by rfl) T.z_int (by decide +kernel) rfl) pa_nil))) (pe_one (pe_not (pe_callB call_isE (by rfl) T.z_isinstance (by decide +kernel) (pa_cons (pv 0) (pa_cons (pe_bltn (v := .ty "bool") (u := .type "bool") (by rfl) T.z_bool (by decide +kernel) rfl) pa_nil))))))))), ?_⟩
    refine rd_isE (c := "int") rfl hv (by decide) ?_
    have e := wh_ty hv
    cases c : isT (tyN H v) "int" with
    | true =>
      rw [c, Bool.true_and] at e
      refine ⟨true, rfl, iteT ?_⟩
      refine rd_isE (c := "bool") rfl hv (by decide) ⟨_, rfl, ?_⟩
      rw [← e]
      exact k H (Ex.rfl' H)
    | false =>
      rw [c, Bool.false_and] at e
      rw [e] at k
      exact ⟨false, rfl, iteF (k H (Ex.rfl' H))⟩
theorem ok_is_within (T : Txt K mg fs fd tk cs) : FnG P w K mg base CX0 2 (fs 1) (fd 1) P_is_within spWithin := by
  refine Fun.okG T.f_is_within sc_is_within (fun vs H Q E h => ?_) (fun cd A out s H vs Q E gd hr h => ?_)
  · obtain ⟨p, v, l, m, rfl, _⟩ := h
    rfl
  · obtain ⟨p, v, l, m, rfl, hv, k⟩ := h
    refine ⟨_, PSs.nox ((pss_cons (ps_if (pt_not (pt_val (pg_call (ok_is_integer T) gd (hr.mono (by decide)) (by rfl) T.m_is_integer T.f_is_integer.kp (b_is_integer T) .nil pass0 (pa_cons (pv 0) pa_nil))))
        (pss_one (ps_ret (pe_bl)))
        pss_nil)
      (pss_cons (ps_if (PW.pt (pw_and (pt_cmpR op_notN (pv 1) (pe_non) (nomark _)) (pw_and1 (pt_cmpR op_lt (pv 0) (pv 1) (nomark _)))))
        (pss_one (ps_ret (pe_bl)))
        pss_nil)
      (pss_one (ps_ret (pe_or (pe_cmpR op_isN (pv 2) (pe_non) (nomark _)) (pe_one (pe_cmpR op_le (pv 0) (pv 2) (nomark _))))))))), ?_⟩
    refine ⟨v, rfl, p, v, rfl, hv, fun H1 e1 => ⟨wh v, rfl, ?_⟩⟩
    cases c : wh v with
    | false =>
      refine iteT ?_
      have e : within v l m = false := by cases v <;> first | rfl | cases c
      rw [e] at k
      exact k H1 e1
    | true =>
      obtain ⟨i, rfl⟩ := wh_int c
      refine iteF ?_
      have q := k H1 e1
      cases l with
      | none =>
        cases m with
        | none => simpa [tNext, tSeq, tIfS, tAnd, tOr, tNot, tTest, tB, tOp, tUn, tRet, tC, tVar, tOrV, tAndV, tNotV, tIf, rI0, rI, rU, rEq, rNe, L2.start, tCB, tCons, tNil, tAsg, gName, tLst, tTup, tChain, tKw, tCall, optV, within, scal] using q
        | some m => simpa [tNext, tSeq, tIfS, tAnd, tOr, tNot, tTest, tB, tOp, tUn, tRet, tC, tVar, tOrV, tAndV, tNotV, tIf, rI0, rI, rU, rEq, rNe, L2.start, tCB, tCons, tNil, tAsg, gName, tLst, tTup, tChain, tKw, tCall, optV, within, scal] using q
      | some l =>
        by_cases c1 : i < l
        · have c2 : ¬ l ≤ i := by omega
          cases m with
          | none => simpa [tNext, tSeq, tIfS, tAnd, tOr, tNot, tTest, tB, tOp, tUn, tRet, tC, tVar, tOrV, tAndV, tNotV, tIf, rI0, rI, rU, rEq, rNe, L2.start, tCB, tCons, tNil, tAsg, gName, tLst, tTup, tChain, tKw, tCall, optV, within, scal, c1, c2] using q
          | some m => simpa [tNext, tSeq, tIfS, tAnd, tOr, tNot, tTest, tB, tOp, tUn, tRet, tC, tVar, tOrV, tAndV, tNotV, tIf, rI0, rI, rU, rEq, rNe, L2.start, tCB, tCons, tNil, tAsg, gName, tLst, tTup, tChain, tKw, tCall, optV, within, scal, c1, c2] using q
        · have c2 : l ≤ i := by omega
          cases m with
          | none => simpa [tNext, tSeq, tIfS, tAnd, tOr, tNot, tTest, tB, tOp, tUn, tRet, tC, tVar, tOrV, tAndV, tNotV, tIf, rI0, rI, rU, rEq, rNe, L2.start, tCB, tCons, tNil, tAsg, gName, tLst, tTup, tChain, tKw, tCall, optV, within, scal, c1, c2] using q
          | some m => simpa [tNext, tSeq, tIfS, tAnd, tOr, tNot, tTest, tB, tOp, tUn, tRet, tC, tVar, tOrV, tAndV, tNotV, tIf, rI0, rI, rU, rEq, rNe, L2.start, tCB, tCons, tNil, tAsg, gName, tLst, tTup, tChain, tKw, tCall, optV, within, scal, c1, c2] using q
theorem ok_is_name (T : Txt K mg fs fd tk cs) : FnG P w K mg base CX0 3 (fs 2) (fd 2) P_is_name spName := by
  refine Fun.okG T.f_is_name sc_is_name (fun vs H Q E h => ?_) (fun cd A out s H vs Q E gd hr h => ?_)
  · obtain ⟨p, v, rfl, _⟩ := h
    rfl
  · obtain ⟨p, v, rfl, hv, sh, k⟩ := h
    refine ⟨_, PSs.nox ((pss_cons (ps_if (PW.pt (pw_or (pt_not (pt_val (pe_callB call_isE (by rfl) T.z_isinstance (by decide +kernel) (pa_cons (pv 0) (pa_cons (pe_bltn (v := .ty "str") (u := .type "str") (by rfl) T.z_str (by decide +kernel) rfl) pa_nil))))) (pw_or1 (pt_not (pt_val (pg_call (ok_is_within T) gd (hr.mono (by decide)) (by rfl) T.m_is_within T.f_is_within.kp (b_is_within T) .nil pass0 (pa_cons (pe_callB call_len_str (by rfl) T.z_len (by decide +kernel) (pa_cons (pv 0) pa_nil)) (pa_cons (pe_int) (pa_cons (pe_glob (v := .int 12) (by rfl) T.c_LONGEST_NAME ⟨_, rfl⟩) pa_nil)))))))))
        (pss_one (ps_ret (pe_bl)))
        pss_nil)
      (pss_one (ps_ret (pe_callB (cr_all rfl) (by rfl) T.z_all (by decide +kernel) (pa_cons (pe_lc (own := [("letter", 1)]) (g := gName 1) (tt := tYes) rfl sc_is_name.nd (pi_str (pv 0)) (blkOk_by (own := [("letter", 1)]) (N := N_is_name) (sc := defScope s_is_name) (by decide +kernel)) (fun _ _ _ _ _ => (pg_name (i := 1) sc_is_name.nd rfl (Or.inl rfl))) (fun _ _ _ _ _ => pts_nil) (fun _ _ _ _ _ => pe_cmpR op_in_sign (pv 1) (pe_glob (v := .str "abcdefghijklmnopqrstuvwxyz") (by rfl) T.c_LETTERS ⟨_, rfl⟩) (by rfl))) pa_nil)))))), ?_⟩
    refine rd_isE (c := "str") rfl hv (by decide) ⟨_, rfl, ?_⟩
    by_cases c : ∃ z, v = .str z
    · obtain ⟨z, rfl⟩ := c
      have hz := sh z rfl
      refine iteF ?_
      refine ⟨_, rfl, z, rfl, sz_le (by omega), p, .int z.length, some 1, some 12, rfl, .int _, fun H1 e1 => ⟨_, rfl, ?_⟩⟩
      have hw : within (V.int (z.length : Int)) (some 1) (some 12) = (decide (1 ≤ z.length) && decide (z.length ≤ 12)) := by
        show (decide ((1 : Int) ≤ (z.length : Int)) && decide ((z.length : Int) ≤ 12)) = _
        congr 1 <;> (apply decide_eq_decide.mpr; omega)
      rw [hw]
      have ek : isNm (V.str z) = ((decide (1 ≤ z.length) && decide (z.length ≤ 12)) && z.cps.toList.all fun c => decide (c ∈ LET.cps.toList)) := rfl
      rw [ek] at k
      cases cw : (decide (1 ≤ z.length) && decide (z.length ≤ 12)) with
      | false =>
        rw [cw] at k
        exact iteT (k H1 e1)
      | true =>
        rw [cw, Bool.true_and] at k
        refine iteF ?_
        dsimp only [tNext, tSeq, tRet, tCB, tCons, tNil]
        refine lc_map (Src.str (p := p) (z := z) ?hi) ?hz (fun x => V.bl (decide (sign x ∈ LET.cps.toList))) (fun x hx H2 e2 Q1 q1 => ?_) fun D H2 _ hD e2 => ?_
        case hi => exact fun Q q => ⟨_, rfl, q H1 (Ex.rfl' H1)⟩
        case hz => rw [List.length_map, Array.length_toList]; show z.length ≤ _; omega
        · obtain ⟨c, _, rfl⟩ := List.mem_map.mp hx
          exact ⟨_, rfl, c, LET, rfl, rfl, q1 H2 (Ex.rfl' H2)⟩
        · refine ⟨D, z.cps.toList.map fun c => decide (c ∈ LET.cps.toList), rfl, SqL.of (by rw [hD, List.map_map, List.map_map]; rfl), ?_⟩
          have : (z.cps.toList.map fun c => decide (c ∈ LET.cps.toList)).all id = z.cps.toList.all fun c => decide (c ∈ LET.cps.toList) := by rw [List.all_map]; rfl
          rw [this]
          exact k H2 (e1.tr e2)
    · have h1 : isT (tyN H v) "str" = false := by
        cases hv with
        | non => show isT "NoneType" "str" = false; decide
        | bl b => show isT "bool" "str" = false; decide
        | int i => show isT "int" "str" = false; decide
        | str z => exact absurd ⟨z, rfl⟩ c
        | lst n e _ _ => rw [tyN_lst e]; decide
        | tup n e _ _ => rw [tyN_tup e]; decide
        | dK n e => rw [tyN_dK e]; decide
      have h2 : isNm v = false := by
        cases v <;> first | rfl | exact absurd ⟨_, rfl⟩ c
      rw [h1]
      rw [h2] at k
      exact iteT (iteT (k H (Ex.rfl' H)))
theorem ok_Lcart (T : Txt K mg fs fd tk cs) : FnG P w K mg base CX0 1 (fs 6) (fd 6) P_Lcart (spRack K) := by
  refine Fun.okG T.f_Lcart sc_Lcart (fun vs H Q E h => ?_) (fun cd A out s H vs Q E gd hr h => ?_)
  · obtain ⟨a, ns, rfl, _⟩ := h
    rfl
  · obtain ⟨a, ns, rfl, hS, hl, k⟩ := h
    refine ⟨_, PSs.nox ((pss_one (ps_ret (pe_lst (pa_cons (pe_lc (own := [("cell", 1)]) (g := gName 1) (tt := tYes) rfl sc_Lcart.nd (pi_list (pe_slice sl_list (pv 0) po_none (po_some (pe_int)))) (blkOk_by (own := [("cell", 1)]) (N := N_Lcart) (sc := defScope s_Lcart) (by decide +kernel)) (fun _ _ _ _ _ => (pg_name (i := 1) sc_Lcart.nd rfl (Or.inl rfl))) (fun _ _ _ _ _ => pts_nil) (fun _ _ _ _ _ => pe_callTy call_int1 (by rfl) T.z_int (by decide +kernel) (pa_cons (pv 1) pa_nil))) (pa_cons (pe_int) (pa_cons (pe_int) pa_nil))))))), ?_⟩
    refine ⟨_, rfl, _, rfl, a, _, rfl, hS, fun q hq => ?_⟩
    obtain ⟨ms, em, lm, _⟩ := cut_ints ns none (some 56)
    have e0 : Ex H (upd H q (.lst (cutV (ns.map V.int) none (some 56)))) := Ex.nw hq
    have gq : (upd H q (.lst (cutV (ns.map V.int) none (some 56)))) q = some (.lst (ms.map V.int)) := by rw [em]; exact upd_same
    generalize upd H q (.lst (cutV (ns.map V.int) none (some 56))) = G at e0 gq
    refine ⟨q, rfl, ⟨_, SqL.of gq⟩, fun D hD => ?_⟩
    refine lc_list (K := K) (a := q) (xs := ms.map V.int) (fun i H' => H' D = some (.lst ((ms.take i).map V.int)) ∧ Ex G H') ⟨upd_same, Ex.nw hD⟩ (fun i H' _ p => SqL.of (p.2 _ _ gq)) ?_ ?_
    · rintro i x H' hx ⟨p1, p2⟩
      obtain ⟨z, hz, rfl⟩ := map_get hx
      have hi := lt_of_get hz
      refine ⟨rfl, ?_⟩
      refine ⟨_, rfl, .inl ⟨z, rfl, _, p1, ?_, ?_, p2.up hD⟩⟩
      · rw [List.length_map, List.length_take]; exact sz_ok (by omega)
      · rw [take_step hz, List.map_append]; exact upd_same
    · rintro H' ⟨p1, p2⟩
      rw [List.length_map, List.take_length] at p1
      refine ⟨(show 3 ≤ sizeLine by decide), fun p hp => ?_⟩
      have e3 : Ex H' (upd H' p (.lst [.ref D, .int 0, .int 0])) := Ex.nw hp
      exact k p D _ ((e0.tr p2).no hp) ⟨⟨ms, 0, 0, upd_same, e3 _ _ p1, ne_of_none p1 hp, by omega, by decide, by decide, by decide⟩⟩ ((e0.tr p2).tr e3)
theorem ok_Lhaul (T : Txt K mg fs fd tk cs) : FnG P w K mg base CX0 1 (fs 7) (fd 7) P_Lhaul spDrawW := by
  refine Fun.okG T.f_Lhaul sc_Lhaul (fun vs H Q E h => ?_) (fun cd A out s H vs Q E gd hr h => ?_)
  · obtain ⟨p, c, many, n, rfl, _⟩ := h
    rfl
  · obtain ⟨p, c, many, n, rfl, r, hn, m0, m1, k⟩ := h
    refine ⟨_, PSs.nox ((pss_cons (ps_if (pt_cmpR op_gt (pe_ix ix_list (pv 0) (pe_int) (fun _ _ => rfl)) (pe_int) (nomark _))
        (pss_cons (ps_set (i := 2) sc_Lhaul.nd rfl (by first | exact Or.inl rfl | exact Or.inr rfl) (pe_callTy call_int1 (by rfl) T.z_int (by decide +kernel) (pa_cons (pe_ix ix_list (pv 0) (pe_int) (fun _ _ => rfl)) pa_nil)))
        (pss_cons (ps_asg (pe_op op_fdivW (pv 2) (pv 1)) (pg_sub (pv 0) (pe_int) set_list))
        (pss_one (ps_ret (pe_op op_mod (pe_callTy call_int1 (by rfl) T.z_int (by decide +kernel) (pa_cons (pv 2) pa_nil)) (pv 1))))))
        pss_nil)
      (pss_cons (ps_set (i := 3) sc_Lhaul.nd rfl (by first | exact Or.inl rfl | exact Or.inr rfl) (pe_ix ix_list (pv 0) (pe_int) (fun _ _ => rfl)))
      (pss_cons (ps_asg (pe_op op_add (pv 3) (pe_int)) (pg_sub (pv 0) (pe_int) set_list))
      (pss_cons (ps_set (i := 4) sc_Lhaul.nd rfl (by first | exact Or.inl rfl | exact Or.inr rfl) (pe_op op_add (pe_op op_mul (pe_int) (pv 3)) (pe_int)))
      (Evl.pss_cut (ps_if (pt_cmpR (op_neX hr.units) (pe_ix ix_list (pv 0) (pe_int) (fun _ _ => rfl)) (pe_lst pa_nil) (nomark _))
        (pss_one (ps_set (i := 4) sc_Lhaul.nd rfl (by first | exact Or.inl rfl | exact Or.inr rfl) (pe_ix ix_list (pe_ix ix_list (pv 0) (pe_int) (fun _ _ => rfl)) (pe_op op_mod (pe_callTy call_int1 (by rfl) T.z_int (by decide +kernel) (pa_cons (pv 3) pa_nil)) (pe_callB call_len_seq (by rfl) T.z_len (by decide +kernel) (pa_cons (pe_ix ix_list (pv 0) (pe_int) (fun _ _ => rfl)) pa_nil))) (fun _ _ => rfl))))
        pss_nil)
      (Evl.pss_cut (ps_if (PW.pt (pw_and (pt_cmpR op_lt (pv 3) (pe_callB call_len_seq (by rfl) T.z_len (by decide +kernel) (pa_cons (pe_ix ix_list (pv 0) (pe_int) (fun _ _ => rfl)) pa_nil)) (nomark _)) (pw_and1 (pt_cmpR op_ge (pe_callB call_abs (by rfl) T.z_abs (by decide +kernel) (pa_cons (pv 4) pa_nil)) (pe_op op_pow (pe_int) (pe_int)) (nomark _)))))
        (pss_cons (ps_set (i := 2) sc_Lhaul.nd rfl (by first | exact Or.inl rfl | exact Or.inr rfl) (pe_op op_add (pe_op op_mul (pe_int) (pe_op op_sub (pe_callB call_abs (by rfl) T.z_abs (by decide +kernel) (pa_cons (pv 4) pa_nil)) (pe_op op_pow (pe_int) (pe_int)))) (pe_callTy call_int1 (by rfl) T.z_int (by decide +kernel) (pa_cons (pe_cmpR op_lt (pv 4) (pe_int) (nomark _)) pa_nil))))
        (pss_cons (ps_asg (pe_op op_fdivW (pv 2) (pv 1)) (pg_sub (pv 0) (pe_int) set_list))
        (pss_one (ps_ret (pe_op op_mod (pe_callTy call_int1 (by rfl) T.z_int (by decide +kernel) (pa_cons (pv 2) pa_nil)) (pv 1))))))
        pss_nil)
      (pss_cons (ps_set (i := 5) sc_Lhaul.nd rfl (by first | exact Or.inl rfl | exact Or.inr rfl) (pe_op op_mod (pe_callTy call_int1 (by rfl) T.z_int (by decide +kernel) (pa_cons (pe_op op_pow (pe_op op_add (pe_op op_add (pe_op op_mod (pe_callTy call_int1 (by rfl) T.z_int (by decide +kernel) (pa_cons (pv 4) pa_nil)) (pe_int)) (pe_op op_mul (pe_int) (pv 3))) (pe_int)) (pe_int)) pa_nil)) (pe_int)))
      (pss_cons (ps_set (i := 5) sc_Lhaul.nd rfl (by first | exact Or.inl rfl | exact Or.inr rfl) (pe_op op_mod (pe_callTy call_int1 (by rfl) T.z_int (by decide +kernel) (pa_cons (pe_op op_pow (pe_op op_add (pe_op op_add (pe_op op_mul (pv 5) (pe_op op_add (pe_op op_mul (pe_int) (pv 3)) (pe_int))) (pe_op op_mul (pe_op op_mul (pe_int) (pv 3)) (pv 3))) (pe_int)) (pe_int)) pa_nil)) (pe_int)))
      (pss_one (ps_ret (pe_op op_mod (pe_callTy call_int1 (by rfl) T.z_int (by decide +kernel) (pa_cons (pe_op op_fdivW (pv 5) (pe_int)) pa_nil)) (pv 1))))))))))))), ?_⟩
    obtain ⟨ns, t, l, h1, h2, hcp, hlen, t0, tn, l0⟩ := r.ex
    refine ⟨_, rfl, p, _, 2, .int l, rfl, rfl, SqL.of h1, rfl, l, 0, rfl, rfl, _, rfl, ?_⟩
    by_cases hl : 0 < l
    · rw [decide_eq_true hl]
      refine iteT ?_
      refine ⟨_, rfl, p, _, 2, .int l, rfl, rfl, SqL.of h1, rfl, .inl ⟨l, rfl, ?_⟩⟩
      refine ⟨_, rfl, _, rfl, l, many, rfl, rfl, ⟨m0, lgW m0 m1⟩, ?_⟩
      refine ⟨_, rfl, p, _, 2, 2, rfl, rfl, h1, rfl, ?_⟩
      refine ⟨_, rfl, .inl ⟨l, rfl, _, rfl, l, many, rfl, rfl, m0, ?_⟩⟩
      refine k _ _ (Int.emod_nonneg _ (by omega)) (Int.emod_lt_of_pos _ m0) ⟨⟨ns, t, l / many, upd_same, by rw [upd_ne hcp]; exact h2, hcp, hlen, t0, by omega, Int.ediv_nonneg l0 (by omega)⟩⟩ (Kp.up (Kp.rfl' H))
    · rw [decide_eq_false hl]
      refine iteF ?_
      -- turn = rack[1]; rack[1] = turn + 1
      refine ⟨_, rfl, p, _, 1, .int t, rfl, rfl, SqL.of h1, rfl, ?_⟩
      refine ⟨_, rfl, t, 1, rfl, rfl, ?_⟩
      refine ⟨_, rfl, p, _, 1, 1, rfl, rfl, h1, rfl, ?_⟩
      generalize hG : upd H p (.lst [V.ref c, .int (t + 1), .int l]) = G
      have g1 : G p = some (.lst [.ref c, .int (t + 1), .int l]) := by rw [← hG]; exact upd_same
      have g2 : G c = some (.lst (ns.map V.int)) := by rw [← hG, upd_ne hcp]; exact h2
      have g3 : Kp p H G := by rw [← hG]; exact Kp.up (Kp.rfl' H)
      have hG' : upd H p (.lst (List.set [V.ref c, .int t, .int l] 1 (.int (t + 1)))) = G := hG
      rw [hG']
      -- cell = 82701 * turn + 16102
      refine ⟨_, rfl, _, _, rfl, rfl, .inl ⟨by decide, by decide⟩, _, _, rfl, rfl, ?_⟩
      -- if rack[0] != []: cell = ..
      refine ⟨fun σ' G' => ∃ cell : Int, σ' = [some (.ref p), some (.int many), none, some (.int t), some (.int cell), none] ∧ Ex G G', ?_, ?_⟩
      · refine ⟨_, rfl, p, _, 0, .ref c, rfl, rfl, SqL.of g1, rfl, Nat.zero_le _, fun q hq => ?_⟩
        have e1 : Ex G (upd G q (.lst [])) := Ex.nw hq
        refine .inr ⟨.list (ns.map PyData.int), .list [], .lst (SqL.of (e1 _ _ g2)) (dp_ints ns), .lst (SqL.of upd_same) .nil, shaped_ints ns, rfl, _, rfl, ?_⟩
        cases ns with
        | nil => exact iteF ⟨_, rfl, e1⟩
        | cons a r =>
          refine iteT ?_
          have hp : (0 : Int) < ((a :: r).length : Int) := by simp only [List.length_cons]; omega
          obtain ⟨j, hj⟩ : ∃ j : Nat, t % ((a :: r).length : Int) = (j : Int) := ⟨(t % ((a :: r).length : Int)).toNat, (Int.toNat_of_nonneg (Int.emod_nonneg _ (by omega))).symm⟩
          have hj2 : j < (a :: r).length := by have := Int.emod_lt_of_pos t hp; omega
          have hx : ((a :: r).map V.int)[j]? = some (.int ((a :: r)[j])) := by rw [List.getElem?_map, List.getElem?_eq_getElem hj2]; rfl
          have hy : atI ((a :: r).map V.int) (t % (((a :: r).map V.int).length : Int)) = some (.int ((a :: r)[j])) := by rw [List.length_map, hj]; exact atI_nat hx
          refine ⟨_, rfl, p, _, 0, .ref c, rfl, rfl, SqL.of (e1 _ _ g1), rfl, ?_⟩
          refine ⟨_, rfl, .inl ⟨t, rfl, ?_⟩⟩
          refine ⟨_, rfl, p, _, 0, .ref c, rfl, rfl, SqL.of (e1 _ _ g1), rfl, c, _, rfl, .inl (SqL.of (e1 _ _ g2)), t, _, rfl, rfl, (by simp only [List.length_map]; exact hp), ?_⟩
          refine ⟨c, _, _, _, rfl, rfl, SqL.of (e1 _ _ g2), hy, ?_⟩
          exact ⟨_, rfl, e1⟩
      · rintro σ' G' ⟨cell, rfl, e2⟩
        have f1 := e2 _ _ g1
        have f2 := e2 _ _ g2
        have f3 : Kp p H G' := g3.ex e2
        have pw : CPow 10 18 := ⟨by decide, by decide, by decide⟩
        refine ⟨fun σ2 G2 => σ2 = [some (.ref p), some (.int many), none, some (.int t), some (.int cell), none] ∧ G2 = G', ?_, ?_⟩
        · -- turn < len(rack[0]) and abs(cell) >= 10 ** 18
          refine ⟨_, rfl, _, rfl, p, _, 0, .ref c, rfl, rfl, SqL.of f1, rfl, c, _, rfl, .inl (SqL.of f2), t, _, rfl, rfl, _, rfl, ?_⟩
          by_cases c1 : t < ((ns.map V.int).length : Int)
          · rw [decide_eq_true c1]
            refine iteT ⟨_, rfl, cell, rfl, 10, 18, rfl, rfl, pw, _, _, rfl, rfl, _, rfl, ?_⟩
            by_cases c2 : (10 : Int) ^ (18 : Int).toNat ≤ (if cell < 0 then -cell else cell)
            · rw [decide_eq_true c2]
              refine iteT ?_
              refine ⟨_, rfl, cell, rfl, 10, 18, rfl, rfl, pw, _, _, rfl, rfl, 2, _, rfl, rfl, .inl ⟨by decide, by decide⟩, _, rfl, cell, 0, rfl, rfl, .inr ⟨_, rfl, _, _, rfl, rfl, ?_⟩⟩
              have hle : 0 ≤ 2 * ((if cell < 0 then -cell else cell) - (10 : Int) ^ (18 : Int).toNat) + (if decide (cell < 0) = true then (1 : Int) else 0) := by
                have : 0 ≤ (if decide (cell < 0) = true then (1 : Int) else 0) := by split <;> decide
                omega
              refine ⟨_, rfl, _, rfl, _, many, rfl, rfl, ⟨m0, lgW m0 m1⟩, ?_⟩
              refine ⟨_, rfl, p, _, 2, 2, rfl, rfl, f1, rfl, ?_⟩
              refine ⟨_, rfl, .inl ⟨_, rfl, _, rfl, _, many, rfl, rfl, m0, ?_⟩⟩
              exact k _ _ (Int.emod_nonneg _ (by omega)) (Int.emod_lt_of_pos _ m0) ⟨⟨ns, t + 1, _, upd_same, by rw [upd_ne hcp]; exact f2, hcp, hlen, by omega, by omega, Int.ediv_nonneg hle (by omega)⟩⟩ (Kp.up f3)
            · rw [decide_eq_false c2]
              exact iteF ⟨rfl, rfl⟩
          · rw [decide_eq_false c1]
            exact iteF (iteF ⟨rfl, rfl⟩)
        · rintro σ2 G2 ⟨rfl, rfl⟩
          have b1 : 0 ≤ cell % 2147483563 := Int.emod_nonneg _ (by decide)
          have b2 : cell % 2147483563 < 2147483563 := Int.emod_lt_of_pos _ (by decide)
          refine ⟨_, rfl, .inl ⟨cell, rfl, cell, _, rfl, rfl, (by show (0 : Int) < 2147483563; decide), _, rfl, _, t, rfl, rfl, .inl ⟨by decide, by decide⟩, _, _, rfl, rfl, _, _, rfl, rfl, _, 5, rfl, rfl, ⟨by decide, by decide, ?_⟩, .inl ⟨_, rfl, _, _, rfl, rfl, (by show (0 : Int) < 2147483549; decide), ?_⟩⟩⟩
          · show (cell % 2147483563 + 84173 * t + 16102).natAbs < 2 ^ 64
            omega
          have d1 : 0 ≤ (cell % 2147483563 + 84173 * t + 16102) ^ (5 : Int).toNat % 2147483549 := Int.emod_nonneg _ (by decide)
          have d2 : (cell % 2147483563 + 84173 * t + 16102) ^ (5 : Int).toNat % 2147483549 < 2147483549 := Int.emod_lt_of_pos _ (by decide)
          refine ⟨_, rfl, _, rfl, _, _, rfl, rfl, .inl ⟨by decide, by decide⟩, _, _, rfl, rfl, _, _, rfl, rfl, .inl ⟨?_, ?_⟩, _, rfl, _, _, rfl, rfl, .inl ⟨by decide, by decide⟩, _, rfl, _, _, rfl, rfl, .inr ⟨?_, ?_⟩, _, _, rfl, rfl, _, _, rfl, rfl, _, _, rfl, rfl, ⟨by decide, by decide, ?_⟩,
            .inl ⟨_, rfl, _, _, rfl, rfl, (by show (0 : Int) < 2147483543; decide), ?_⟩⟩
          · exact Int.lt_of_lt_of_le (by decide) d1
          · exact Int.lt_trans d2 (by decide)
          · show -(2 ^ 64) < t
            omega
          · show t < 2 ^ 64
            omega
          · exact mix_small d1 (Int.lt_trans d2 (by decide)) t0 (by omega) (by decide) (by decide) (by decide) (by decide) (by decide) (by decide)
          · refine ⟨_, rfl, _, _, rfl, rfl, ⟨by decide, by decide⟩, .inl ⟨_, rfl, _, rfl, _, many, rfl, rfl, m0, ?_⟩⟩
            exact k _ _ (Int.emod_nonneg _ (by omega)) (Int.emod_lt_of_pos _ m0) ⟨⟨ns, t + 1, l, f1, f2, hcp, hlen, by omega, by omega, l0⟩⟩ f3
theorem ok_Lpick (T : Txt K mg fs fd tk cs) : FnG P w K mg base CX0 2 (fs 8) (fd 8) P_Lpick spPick := by
  refine Fun.okG T.f_Lpick sc_Lpick (fun vs H Q E h => ?_) (fun cd A out s H vs Q E gd hr h => ?_)
  · obtain ⟨p, c, x, n, rfl, _⟩ := h
    rfl
  · obtain ⟨p, c, x, n, rfl, r, hn, h⟩ := h
    refine ⟨_, PSs.nox ((pss_one (ps_ret (pe_ix ix_seq (pv 1) (pg_call (ok_Lhaul T) gd (hr.mono (by decide)) (by rfl) T.m_Lhaul T.f_Lhaul.kp (b_Lhaul T) .nil pass0 (pa_cons (pv 0) (pa_cons (pe_callB call_len (by rfl) T.z_len (by decide +kernel) (pa_cons (pv 1) pa_nil)) pa_nil))) (fun _ _ => rfl))))), ?_⟩
    refine ⟨_, rfl, _, rfl, _, rfl, ?_⟩
    rcases h with ⟨a, xs, rfl, na, ha, ne, hl, k⟩ | ⟨z, rfl, z0, z1, k⟩
    · refine ⟨_, xs.length, rfl, .inl ⟨xs, SqL.of ha, rfl⟩, p, c, _, n, rfl, r, hn, ?_, by omega, fun i H' i0 i1 r' kp => ?_⟩
      · have := List.length_pos_iff.mpr ne; omega
      obtain ⟨j, rfl⟩ : ∃ j : Nat, i = (j : Int) := ⟨i.toNat, (Int.toNat_of_nonneg i0).symm⟩
      have hj : j < xs.length := by omega
      exact .inl ⟨a, xs, j, xs[j], rfl, rfl, SqL.of (kp _ _ na ha), atI_nat (List.getElem?_eq_getElem hj), k _ _ (List.getElem_mem hj) r' kp⟩
    · refine ⟨_, z.length, rfl, ⟨?_, rfl⟩, p, c, _, n, rfl, r, hn, by omega, by omega, fun i H' i0 i1 r' kp => ?_⟩
      · exact Nat.le_trans (Nat.le_of_lt z1) (by decide)
      obtain ⟨j, rfl⟩ : ∃ j : Nat, i = (j : Int) := ⟨i.toNat, (Int.toNat_of_nonneg i0).symm⟩
      have hj : j < z.cps.toList.length := by rw [Array.length_toList]; show j < z.length; omega
      exact .inr (.inr ⟨z, j, z.cps.toList[j], rfl, rfl, Nat.le_trans (Nat.le_of_lt z1) (by decide), atI_nat (List.getElem?_eq_getElem hj), k _ _ (List.getElem_mem hj) r' kp⟩)
end
end Mine
set_option maxHeartbeats 400000
namespace Mine
open PySem PySem.Spec PyProof.Rows L2 GL
def Lt (xs : List Nat) : Prop := ∀ c, c ∈ xs → 97 ≤ c ∧ c ≤ 122
theorem LET_eq : LET.cps.toList = (List.range 26).map (· + 97) := by decide +kernel
theorem let_in {c : Nat} : c ∈ LET.cps.toList ↔ 97 ≤ c ∧ c ≤ 122 := by
  rw [LET_eq, List.mem_map]
  constructor
  · rintro ⟨i, hi, rfl⟩
    rw [List.mem_range] at hi
    show 97 ≤ i + 97 ∧ i + 97 ≤ 122
    omega
  · rintro ⟨h1, h2⟩
    exact ⟨c - 97, List.mem_range.mpr (by omega), by show c - 97 + 97 = c; omega⟩
theorem occ_all : ((List.range 26).all fun i => (Builtin.Str.occurrences LET ⟨#[i + 97]⟩ 0 LET.length 1).head? == some i) = true := by decide +kernel
theorem occ {c : Nat} (h1 : 97 ≤ c) (h2 : c ≤ 122) : ∃ rest, Builtin.Str.occurrences LET ⟨#[c]⟩ 0 LET.length 1 = (c - 97) :: rest := by
  have h := List.all_eq_true.mp occ_all (c - 97) (List.mem_range.mpr (by omega))
  have e : c - 97 + 97 = c := by omega
  rw [e] at h
  have h := beq_iff_eq.mp h
  cases ho : Builtin.Str.occurrences LET ⟨#[c]⟩ 0 LET.length 1 with
  | nil => rw [ho] at h; cases h
  | cons a r => rw [ho] at h; cases h; exact ⟨r, rfl⟩
theorem find_let {c : Nat} (h1 : 97 ≤ c) (h2 : c ≤ 122) : Txt.find LET ⟨#[c]⟩ = ((c - 97 : Nat) : Int) := by
  obtain ⟨r, h⟩ := occ h1 h2
  unfold Txt.find
  rw [h]
theorem nnL_app : ∀ (xs : List Nat) (a c : Nat), nnL a (xs ++ [c]) = nnL a xs * 27 + (c - 96)
  | [], a, c => rfl
  | x :: xs, a, c => nnL_app xs (a * 27 + (x - 96)) c
theorem lets_nn : ∀ (ys : List Nat) (f : Nat) (acc : List Nat), Lt ys → ys.length ≤ f → lets f (nnL 0 ys.reverse) acc = some (ys.reverse ++ acc)
  | [], 0, acc, _, _ => rfl
  | [], f + 1, acc, _, _ => rfl
  | c :: ys, 0, acc, _, h => by simp at h
  | c :: ys, f + 1, acc, hL, h => by
    have hc := hL c List.mem_cons_self
    have ih := lets_nn ys f (c :: acc) (fun x hx => hL x (List.mem_cons_of_mem _ hx)) (by simpa using h)
    rw [List.reverse_cons, nnL_app]
    generalize nnL 0 ys.reverse = m at ih
    have e1 : (m * 27 + (c - 96)) % 27 = c - 96 := by omega
    have e2 : (m * 27 + (c - 96)) / 27 = m := by omega
    have e3 : c - 96 + 96 = c := by omega
    show (if m * 27 + (c - 96) = 0 then some acc else if (m * 27 + (c - 96)) % 27 = 0 then none else lets f ((m * 27 + (c - 96)) / 27) (((m * 27 + (c - 96)) % 27 + 96) :: acc)) = _
    rw [if_neg (by omega), e1, if_neg (by omega), e2, e3, ih]
    simp
theorem lets_inv : ∀ (f n : Nat) (acc zs : List Nat), n < 27 ^ f → lets f n acc = some zs → ∃ xs, zs = xs ++ acc ∧ nnL 0 xs = n ∧ Lt xs ∧ xs.length ≤ f
  | 0, n, acc, zs, hn, h => by
    have e : n = 0 := by simpa using hn
    cases h
    exact ⟨[], rfl, e.symm, fun c hc => by simp at hc, Nat.le_refl _⟩
  | f + 1, n, acc, zs, hn, h => by
    have h : (if n = 0 then some acc else if n % 27 = 0 then none else lets f (n / 27) ((n % 27 + 96) :: acc)) = some zs := h
    by_cases h0 : n = 0
    · rw [if_pos h0] at h
      cases h
      exact ⟨[], rfl, h0.symm, fun c hc => by simp at hc, Nat.zero_le _⟩
    · rw [if_neg h0] at h
      by_cases h1 : n % 27 = 0
      · rw [if_pos h1] at h; cases h
      · rw [if_neg h1] at h
        obtain ⟨xs, e1, e2, e3, e4⟩ := lets_inv f (n / 27) _ zs (by rw [Nat.pow_succ] at hn; omega) h
        refine ⟨xs ++ [n % 27 + 96], by rw [e1]; simp, ?_, fun c hc => ?_, by simpa using e4⟩
        · rw [nnL_app, e2]; omega
        · rcases List.mem_append.mp hc with hc | hc
          · exact e3 c hc
          · have e : c = n % 27 + 96 := by simpa using hc
            omega
theorem nn_lt : ∀ (ys : List Nat), Lt ys → nnL 0 ys.reverse < 27 ^ ys.length
  | [], _ => by decide
  | c :: ys, h => by
    have ih := nn_lt ys fun x hx => h x (List.mem_cons_of_mem _ hx)
    have hc := h c List.mem_cons_self
    rw [List.reverse_cons, nnL_app, List.length_cons, Nat.pow_succ]
    omega
theorem nameB_lt {z : Str} (h : nameB z = true) : Lt z.cps.toList ∧ 1 ≤ z.cps.toList.length ∧ z.cps.toList.length ≤ 12 := by
  unfold nameB at h
  simp only [Bool.and_eq_true, decide_eq_true_eq, List.all_eq_true] at h
  obtain ⟨⟨h1, h2⟩, h3⟩ := h
  refine ⟨fun c hc => let_in.mp (h3 c hc), ?_, ?_⟩
  · rw [Array.length_toList]; exact h1
  · rw [Array.length_toList]; exact h2
theorem nameB_of {z : Str} (h : Lt z.cps.toList) (h1 : 1 ≤ z.cps.toList.length) (h2 : z.cps.toList.length ≤ 12) : nameB z = true := by
  unfold nameB
  simp only [Bool.and_eq_true, decide_eq_true_eq, List.all_eq_true]
  rw [Array.length_toList] at h1 h2
  exact ⟨⟨h1, h2⟩, fun c hc => let_in.mpr (h c hc)⟩
theorem nnum_rng {z : Str} (h : nameB z = true) : 1 ≤ nnum z ∧ nnum z < 27 ^ 12 := by
  obtain ⟨h1, h2, h3⟩ := nameB_lt h
  unfold nnum
  constructor
  · obtain ⟨xs, c, e⟩ : ∃ xs c, z.cps.toList = xs ++ [c] := by
      rcases List.eq_nil_or_concat z.cps.toList with e | ⟨xs, c, e⟩
      · rw [e] at h2; simp at h2
      · exact ⟨xs, c, by simpa using e⟩
    have hc := h1 c (by rw [e]; simp)
    rw [e, nnL_app]
    omega
  · have q := nn_lt z.cps.toList.reverse fun c hc => h1 c (by simpa using hc)
    rw [List.reverse_reverse, List.length_reverse] at q
    exact Nat.lt_of_lt_of_le q (Nat.pow_le_pow_right (by decide) h3)
theorem str_eta (z : Str) : (⟨z.cps.toList.toArray⟩ : Str) = z := by cases z; simp
theorem nmOf_num {z : Str} (h : nameB z = true) : nmOf (.int (nnum z)) = some z := by
  obtain ⟨h1, h2, h3⟩ := nameB_lt h
  have r := nnum_rng h
  have e := lets_nn z.cps.toList.reverse 12 [] (fun c hc => h1 c (by simpa using hc)) (by simpa using h3)
  rw [List.reverse_reverse, List.append_nil] at e
  show (if 1 ≤ (nnum z : Int) ∧ (nnum z : Int) ≤ 150094635296999120 then (lets 12 (nnum z : Int).toNat []).map _ else none) = _
  have p : 27 ^ 12 = 150094635296999121 := by decide
  rw [if_pos (by omega), Int.toNat_natCast]
  unfold nnum
  rw [e]
  show some (⟨z.cps.toList.toArray⟩ : Str) = _
  rw [str_eta]
theorem nmOf_inv {v : V} {z : Str} (h : nmOf v = some z) : v = .int (nnum z) ∧ nameB z = true := by
  cases v <;> first | (cases h; done) | skip
  rename_i i
  have h : (if 1 ≤ i ∧ i ≤ 150094635296999120 then (lets 12 i.toNat []).map (fun l => (⟨l.toArray⟩ : Str)) else none) = some z := h
  by_cases hi : 1 ≤ i ∧ i ≤ 150094635296999120
  · rw [if_pos hi] at h
    obtain ⟨l, e1, e2⟩ := Option.map_eq_some_iff.mp h
    have p : 27 ^ 12 = 150094635296999121 := by decide
    obtain ⟨xs, e3, e4, e5, e6⟩ := lets_inv 12 i.toNat [] l (by omega) e1
    rw [List.append_nil] at e3
    subst e3
    have ez : z.cps.toList = l := by rw [← e2]
    refine ⟨?_, nameB_of (by rw [ez]; exact e5) ?_ (by rw [ez]; exact e6)⟩
    · unfold nnum
      rw [ez, e4, Int.toNat_of_nonneg (by omega)]
    · rw [ez]
      cases l with
      | nil => have : i.toNat = 0 := e4.symm; omega
      | cons a r => simp
  · rw [if_neg hi] at h; cases h
/-- of one length: the lesser name, the lesser number -/
theorem nn_ord : ∀ (xs ys : List Nat) (a b : Nat), xs.length = ys.length → Lt xs → Lt ys → (nnL a xs < nnL b ys ↔ a < b ∨ (a = b ∧ xs < ys))
  | [], [], a, b, _, _, _ => by
    show a < b ↔ _
    simp
  | [], y :: ys, a, b, h, _, _ => by simp at h
  | x :: xs, [], a, b, h, _, _ => by simp at h
  | x :: xs, y :: ys, a, b, h, hx, hy => by
    have ih := nn_ord xs ys (a * 27 + (x - 96)) (b * 27 + (y - 96)) (by simpa using h) (fun c hc => hx c (List.mem_cons_of_mem _ hc)) (fun c hc => hy c (List.mem_cons_of_mem _ hc))
    show nnL (a * 27 + (x - 96)) xs < nnL (b * 27 + (y - 96)) ys ↔ _
    rw [ih, List.cons_lt_cons_iff]
    have c1 := hx x List.mem_cons_self
    have c2 := hy y List.mem_cons_self
    constructor
    · rintro (h | ⟨h1, h2⟩)
      · by_cases e : a = b
        · exact .inr ⟨e, .inl (by omega)⟩
        · exact .inl (by omega)
      · by_cases e : a = b
        · exact .inr ⟨e, .inr ⟨by omega, h2⟩⟩
        · exact .inl (by omega)
    · rintro (h | ⟨h1, h2 | ⟨h2, h3⟩⟩)
      · exact .inl (by omega)
      · exact .inl (by omega)
      · exact .inr ⟨by omega, h3⟩
end Mine
set_option maxHeartbeats 400000
namespace Mine
open PySem PySem.Spec PyProof.Rows L2 GL
section
variable {P : Program} {w : World} {K : PySem.W.Frag} {mg : Str → Option Value} {base : Heap} {fs : Nat → Addr} {fd : Nat → FuncData} {tk : Nat → Tok} {cs : Nat → Addr}
theorem LET_at {d : Nat} (h : d < 26) : atI LET.cps.toList (d : Int) = some (d + 97) := atI_nat (by rw [LET_eq, List.getElem?_map, List.getElem?_range h]; rfl)
theorem str_cons (c : Nat) (acc : List Nat) : (⟨#[c]⟩ : Str) ++ (⟨acc.toArray⟩ : Str) = ⟨(c :: acc).toArray⟩ := by
  show (⟨#[c] ++ acc.toArray⟩ : Str) = _
  simp
theorem ex_del {H H1 : Hp} {a : Addr} (e : Ex H H1) (ha : H a = none) : Ex H (delH H1 a) := fun b o h => by
  have n : b ≠ a := fun z => by rw [z, ha] at h; cases h
  rw [delH_ne n]; exact e b o h
/-- raise C(x): what is told behind it -/
theorem rd_raise {X : Cx} {C : Addr} {f : Str} {x : V} {H : Hp} {W : Value → Option Addr → Hp → Prop} {σ : L2.St} (e0 : Ex X.H_0 H) (cl : ClsX X.K C) (k : ∀ dd H', Ex H H' → H' dd = some (exd dd [(f, x)]) → W (.ref C) (some dd) H') :
    tCall (spC1 C f) [] (fun _ _ _ => False) (tCons (tC x) tNil) σ H (fun y H1 => ∃ (a C : Addr) (d : Option Addr), y = .ref a ∧ H1 a = some (exo a C d) ∧ X.H_0 a = none ∧ Raises X (.ref C) ∧ W (.ref C) d (delH H1 a)) := by
  refine ⟨x, rfl, fun a H2 na e2 eo => ?_⟩
  obtain ⟨dd, hne, h1, h2⟩ := eo
  refine ⟨a, C, some dd, rfl, h1, e0.no na, raises_own cl.ox.exC cl.ox.tyC, k dd _ (ex_del e2 na) ?_⟩
  rw [delH_ne hne]; exact h2
theorem p27 : (27 : Nat) ^ 12 = 150094635296999121 := by decide
def mu0 (σ : L2.St) (H : Hp) : Nat := match (σ[0]? : Option (Option V)) with
  | some (some (.int i)) => i.toNat
  | _ => 0
theorem ok_name_or_none (T : Txt K mg fs fd tk cs) : FnG P w K mg base CX0 3 (fs 5) (fd 5) P_name_or_none spNone := by
  refine Fun.okG T.f_name_or_none sc_name_or_none (fun vs H Q E h => ?_) (fun cd A out s H vs Q E gd hr h => ?_)
  · obtain ⟨p, v, rfl, _⟩ := h
    rfl
  · obtain ⟨p, v, rfl, hv, k⟩ := h
    refine ⟨_, PSs.nox ((pss_cons (ps_if (pt_not (pt_val (pg_call (ok_is_within T) gd (hr.mono (by decide)) (by rfl) T.m_is_within T.f_is_within.kp (b_is_within T) .nil pass0 (pa_cons (pv 0) (pa_cons (pe_int) (pa_cons (pe_op op_sub (pe_glob (v := .int 150094635296999121) (by rfl) T.c_BEHIND_ALL_NAMES ⟨_, rfl⟩) (pe_int)) pa_nil))))))
        (pss_one (ps_ret (pe_non)))
        pss_nil)
      (pss_cons (ps_set (i := 1) sc_name_or_none.nd rfl (by first | exact Or.inl rfl | exact Or.inr rfl) (pe_str))
      (pss_cons (ps_while PassesOwn.never (pt_cmpR op_gt (pv 0) (pe_int) (nomark _))
        (pss_cons (ps_asg (pe_callB call_divmod (by rfl) T.z_divmod (by decide +kernel) (pa_cons (pv 0) (pa_cons (pe_glob (v := .int 27) (by rfl) T.c_BASE ⟨_, rfl⟩) pa_nil))) (pg_tup rfl (pgs_cons (pg_name (i := 0) sc_name_or_none.nd rfl (by first | exact Or.inl rfl | exact Or.inr rfl)) (pgs_cons (pg_name (i := 2) sc_name_or_none.nd rfl (by first | exact Or.inl rfl | exact Or.inr rfl)) pgs_nil))))
        (pss_cons (ps_if (pt_cmpR op_eq (pv 2) (pe_int) (nomark _))
          (pss_one (ps_ret (pe_non)))
          pss_nil)
        (pss_one (ps_set (i := 1) sc_name_or_none.nd rfl (by first | exact Or.inl rfl | exact Or.inr rfl) (pe_op op_add_str (pe_ix ix_str (pe_glob (v := .str "abcdefghijklmnopqrstuvwxyz") (by rfl) T.c_LETTERS ⟨_, rfl⟩) (pe_op op_sub (pv 2) (pe_int)) (fun _ _ => rfl)) (pv 1)))))))
      (pss_one (ps_ret (pv 1))))))), ?_⟩
    refine ⟨v, rfl, _, _, rfl, rfl, p, v, some 1, some 150094635296999120, rfl, hv, fun H1 e1 => ⟨_, rfl, ?_⟩⟩
    cases c : within v (some 1) (some 150094635296999120) with
    | false =>
      have e : nmOf v = none := by
        cases v <;> first | rfl | skip
        rename_i i
        show (if 1 ≤ i ∧ i ≤ 150094635296999120 then _ else none) = none
        have c : (decide (1 ≤ i) && decide (i ≤ 150094635296999120)) = false := c
        rw [if_neg (by simp only [Bool.and_eq_false_iff, decide_eq_false_iff_not] at c; omega)]
      rw [e] at k
      exact iteT (k H1 e1)
    | true =>
      obtain ⟨i, rfl⟩ : ∃ i, v = .int i := by cases v <;> first | exact ⟨_, rfl⟩ | (cases c; done)
      have c : (decide (1 ≤ i) && decide (i ≤ 150094635296999120)) = true := c
      simp only [Bool.and_eq_true, decide_eq_true_eq] at c
      obtain ⟨n, rfl⟩ : ∃ n : Nat, i = (n : Int) := ⟨i.toNat, (Int.toNat_of_nonneg (by omega)).symm⟩
      have ek : nmOf (.int (n : Int)) = (lets 12 n []).map fun l => ⟨l.toArray⟩ := by
        show (if 1 ≤ (n : Int) ∧ (n : Int) ≤ 150094635296999120 then (lets 12 (n : Int).toNat []).map _ else none) = _
        rw [if_pos c, Int.toNat_natCast]
      rw [ek] at k
      refine iteF ?_
      refine while_by (fun σ G => ∃ (f m : Nat) (acc : List Nat) (dg : Option V), σ = [some (.int m), some (.str ⟨acc.toArray⟩), dg] ∧ m < 27 ^ f ∧ f + acc.length = 12 ∧ lets f m acc = lets 12 n [] ∧ Ex H1 G) mu0 ⟨12, n, [], none, rfl, (by rw [p27]; omega), rfl, rfl, Ex.rfl' _⟩ ?_ ?_
      · rintro σ G ⟨f, m, acc, dg, rfl, hm, hl, he, eG⟩
        refine ⟨_, rfl, m, 0, rfl, rfl, _, rfl, ?_⟩
        by_cases c0 : (0 : Int) < (m : Int)
        · rw [decide_eq_true c0]
          refine iteT ?_
          obtain ⟨f, rfl⟩ : ∃ g, f = g + 1 := by
            cases f with
            | zero => have : m = 0 := by simpa using hm
                      omega
            | succ g => exact ⟨g, rfl⟩
          have he : (if m = 0 then some acc else if m % 27 = 0 then none else lets f (m / 27) ((m % 27 + 96) :: acc)) = lets 12 n [] := he
          rw [if_neg (by omega)] at he
          have q1 : (m : Int) / 27 = ((m / 27 : Nat) : Int) := by omega
          have q2 : (m : Int) % 27 = ((m % 27 : Nat) : Int) := by omega
          refine ⟨_, rfl, m, 27, rfl, ⟨by decide, by decide⟩, fun t ht => ?_⟩
          have e3 := Ex.nw (o := .tup [V.int ((m : Int) / 27), V.int ((m : Int) % 27)]) ht
          have g3 : (upd G t (.tup [V.int ((m : Int) / 27), V.int ((m : Int) % 27)])) t = some (.tup [V.int ((m : Int) / 27), V.int ((m : Int) % 27)]) := upd_same
          generalize upd G t (.tup [V.int ((m : Int) / 27), V.int ((m : Int) % 27)]) = G3 at e3 g3
          rw [q1, q2] at g3
          refine ⟨t, _, rfl, SqT.of g3, rfl, _, _, rfl, _, _, rfl, rfl, ?_⟩
          refine ⟨_, rfl, rfl, _, rfl, ?_⟩
          by_cases c1 : m % 27 = 0
          · rw [decide_eq_true (show V.int ((m % 27 : Nat) : Int) = V.int 0 by rw [c1]; rfl)]
            rw [if_pos c1] at he
            rw [← he] at k
            exact iteT (k _ (e1.tr (eG.tr e3)))
          · rw [decide_eq_false (show ¬ V.int ((m % 27 : Nat) : Int) = V.int 0 by intro z; injection z with z; omega)]
            rw [if_neg c1] at he
            refine iteF ?_
            have q3 : ((m % 27 : Nat) : Int) - 1 = ((m % 27 - 1 : Nat) : Int) := by omega
            refine ⟨_, rfl, _, _, rfl, rfl, LET, ((m % 27 - 1 : Nat) : Int), m % 27 + 96, rfl, by rw [← q3], (by decide +kernel), ?_, _, rfl, _, _, rfl, rfl, ?_, ?_⟩
            · rw [LET_at (by omega)]
              congr 1
              omega
            · show 1 + acc.toArray.size ≤ sizeLine
              simp only [List.size_toArray]
              exact sz_le (by omega)
            · rw [str_cons]
              exact ⟨⟨f, m / 27, (m % 27 + 96) :: acc, _, rfl, by rw [Nat.pow_succ] at hm; omega, by simp only [List.length_cons]; omega, he, eG.tr e3⟩, by show ((m / 27 : Nat) : Int).toNat < (m : Int).toNat; omega⟩
        · rw [decide_eq_false c0]
          have c1 : m = 0 := by omega
          subst c1
          have he : some acc = lets 12 n [] := by
            rw [← he]
            cases f <;> rfl
          rw [← he] at k
          exact iteF ⟨_, rfl, k _ (e1.tr eG)⟩
      · rintro σ G Q1 Q2 hq ⟨x, hx, i, j, e1, e2, b, eb, q⟩
        exact ⟨x, hx, i, j, e1, e2, b, eb, hq _ _ q⟩
theorem ok_name_of (T : Txt K mg fs fd tk cs) : FnG P w K mg base (L2.CX P w) 4 (fs 4) (fd 4) P_name_of (spOf cs) := by
  refine Fun.okG T.f_name_of sc_name_of (fun vs H Q E h => ?_) (fun cd A out s H vs Q E gd hr h => ?_)
  · obtain ⟨p, v, rfl, _⟩ := h
    rfl
  · obtain ⟨p, v, rfl, hv, k1, k2⟩ := h
    refine ⟨_, (pss_cons (ps_set (i := 1) sc_name_of.nd rfl (by first | exact Or.inl rfl | exact Or.inr rfl) (pg_call (ok_name_or_none T) gd (hr.mono (by decide)) (by rfl) T.m_name_or_none T.f_name_or_none.kp (b_name_or_none T) .nil pass0 (pa_cons (pv 0) pa_nil)))
      (pss_cons (ps_if (pt_cmpR op_isN (pv 1) (pe_non) (nomark _))
        (pss_one (ps_raise rfl (takes_of rfl rfl rfl rfl) (pmk_val rfl (pe_newX T.x_BadNumber T.i_BadNumber T.t_BadNumber (ok_BadNumber_init T) gd (hr.mono (by decide)) pass0 inits1 (b_BadNumber_init T) (by rfl) T.m_BadNumber (pa_cons (pe_str) pa_nil)))))
        pss_nil)
      (pss_one (ps_ret (pv 1))))), ?_⟩
    refine ⟨v, rfl, p, v, rfl, hv, fun H1 e1 => ?_⟩
    cases c : nmOf v with
    | none =>
      refine ⟨_, rfl, rfl, _, rfl, iteT ?_⟩
      exact rd_raise (X := (cxOf (L2.CX P w) P w K mg base N_name_of "name_of" (defScope s_name_of) (fs 4) cd A out s H E)) e1 T.x_BadNumber fun dd H2 e2 g2 => k2 c dd H2 (e1.tr e2) g2
    | some z =>
      refine ⟨_, rfl, rfl, _, rfl, iteF ?_⟩
      exact ⟨_, rfl, k1 z c H1 e1⟩
end
end Mine
set_option maxHeartbeats 400000
namespace Mine
open PySem PySem.Spec PyProof.Rows L2 GL
section
variable {P : Program} {w : World} {K : PySem.W.Frag} {mg : Str → Option Value} {base : Heap} {fs : Nat → Addr} {fd : Nat → FuncData} {tk : Nat → Tok} {cs : Nat → Addr}
theorem drop_get {l : List Nat} {i : Nat} {x : V} (h : (l.map fun c => V.str ⟨#[c]⟩)[i]? = some x) : ∃ c, x = .str ⟨#[c]⟩ ∧ l.drop i = c :: l.drop (i + 1) ∧ c ∈ l := by
  obtain ⟨c, hc, rfl⟩ := map_get h
  have hi := lt_of_get hc
  refine ⟨c, rfl, ?_, List.mem_of_getElem? hc⟩
  rw [List.drop_eq_getElem_cons hi]
  rw [List.getElem?_eq_getElem hi] at hc
  rw [Option.some.inj hc]
theorem strV {p : Addr} {σ : L2.St} {H : Hp} {i : Nat} {z : Str} (hi : σ[i]? = some (some (.str z))) : Src p (iStr (tVar i)) σ H (z.cps.toList.map fun c => V.str ⟨#[c]⟩) := Src.str fun Q q => ⟨_, hi, q H (Ex.rfl' H)⟩
theorem ok_name_number (T : Txt K mg fs fd tk cs) : FnG P w K mg base (L2.CX P w) 4 (fs 3) (fd 3) P_name_number (spNum cs) := by
  refine Fun.okG T.f_name_number sc_name_number (fun vs H Q E h => ?_) (fun cd A out s H vs Q E gd hr h => ?_)
  · obtain ⟨p, v, rfl, _⟩ := h
    rfl
  · obtain ⟨p, v, rfl, hv, sh, k1, k2⟩ := h
    refine ⟨_, (pss_cons (ps_if (pt_not (pt_val (pg_call (ok_is_name T) gd (hr.mono (by decide)) (by rfl) T.m_is_name T.f_is_name.kp (b_is_name T) .nil pass0 (pa_cons (pv 0) pa_nil))))
        (pss_one (ps_raise rfl (takes_of rfl rfl rfl rfl) (pmk_val rfl (pe_newX T.x_BadName T.i_BadName T.t_BadName (ok_BadName_init T) gd (hr.mono (by decide)) pass0 inits1 (b_BadName_init T) (by rfl) T.m_BadName (pa_cons (pe_str) pa_nil)))))
        pss_nil)
      (pss_cons (ps_set (i := 1) sc_name_number.nd rfl (by first | exact Or.inl rfl | exact Or.inr rfl) (pe_int))
      (pss_cons (ps_for (passes_of rfl) rfl (pi_str (pv 0)) (pg_name (i := 2) sc_name_number.nd rfl (by first | exact Or.inl rfl | exact Or.inr rfl))
        (pss_one (ps_set (i := 1) sc_name_number.nd rfl (by first | exact Or.inl rfl | exact Or.inr rfl) (pe_op op_add (pe_op op_add (pe_op op_mul (pv 1) (pe_glob (v := .int 27) (by rfl) T.c_BASE ⟨_, rfl⟩)) (pe_m1 PySem.F.slot_str_index PySem.F.type_str_index mt_sindex (pe_glob (v := .str "abcdefghijklmnopqrstuvwxyz") (by rfl) T.c_LETTERS ⟨_, rfl⟩) (pv 2))) (pe_int)))))
      (pss_one (ps_ret (pv 1)))))), ?_⟩
    refine ⟨v, rfl, p, v, rfl, hv, sh, fun H1 e1 => ⟨isNm v, rfl, ?_⟩⟩
    cases c : isNm v with
    | false =>
      refine iteT ?_
      exact rd_raise (X := (cxOf (L2.CX P w) P w K mg base N_name_number "name_number" (defScope s_name_number) (fs 3) cd A out s H E)) e1 T.x_BadName fun dd H2 e2 g2 => k2 c dd H2 (e1.tr e2) g2
    | true =>
      obtain ⟨z, rfl⟩ : ∃ z, v = .str z := by cases v <;> first | exact ⟨_, rfl⟩ | (cases c; done)
      have hz := nameB_lt c
      have k := k1 z rfl c
      refine iteF ?_
      refine for_src (strV (p := p) (i := 0) (z := z) rfl) (fun H2 i σ' H3 => Ex H2 H3 ∧ ∃ (a : Nat) (y : Option V), σ' = [some (.str z), some (.int a), y] ∧ nnL a (z.cps.toList.drop i) = nnum z) (fun H2 e2 => ⟨Ex.rfl' _, 0, none, rfl, rfl⟩) (fun H2 i σ' H3 g => Ex.kp g.1) ?_ ?_
      · rintro H2 i x σ' H3 e2 hx ⟨e3, a, y, rfl, el⟩
        obtain ⟨ch, rfl, hd, hm⟩ := drop_get hx
        have hc := hz.1 ch hm
        obtain ⟨rest, ho⟩ := occ hc.1 hc.2
        rw [hd] at el
        have q : (a : Int) * 27 + ((ch - 97 : Nat) : Int) + 1 = ((a * 27 + (ch - 96) : Nat) : Int) := by omega
        refine ⟨_, rfl, (a : Int), 27, rfl, rfl, .inr ⟨by decide, by decide⟩, ⟨LET, rfl⟩, _, rfl, LET, ⟨#[ch]⟩, ch - 97, rest, rfl, rfl, ho, _, _, rfl, rfl, _, _, rfl, rfl, e3, a * 27 + (ch - 96), some (.str ⟨#[ch]⟩), ?_, el⟩
        rw [← q]
        rfl
      · rintro H2 σ' H3 e2 ⟨e3, a, y, rfl, el⟩
        rw [List.length_map, List.drop_length] at el
        have el : a = nnum z := el
        rw [el]
        exact ⟨_, rfl, k _ (e1.tr (e2.tr e3))⟩
theorem ok_Lnumber (T : Txt K mg fs fd tk cs) : FnG P w K mg base CX0 1 (fs 10) (fd 10) P_Lnumber spLnumber := by
  refine Fun.okG T.f_Lnumber sc_Lnumber (fun vs H Q E h => ?_) (fun cd A out s H vs Q E gd hr h => ?_)
  · obtain ⟨z, rfl, _⟩ := h
    rfl
  · obtain ⟨z, rfl, c, k⟩ := h
    refine ⟨_, PSs.nox ((pss_cons (ps_set (i := 1) sc_Lnumber.nd rfl (by first | exact Or.inl rfl | exact Or.inr rfl) (pe_int))
      (pss_cons (ps_for PassesOwn.never rfl (pi_str (pv 0)) (pg_name (i := 2) sc_Lnumber.nd rfl (by first | exact Or.inl rfl | exact Or.inr rfl))
        (pss_one (ps_set (i := 1) sc_Lnumber.nd rfl (by first | exact Or.inl rfl | exact Or.inr rfl) (pe_op op_add (pe_op op_add (pe_op op_mul (pv 1) (pe_int)) (pe_m1 PySem.F.slot_str_find PySem.F.type_str_find mt_find (pe_str) (pv 2))) (pe_int)))))
      (pss_one (ps_ret (pv 1)))))), ?_⟩
    have hz := nameB_lt c
    refine for_src (strV (p := 0) (i := 0) (z := z) rfl) (fun H2 i σ' H3 => Ex H2 H3 ∧ ∃ (a : Nat) (y : Option V), σ' = [some (.str z), some (.int a), y] ∧ nnL a (z.cps.toList.drop i) = nnum z) (fun H2 e2 => ⟨Ex.rfl' _, 0, none, rfl, rfl⟩) (fun H2 i σ' H3 g => Ex.kp g.1) ?_ ?_
    · rintro H2 i x σ' H3 e2 hx ⟨e3, a, y, rfl, el⟩
      obtain ⟨ch, rfl, hd, hm⟩ := drop_get hx
      have hc := hz.1 ch hm
      rw [hd] at el
      have q : (a : Int) * 27 + ((ch - 97 : Nat) : Int) + 1 = ((a * 27 + (ch - 96) : Nat) : Int) := by omega
      refine ⟨_, rfl, (a : Int), 27, rfl, rfl, .inr ⟨by decide, by decide⟩, ⟨LET, rfl⟩, _, rfl, LET, ⟨#[ch]⟩, rfl, rfl, _, _, rfl, rfl, _, _, rfl, rfl, e3, a * 27 + (ch - 96), some (.str ⟨#[ch]⟩), ?_, el⟩
      rw [← q, find_let hc.1 hc.2]
      rfl
    · rintro H2 σ' H3 e2 ⟨e3, a, y, rfl, el⟩
      rw [List.length_map, List.drop_length] at el
      have el : a = nnum z := el
      rw [el]
      exact ⟨_, rfl, k _ (e2.tr e3)⟩
def mu2 (σ : L2.St) (H : Hp) : Nat := match (σ[2]? : Option (Option V)) with
  | some (some (.int i)) => i.toNat
  | _ => 0
theorem nm_lo {n : Nat} (h1 : 1 ≤ n) (h2 : n < 27 ^ 12) : nmOf (.int n) = (lets 12 n []).map fun l => ⟨l.toArray⟩ := by
  show (if 1 ≤ (n : Int) ∧ (n : Int) ≤ 150094635296999120 then (lets 12 (n : Int).toNat []).map _ else none) = _
  rw [p27] at h2
  rw [if_pos (by omega), Int.toNat_natCast]
theorem nm_hi {n : Nat} (h : n = 0 ∨ 27 ^ 12 ≤ n) : nmOf (.int n) = none := by
  show (if 1 ≤ (n : Int) ∧ (n : Int) ≤ 150094635296999120 then (lets 12 (n : Int).toNat []).map _ else none) = _
  rw [p27] at h
  rw [if_neg (by omega)]
theorem ok_Lletters (T : Txt K mg fs fd tk cs) : FnG P w K mg base CX0 1 (fs 11) (fd 11) P_Lletters spLet := by
  refine Fun.okG T.f_Lletters sc_Lletters (fun vs H Q E h => ?_) (fun cd A out s H vs Q E gd hr h => ?_)
  · obtain ⟨n, rfl, _⟩ := h
    rfl
  · obtain ⟨n, rfl, k⟩ := h
    refine ⟨_, PSs.nox ((pss_cons (ps_par (i := 1) (j := 2) (by rfl) sc_Lletters.nd rfl rfl (by decide) rfl rfl (pa_cons (pe_str) (pa_cons (pv 0) pa_nil)) (by rfl))
      (pss_cons (ps_while PassesOwn.never (pt_cmpR op_gt (pv 2) (pe_int) (nomark _))
        (pss_cons (ps_par (i := 3) (j := 2) (by rfl) sc_Lletters.nd rfl rfl (by decide) rfl rfl (pa_cons (pe_op op_mod (pe_callTy call_int1 (by rfl) T.z_int (by decide +kernel) (pa_cons (pv 2) pa_nil)) (pe_int)) (pa_cons (pe_op op_fdivW (pv 2) (pe_int)) pa_nil)) (by rfl))
        (pss_cons (ps_if (PW.pt (pw_or (pt_cmpR op_eq (pv 3) (pe_int) (nomark _)) (pw_or1 (pt_cmpR op_eq (pe_callB call_len_str (by rfl) T.z_len (by decide +kernel) (pa_cons (pv 1) pa_nil)) (pe_int) (nomark _)))))
          (pss_one (ps_ret (pe_non)))
          pss_nil)
        (pss_one (ps_set (i := 1) sc_Lletters.nd rfl (by first | exact Or.inl rfl | exact Or.inr rfl) (pe_op op_add_str (pe_ix ix_str (pe_str) (pe_op op_sub (pv 3) (pe_int)) (fun _ _ => rfl)) (pv 1)))))))
      (pss_one (ps_ret (pe_ifExp (pt_cmpR op_ne (pv 1) (pe_str) (nomark _)) (pv 1) (pe_non))))))), ?_⟩
    refine ⟨_, rfl, _, _, rfl, ?_⟩
    refine while_by (fun σ G => ∃ (f m : Nat) (acc : List Nat) (dg : Option V), σ = [some (.int n), some (.str ⟨acc.toArray⟩), some (.int m), dg] ∧ f + acc.length = 12 ∧ ((m < 27 ^ f ∧ n < 27 ^ 12 ∧ lets f m acc = lets 12 n []) ∨ (27 ^ f ≤ m ∧ 27 ^ 12 ≤ n)) ∧ (acc = [] → m = n) ∧ (acc ≠ [] → 1 ≤ n) ∧ Ex H G) mu2 ?_ ?_ ?_
    · refine ⟨12, n, [], none, rfl, rfl, ?_, fun _ => rfl, fun z => absurd rfl z, Ex.rfl' _⟩
      by_cases c : n < 27 ^ 12
      · exact .inl ⟨c, c, rfl⟩
      · exact .inr ⟨by omega, by omega⟩
    · rintro σ G ⟨f, m, acc, dg, rfl, hl, hc, h0, h1, eG⟩
      refine ⟨_, rfl, m, 0, rfl, rfl, _, rfl, ?_⟩
      by_cases c0 : (0 : Int) < (m : Int)
      · rw [decide_eq_true c0]
        refine iteT ?_
        have n1 : 1 ≤ n := by
          by_cases e : acc = []
          · have := h0 e; omega
          · exact h1 e
        have q1 : (m : Int) / 27 = ((m / 27 : Nat) : Int) := by omega
        have q2 : (m : Int) % 27 = ((m % 27 : Nat) : Int) := by omega
        refine ⟨_, rfl, .inl ⟨m, rfl, _, _, rfl, rfl, (show (0 : Int) < 27 by decide), _, rfl, _, _, rfl, rfl, ⟨by decide, by decide⟩, _, _, rfl, ?_⟩⟩
        dsimp only
        rw [q1, q2]
        refine ⟨_, rfl, rfl, _, rfl, ?_⟩
        by_cases c1 : m % 27 = 0
        · rw [decide_eq_true (show V.int ((m % 27 : Nat) : Int) = V.int 0 by rw [c1]; rfl)]
          refine iteT (iteT ?_)
          have kn := k G eG
          rcases hc with ⟨a1, a2, a3⟩ | ⟨a1, a2⟩
          · rw [nm_lo n1 a2, ← a3] at kn
            cases f with
            | zero => have : m = 0 := by simpa using a1
                      omega
            | succ f =>
              have a4 : lets (f + 1) m acc = none := by
                show (if m = 0 then some acc else if m % 27 = 0 then none else _) = none
                rw [if_neg (by omega), if_pos c1]
              rw [a4] at kn
              exact kn
          · rw [nm_hi (.inr a2)] at kn
            exact kn
        · rw [decide_eq_false (show ¬ V.int ((m % 27 : Nat) : Int) = V.int 0 by intro z; injection z with z; omega)]
          refine iteF ⟨_, rfl, ⟨acc.toArray⟩, rfl, (by show acc.toArray.size ≤ sizeLine; simp only [List.size_toArray]; exact sz_le (by omega)), rfl, _, rfl, ?_⟩
          have el : ((⟨acc.toArray⟩ : Str).length : Int) = (acc.length : Int) := by show (acc.toArray.size : Int) = _; simp
          rw [el]
          by_cases c2 : acc.length = 12
          · rw [decide_eq_true (show V.int (acc.length : Int) = V.int 12 by rw [c2]; rfl)]
            refine iteT ?_
            have kn := k G eG
            rcases hc with ⟨a1, a2, a3⟩ | ⟨a1, a2⟩
            · have ef : f = 0 := by omega
              rw [ef] at a1
              have : m = 0 := by simpa using a1
              omega
            · rw [nm_hi (.inr a2)] at kn
              exact kn
          · rw [decide_eq_false (show ¬ V.int (acc.length : Int) = V.int 12 by intro z; injection z with z; omega)]
            refine iteF ?_
            obtain ⟨f, rfl⟩ : ∃ g, f = g + 1 := ⟨f - 1, by omega⟩
            have q3 : ((m % 27 : Nat) : Int) - 1 = ((m % 27 - 1 : Nat) : Int) := by omega
            refine ⟨_, rfl, _, _, rfl, rfl, LET, ((m % 27 - 1 : Nat) : Int), m % 27 + 96, rfl, by rw [← q3], (by decide +kernel), ?_, _, rfl, _, _, rfl, rfl, ?_, ?_⟩
            · rw [LET_at (by omega)]
              congr 1
              omega
            · show 1 + acc.toArray.size ≤ sizeLine
              simp only [List.size_toArray]
              exact sz_le (by omega)
            · rw [str_cons]
              refine ⟨⟨f, m / 27, (m % 27 + 96) :: acc, _, rfl, by simp only [List.length_cons]; omega, ?_, (fun z => by cases z), fun _ => n1, eG⟩, by show ((m / 27 : Nat) : Int).toNat < (m : Int).toNat; omega⟩
              rcases hc with ⟨a1, a2, a3⟩ | ⟨a1, a2⟩
              · have a3 : (if m = 0 then some acc else if m % 27 = 0 then none else lets f (m / 27) ((m % 27 + 96) :: acc)) = lets 12 n [] := a3
                rw [if_neg (by omega), if_neg c1] at a3
                exact .inl ⟨by rw [Nat.pow_succ] at a1; omega, a2, a3⟩
              · exact .inr ⟨by rw [Nat.pow_succ] at a1; omega, a2⟩
      · rw [decide_eq_false c0]
        have c1 : m = 0 := by omega
        subst c1
        refine iteF ?_
        have kn := k G eG
        refine ⟨_, rfl, rfl, _, rfl, ?_⟩
        by_cases e : acc = []
        · subst e
          have z := h0 rfl
          rw [nm_hi (.inl z.symm)] at kn
          exact kn
        · rcases hc with ⟨a1, a2, a3⟩ | ⟨a1, a2⟩
          · have a4 : lets f 0 acc = some acc := by cases f <;> rfl
            rw [nm_lo (h1 e) a2, ← a3, a4] at kn
            rw [decide_eq_false (show ¬ V.str ⟨acc.toArray⟩ = V.str "" by
              intro z
              injection z with z
              have z2 : acc.toArray = #[] := congrArg Str.cps z
              exact e (by simpa using z2))]
            exact ⟨_, rfl, kn⟩
          · have : 0 < 27 ^ f := Nat.pow_pos (by decide)
            omega
    · rintro σ G Q1 Q2 hq ⟨x, hx, i, j, e1, e2, b, eb, q⟩
      exact ⟨x, hx, i, j, e1, e2, b, eb, hq _ _ q⟩
end
end Mine
set_option maxHeartbeats 400000
namespace Mine
open PySem PySem.Spec PyProof.Rows L2 GL LamX
section
variable {fs : Nat → Addr} {fd : Nat → FuncData} {tk : Nat → Tok} {cs : Nat → Addr}
theorem gives_Lheard {X : Cx} {q : Str} (T : Txt X.K X.mg fs fd tk cs) (cdv : Value) : Gives X N_Lheard "_law_heard" (defScope s_Lheard) (fs 12) cdv (defBody s_Lheard) "ask" q (TTh cs) := by
  intro f c' s H Q vs tl act hc h
  obtain ⟨rfl, h⟩ := h
  refine ⟨_, ((pss_cons (ps_set (i := 1) sc_Lheard.nd rfl (by first | exact Or.inl rfl | exact Or.inr rfl) (pe_non))
      (pss_cons (ps_tryL (i := 2) (hds := []) rfl rfl sc_Lheard.nd rfl rfl ⟨by rfl, by decide, Or.inl T.m_StripError⟩
        (fun W pn xe tk _ => by exact (pss_one (ps_expr (act W pn xe _ _ tk))))
        .nil
        (fun a pn => by exact (pss_one (ps_set (i := 1) sc_Lheard.nd rfl (by first | exact Or.inl rfl | exact Or.inr rfl) (pv 2)))) ⟨_, _, rfl⟩)
      (pss_cons (ps_if (pt_val (pe_callB call_isE (by rfl) T.z_isinstance (by decide +kernel) (pa_cons (pv 1) (pa_cons (pe_glob (v := .ref (cs 2)) (by rfl) T.m_BadName rfl) pa_nil))))
        (pss_one (ps_ret (pe_tup (pa_cons (pe_str) (pa_cons (pe_atX (f := "part") (pv 1)) pa_nil)))))
        pss_nil)
      (pss_cons (ps_if (pt_val (pe_callB call_isE (by rfl) T.z_isinstance (by decide +kernel) (pa_cons (pv 1) (pa_cons (pe_glob (v := .ref (cs 1)) (by rfl) T.m_BadNumber rfl) pa_nil))))
        (pss_one (ps_ret (pe_tup (pa_cons (pe_str) (pa_cons (pe_atX (f := "part") (pv 1)) pa_nil)))))
        pss_nil)
      (pss_one (ps_ret (pe_ifExp (pt_cmpR op_isN (pv 1) (pe_non) (nomark _)) (pe_non) (pe_tup (pa_cons (pe_str) (pa_cons (pe_non) pa_nil))))))))))), ?_⟩
  refine ⟨E0h cs Q, fun cls d G he => ⟨fun _ z => (List.not_mem_nil z).elim, ?_⟩, rfl, hc, h _ _ (fun v G qn => ?_) fun _ _ _ z => z⟩
  · obtain ⟨i, y, hi, ⟨rfl, dd, rfl, hdd⟩, k⟩ := he
    refine ⟨by rcases hi with rfl | rfl <;> first | exact T.exm_1 | exact T.exm_2, fun a G' na x => ?_⟩
    obtain ⟨φ, rfl, h2⟩ := x
    have nb : dd ≠ a := fun e => by rw [← e, hdd] at na; cases na
    have e1 : Ex G (upd G a (.ext φ)) := Ex.nw na
    have ef : Ef (upd G a (.ext φ)) a (cs i) [("part", .str y)] := ⟨some dd, φ, upd_same, h2, by show upd G a _ dd = _; rw [upd_ne nb]; exact hdd⟩
    generalize upd G a (.ext φ) = G1 at e1 ef
    refine ⟨_, rfl, ?_⟩
    have fin : ∀ p, G1 p = none → Q (.ref p) (upd G1 p (.tup [.str (wd i), .str y])) := fun p hp => k p _ (e1.tr (Ex.nw hp)) upd_same
    rcases hi with rfl | rfl
    · refine ⟨_, rfl, .inr ⟨a, cs 1, .ref (cs 2), .ref (cs 2), false, rfl, ef.ei, T.x_BadNumber, fun u r => r, T.isc_12, false, rfl, iteF ?_⟩⟩
      refine ⟨_, rfl, .inr ⟨a, cs 1, .ref (cs 1), .ref (cs 1), true, rfl, ef.ei, T.x_BadNumber, fun u r => r, T.isc_11, true, rfl, iteT ?_⟩⟩
      exact ⟨_, rfl, a, cs 1, _, .str y, rfl, ef, T.x_BadNumber, T.n_BadNumber_part, rfl, (show 2 ≤ sizeLine by decide), fin⟩
    · refine ⟨_, rfl, .inr ⟨a, cs 2, .ref (cs 2), .ref (cs 2), true, rfl, ef.ei, T.x_BadName, fun u r => r, T.isc_22, true, rfl, iteT ?_⟩⟩
      exact ⟨_, rfl, a, cs 2, _, .str y, rfl, ef, T.x_BadName, T.n_BadName_part, rfl, (show 2 ≤ sizeLine by decide), fin⟩
  · refine ⟨_, rfl, .inl ⟨.non, .ref (cs 2), _, _, false, rfl, .own _, .base .non, T.ino_n2, false, rfl, iteF ?_⟩⟩
    refine ⟨_, rfl, .inl ⟨.non, .ref (cs 1), _, _, false, rfl, .own _, .base .non, T.ino_n1, false, rfl, iteF ?_⟩⟩
    exact ⟨_, rfl, rfl, _, rfl, iteT qn⟩
end
end Mine
set_option maxHeartbeats 400000
namespace Mine
open PySem PySem.Spec PyProof.Rows L2 GL LamX
def ZAZ : Str := "abcdefghijklmnopqrstuvwxyzaz"
def BMY : Str := "abmyz"
theorem zaz_let : ∀ c, c ∈ ZAZ.cps.toList → 97 ≤ c ∧ c ≤ 122 := by
  have h : (ZAZ.cps.toList.all fun c => decide (97 ≤ c ∧ c ≤ 122)) = true := by decide +kernel
  intro c hc
  exact of_decide_eq_true (List.all_eq_true.mp h c hc)
theorem bmy_let : ∀ c, c ∈ BMY.cps.toList → 97 ≤ c ∧ c ≤ 122 := by
  have h : (BMY.cps.toList.all fun c => decide (97 ≤ c ∧ c ≤ 122)) = true := by decide +kernel
  intro c hc
  exact of_decide_eq_true (List.all_eq_true.mp h c hc)
open HT _root_.TL in
theorem join_signs : ∀ cs : List Nat, (Txt.join (Str.ofString "") (cs.map fun c => (⟨#[c]⟩ : Str))).cps.toList = cs := by
  intro cs
  rw [join_eq]
  show tl _ = _
  rw [tl_join, List.map_map]
  have e : tl (Str.ofString "") = [] := by rw [tl_ofString]; rfl
  rw [e]
  induction cs with
  | nil => rfl
  | cons c r ih =>
    cases r with
    | nil => rfl
    | cons d r' =>
      show tl (⟨#[c]⟩ : Str) ++ ([] ++ joinL [] _) = _
      rw [List.nil_append]
      show c :: joinL [] _ = _
      exact congrArg (c :: ·) ih
theorem sum_signs (cs : List Nat) : ((cs.map fun c => (⟨#[c]⟩ : Str)).map (·.length)).sum = cs.length := by
  induction cs with
  | nil => rfl
  | cons c r ih =>
    rw [List.map_cons, List.map_cons, List.sum_cons, ih, List.length_cons]
    show 1 + r.length = _
    omega
/-- the texts of the signs, joined -/
theorem join_ok {K : PySem.W.Frag} {H : Hp} {D : Addr} {xs : List Nat} {Q : VK} (g : H D = some (.lst (xs.map sgn))) (hl : xs.length ≤ 1000) (q : ∀ z : Str, z.cps.toList = xs → Q (.str z) H) :
    ∃ a p, ∃ ys : List Str, V.str (Str.ofString "") = .str a ∧ [V.ref D] = [.ref p] ∧ (SqL K H p (ys.map V.str) ∨ SqT K H p (ys.map V.str)) ∧ (ys.map (·.length)).sum + ys.length * a.length ≤ 16777216 ∧ Q (.str (Txt.join a ys)) H := by
  refine ⟨_, D, xs.map fun c => ⟨#[c]⟩, rfl, rfl, .inl (SqL.of (by rw [g, List.map_map]; rfl)), ?_, q _ (join_signs xs)⟩
  rw [sum_signs, List.length_map]
  show xs.length + xs.length * 0 ≤ _
  omega
section
variable {P : Program} {w : World} {K : PySem.W.Frag} {mg : Str → Option Value} {base : Heap} {fs : Nat → Addr} {fd : Nat → FuncData} {tk : Nat → Tok} {cs : Nat → Addr}
theorem ok_Lname (T : Txt K mg fs fd tk cs) : FnG P w K mg base CX0 3 (fs 9) (fd 9) P_Lname spLname := by
  refine Fun.okG T.f_Lname sc_Lname (fun vs H Q E h => ?_) (fun cd A out s H vs Q E gd hr h => ?_)
  · obtain ⟨p, c, n, rfl, _⟩ := h
    rfl
  · obtain ⟨p, c, n, rfl, r, hn, k⟩ := h
    refine ⟨_, PSs.nox ((pss_one (ps_ret (pe_join (pe_str) (pe_lc (own := [("turn", 1)]) (g := gName 1) (tt := tYes) rfl sc_Lname.nd (pi_range1 (by rfl) T.z_range (pa_cons (pg_call (ok_Lpick T) gd (hr.mono (by decide)) (by rfl) T.m_Lpick T.f_Lpick.kp (b_Lpick T) .nil pass0 (pa_cons (pv 0) (pa_cons (pe_lst (pa_cons (pe_int) (pa_cons (pe_int) (pa_cons (pe_int) (pa_cons (pe_int) (pa_cons (pe_int) (pa_cons (pe_int) (pa_cons (pe_op op_add (pe_int) (pg_call (ok_Lhaul T) gd (hr.mono (by decide)) (by rfl) T.m_Lhaul T.f_Lhaul.kp (b_Lhaul T) .nil pass0 (pa_cons (pv 0) (pa_cons (pe_int) pa_nil)))) pa_nil)))))))) pa_nil))) pa_nil)) (blkOk_by (own := [("turn", 1)]) (N := N_Lname) (sc := defScope s_Lname) (by decide +kernel)) (fun _ _ _ _ _ => (pg_name (i := 1) sc_Lname.nd rfl (Or.inl rfl))) (fun _ _ _ _ _ => pts_nil) (fun _ _ _ _ _ => pg_call (ok_Lpick T) gd (hr.mono (by decide)) (by rfl) T.m_Lpick T.f_Lpick.kp (b_Lpick T) .nil pass0 (pa_cons (pv 0) (pa_cons (pe_callTy (call_list_txt rfl) (by rfl) T.z_list (by decide +kernel) (pa_cons (pe_str) pa_nil)) pa_nil)))))))), ?_⟩
    refine ⟨⟨_, rfl⟩, _, rfl, _, rfl, p, c, 12, n, rfl, r, by omega, by decide, by decide, fun r1 H1 a0 a1 k1 kp1 => ⟨1, r1, rfl, rfl, (show 7 ≤ sizeLine by decide), fun a ha => ?_⟩⟩
    have e2 := Ex.nw (H := H1) (o := .lst [.int 1, .int 1, .int 2, .int 3, .int 11, .int 12, .int (1 + r1)]) ha
    have g2 : (upd H1 a (.lst [.int 1, .int 1, .int 2, .int 3, .int 11, .int 12, .int (1 + r1)])) a = some (.lst [.int 1, .int 1, .int 2, .int 3, .int 11, .int 12, .int (1 + r1)]) := upd_same
    refine ⟨p, c, .ref a, _, rfl, k1.kp e2, by omega, .inl ⟨a, _, rfl, k1.ne ha, g2, by simp, by show 7 < 1000000; decide, fun v H3 hv k3 kp3 => ?_⟩⟩
    have kp03 : Kp p H H3 := (kp1.ex e2).tr kp3
    obtain ⟨m, rfl, m1, m2⟩ : ∃ m : Nat, v = .int m ∧ 1 ≤ m ∧ m ≤ 12 := by
      simp only [List.mem_cons, List.not_mem_nil, or_false] at hv
      rcases hv with rfl | rfl | rfl | rfl | rfl | rfl | rfl
      · exact ⟨1, rfl, by decide, by decide⟩
      · exact ⟨1, rfl, by decide, by decide⟩
      · exact ⟨2, rfl, by decide, by decide⟩
      · exact ⟨3, rfl, by decide, by decide⟩
      · exact ⟨11, rfl, by decide, by decide⟩
      · exact ⟨12, rfl, by decide, by decide⟩
      · exact ⟨(1 + r1).toNat, by rw [Int.toNat_of_nonneg (by omega)], by omega, by omega⟩
    refine ⟨m, rfl, by omega, by omega, fun D hD => ?_⟩
    refine lc_range (lo := 0) (n := m) (fun i H' => ∃ xs : List Nat, H' D = some (.lst (xs.map sgn)) ∧ xs.length = i ∧ Lt xs ∧ Rk H' p c (n + 2 + i) ∧ Kp p H3 H') ⟨[], upd_same, rfl, fun c hc => by simp at hc, k3.kp (Ex.nw hD), Ex.kp (Ex.nw hD)⟩ ?_ ?_
    · rintro i H4 hi ⟨xs, g4, hl, hL, k4, kp4⟩
      refine ⟨rfl, ?_⟩
      refine ⟨_, rfl, ZAZ, rfl, (by decide +kernel), fun q hq => ?_⟩
      have e5 := Ex.nw (H := H4) (o := .lst (ZAZ.cps.toList.map sgn)) hq
      have g5 : (upd H4 q (.lst (ZAZ.cps.toList.map sgn))) q = some (.lst (ZAZ.cps.toList.map sgn)) := upd_same
      refine ⟨p, c, .ref q, _, rfl, k4.kp e5, by omega, .inl ⟨q, _, rfl, k4.ne hq, g5, (by decide +kernel), (by rw [List.length_map]; decide +kernel), fun v H6 hv k6 kp6 => ?_⟩⟩
      obtain ⟨ch, hch, rfl⟩ := List.mem_map.mp hv
      have g6 : H6 D = some (.lst (xs.map sgn)) := kp6 _ _ (k3.ne hD) (e5 _ _ g4)
      refine ⟨_, g6, (by rw [List.length_map]; exact sz_ok (by omega)), xs ++ [ch], ?_, by rw [List.length_append, hl]; rfl, fun c hc => ?_, ?_, ?_⟩
      · rw [List.map_append]; exact upd_same
      · rcases List.mem_append.mp hc with hc | hc
        · exact hL c hc
        · rw [List.mem_singleton.mp hc]; exact zaz_let ch hch
      · exact k6.up (k3.ne hD) (k3.nc hD)
      · exact Kp.nw ((kp4.ex e5).tr kp6) hD
    · rintro H4 ⟨xs, g4, hl, hL, k4, kp4⟩
      refine join_ok g4 (by omega) fun z hz => ?_
      exact k z H4 (nameB_of (by rw [hz]; exact hL) (by rw [hz]; omega) (by rw [hz]; omega)) (k4.more (by omega)) (kp03.tr kp4)
end
end Mine
set_option maxHeartbeats 400000
namespace Mine
open PySem PySem.Spec PyProof.Rows L2 GL LamX
theorem Dz.strL {H : Hp} {z : Str} (h : ∀ c, c ∈ z.cps.toList → c < 200) : Dz H (.str z) (.str z) 0 z.length := by
  refine ⟨.str _, rfl, ?_, by simp [PyData.depth], Nat.le_refl _⟩
  simp only [PyData.leavesShort, List.all_eq_true, decide_eq_true_eq]
  intro c hc
  have := h c hc
  omega
theorem nm_lt {z : Str} (h : nameB z = true) : ∀ c, c ∈ z.cps.toList → c < 200 := fun c hc => by
  have := (nameB_lt h).1 c hc
  omega
/-- a comprehension that may change p -/
theorem lc_kp {p : Addr} {wi : TI} {te : TE} {j : Nat} {σ : L2.St} {H : Hp} {xs : List V} {Q : VK} (src : Src p wi σ H xs) (Pv : Hp → Addr → Nat → Hp → Prop) (h0 : ∀ H1 D, Ex H H1 → H1 D = none → Pv H1 D 0 (upd H1 D (.lst []))) (hk : ∀ H1 D i H2, Pv H1 D i H2 → Kp p H1 H2)
    (hs : ∀ H1 D i x H2, Ex H H1 → H1 D = none → xs[i]? = some x → Pv H1 D i H2 → te ((σ.set j none).set j (some x)) H2 fun y H4 => ∃ acc, H4 D = some (.lst acc) ∧ acc.length < sizeLine ∧ Pv H1 D (i + 1) (upd H4 D (.lst (acc ++ [y]))))
    (hd : ∀ H1 D H2, Ex H H1 → H1 D = none → Pv H1 D xs.length H2 → Q (.ref D) H2) : tLc wi (gName j) tYes te [j] σ H Q := by
  refine src _ fun J H1 e1 w D hD => ?_
  refine lc_it w (fun i H2 => Pv H1 D i H2) (h0 H1 D e1 hD) (fun i H2 _ g => hk H1 D i H2 g) ?_ fun H2 g => hd H1 D H2 e1 hD g
  rintro i x H2 H3 hi g ⟨rfl, hx⟩
  refine ⟨?_, ?_⟩
  · show ((σ.set j none).set j (some x)).set j none = σ.set j none
    rw [List.set_set, List.set_set]
  · exact iteT (B := Pv H1 D (i + 1) H3) (hs H1 D i x H3 e1 hD hx g)
theorem num_go {cs : Nat → Addr} {z : Str} {H : Hp} {Q : VK} {E : XK} (hz : nameB z = true) (k : ∀ H', Ex H H' → Q (.int (nnum z)) H') : spNum cs [.str z] H Q E :=
  ⟨0, .str z, rfl, .str z, fun y e => (by cases e; have := (nameB_lt hz).2.2; rw [Array.length_toList] at this; exact Nat.le_trans this (by decide)), fun y e _ => by cases e; exact k, fun h => by rw [show isNm (.str z) = nameB z from rfl, hz] at h; cases h⟩
theorem of_go {cs : Nat → Addr} {v : V} {p : Addr} {z : Str} {H : Hp} {Q : VK} {E : XK} (hv : Kd p H v) (hz : nmOf v = some z) (k : ∀ H', Ex H H' → Q (.str z) H') : spOf cs [v] H Q E :=
  ⟨p, v, rfl, hv, fun y e => by rw [hz] at e; cases e; exact k, fun h => by rw [hz] at h; cases h⟩
theorem rd_num {cs : Nat → Addr} {σ : L2.St} {i : Nat} {z : Str} {H : Hp} {Q : VK} {E : XK} (hi : σ[i]? = some (some (.str z))) (hz : nameB z = true) (k : ∀ H', Ex H H' → Q (.int (nnum z)) H') : tCall (spNum cs) [] E (tCons (tVar i) tNil) σ H Q := ⟨_, hi, num_go hz k⟩
theorem rd_of {cs : Nat → Addr} {σ : L2.St} {i : Nat} {v : V} {p : Addr} {z : Str} {H : Hp} {Q : VK} {E : XK} (hi : σ[i]? = some (some v)) (hv : Kd p H v) (hz : nmOf v = some z) (k : ∀ H', Ex H H' → Q (.str z) H') : tCall (spOf cs) [] E (tCons (tVar i) tNil) σ H Q := ⟨_, hi, of_go hv hz k⟩
theorem rd_ofn {cs : Nat → Addr} {σ : L2.St} {i : Nat} {p : Addr} {z : Str} {H : Hp} {Q : VK} {E E2 : XK} (hi : σ[i]? = some (some (.str z))) (hz : nameB z = true) (k : ∀ H', Ex H H' → Q (.str z) H') : tCall (spOf cs) [] E (tCons (tCall (spNum cs) [] E2 (tCons (tVar i) tNil)) tNil) σ H Q :=
  ⟨_, hi, (show spNum cs [.str z] H (fun v H' => spOf cs [v] H' Q E) E2 from num_go hz fun H1 e1 => of_go (p := p) (.int _) (nmOf_num hz) fun H2 e2 => k H2 (e1.tr e2))⟩
theorem two_da {H : Hp} {a : Addr} {i : Int} {z : Str} (g : H a = some (.lst [.int i, .str z])) (hi : i.natAbs < 10 ^ 60) (hz : nameB z = true) : Da H (.ref a) (.list [.int i, .str z]) := by
  have hl := (nameB_lt hz).2.2
  rw [Array.length_toList] at hl
  have hl : z.length ≤ 12 := hl
  exact (Dz.lst g (.cons (Dz.int hi) (.cons (Dz.strL (nm_lt hz)) .nil))).da (by decide) (by omega)
theorem two_db {H : Hp} {a : Addr} {i : Int} {z : Str} (g : H a = some (.lst [.str z, .int i])) (hi : i.natAbs < 10 ^ 60) (hz : nameB z = true) : Da H (.ref a) (.list [.str z, .int i]) := by
  have hl := (nameB_lt hz).2.2
  rw [Array.length_toList] at hl
  have hl : z.length ≤ 12 := hl
  exact (Dz.lst g (.cons (Dz.strL (nm_lt hz)) (.cons (Dz.int hi) .nil))).da (by decide) (by omega)
theorem num_small {z : Str} (h : nameB z = true) : ((nnum z : Nat) : Int).natAbs < 10 ^ 60 := by
  have := (nnum_rng h).2
  rw [p27] at this
  rw [Int.natAbs_natCast]
  exact Nat.lt_trans this (by decide)
theorem sh2 (x y : Str) (hx : PyData.strOk x = true) (hy : PyData.strOk y = true) : SeqAt.shaped (.tuple [.str x, .str y]) = true := by
  show (PyData.canLay0 _ && decide (PyData.depth _ ≤ 64)) = true
  simp [PyData.canLay0, PyData.canLayAll0, PyData.depth, PyData.depthAll, hx, hy]
theorem two_ne {K : PySem.W.Frag} {H : Hp} {a b : Addr} {x y : Str} {Q : VK} (hx : PyData.strOk x = true) (hy : PyData.strOk y = true) (ga : H a = some (.tup [.str x, .str y])) (gb : H b = some (.tup [.str x, .str y])) (q : Q (.bl false) H) : rNeX K (.ref a) (.ref b) H Q := by
  refine .inr ⟨.tuple [.str x, .str y], .tuple [.str x, .str y], .tup (SqT.of ga) (.cons (.str _) (.cons (.str _) .nil)), .tup (SqT.of gb) (.cons (.str _) (.cons (.str _) .nil)), sh2 x y hx hy, sh2 x y hx hy, ?_⟩
  have e : PyData.eqv (.tuple [.str x, .str y]) (.tuple [.str x, .str y]) = true := by simp [PyData.eqv, PyData.eqvAll]
  rw [e]
  exact q
section
variable {P : Program} {w : World} {K : PySem.W.Frag} {mg : Str → Option Value} {base : Heap} {fs : Nat → Addr} {fd : Nat → FuncData} {tk : Nat → Tok} {cs : Nat → Addr}
theorem ok_Lpair_right (sb : SmB base) {P0 P1 : Addr} (tb0 : TabF K base mg (fs 13) P0) (ne : P0 ≠ P1) (T : Txt K mg fs fd tk cs) : FnG P w K mg base CX0 7 (fs 13) (fd 13) P_Lpair_right (spPair P0 P1) := by
  refine Fun.okGC T.f_Lpair_right sc_Lpair_right (fun vs H Q E h => ?_) (fun cd A out s H vs Q E gd hcf hr h => ?_)
  · obtain ⟨p, c, n, rfl, _⟩ := h
    rfl
  · obtain ⟨p, d, n, rfl, r, hn, tT, k⟩ := h
    obtain ⟨c, rfl, tbc⟩ := tb0.code hcf
    refine ⟨_, PSs.nox ((pss_cons (ps_set (i := 1) sc_Lpair_right.nd rfl (by first | exact Or.inl rfl | exact Or.inr rfl) (pg_call (ok_Lname T) gd (hr.mono (by decide)) (by rfl) T.m_Lname T.f_Lname.kp (b_Lname T) .nil pass0 (pa_cons (pv 0) pa_nil)))
      (pss_cons (ps_par (i := 2) (j := 3) (by rfl) sc_Lpair_right.nd rfl rfl (by decide) rfl rfl (pa_cons (pg_call (ok_Lnumber T) gd (hr.mono (by decide)) (by rfl) T.m_Lnumber T.f_Lnumber.kp (b_Lnumber T) .nil pass0 (pa_cons (pv 1) pa_nil)) (pa_cons (pe_join (pe_str) (pe_lc (own := [("letter", 4)]) (g := gName 4) (tt := tYes) rfl sc_Lpair_right.nd (pi_str (pv 1)) (blkOk_by (own := [("letter", 4)]) (N := N_Lpair_right) (sc := defScope s_Lpair_right) (by decide +kernel)) (fun _ _ _ _ _ => (pg_name (i := 4) sc_Lpair_right.nd rfl (Or.inl rfl))) (fun _ _ _ _ _ => pts_nil) (fun _ _ _ _ _ => pg_call (ok_Lpick T) gd (hr.mono (by decide)) (by rfl) T.m_Lpick T.f_Lpick.kp (b_Lpick T) .nil pass0 (pa_cons (pv 0) (pa_cons (pe_op op_cat (pe_callTy (call_list_txt rfl) (by rfl) T.z_list (by decide +kernel) (pa_cons (pe_str) pa_nil)) (pe_lst (pa_cons (pv 4) pa_nil))) pa_nil))))) pa_nil)) (by rfl))
      (pss_cons (ps_if (pt_cmpR op_ne (pe_callB (call_reprQ sb gd hr) (by rfl) T.z_repr (by decide +kernel) (pa_cons (pe_lst (pa_cons (pg_callK0 (ok_name_number T) gd (hr.mono (by decide)) (by rfl) T.m_name_number T.f_name_number.kp (kw_name_number_0_name T) passL (pk_cons (pv 1) pk_nil)) (pa_cons (pg_call (ok_name_of T) gd (hr.mono (by decide)) (by rfl) T.m_name_of T.f_name_of.kp (b_name_of T) .nil passL (pa_cons (pv 2) pa_nil)) pa_nil))) pa_nil)) (pe_callB (call_reprQ sb gd hr) (by rfl) T.z_repr (by decide +kernel) (pa_cons (pe_lst (pa_cons (pv 2) (pa_cons (pv 1) pa_nil))) pa_nil)) (nomark _))
        (pss_one (ps_ret (pe_bl)))
        pss_nil)
      (pss_cons (ps_if (PW.pt (pw_or (pt_cmpR op_ne (pe_cmpR op_lt (pg_call (ok_name_number T) gd (hr.mono (by decide)) (by rfl) T.m_name_number T.f_name_number.kp (b_name_number T) .nil passL (pa_cons (pv 3) pa_nil)) (pg_call (ok_name_number T) gd (hr.mono (by decide)) (by rfl) T.m_name_number T.f_name_number.kp (b_name_number T) .nil passL (pa_cons (pv 1) pa_nil)) (nomark _)) (pe_cmpR op_lt_str (pv 3) (pv 1) (nomark _)) (nomark _)) (pw_or1 (pt_cmpR op_ne (pg_call (ok_name_of T) gd (hr.mono (by decide)) (by rfl) T.m_name_of T.f_name_of.kp (b_name_of T) .nil passL (pa_cons (pg_call (ok_name_number T) gd (hr.mono (by decide)) (by rfl) T.m_name_number T.f_name_number.kp (b_name_number T) .nil passL (pa_cons (pv 3) pa_nil)) pa_nil)) (pv 3) (nomark _)))))
        (pss_one (ps_ret (pe_bl)))
        pss_nil)
      (pss_cons (ps_set (i := 5) sc_Lpair_right.nd rfl (by first | exact Or.inl rfl | exact Or.inr rfl) (pe_lst (pa_cons (pe_op op_add (pv 2) (pe_int)) (pa_cons (pe_op op_sub (pv 2) (pe_int)) (pa_cons (pe_op op_mul (pe_int) (pv 2)) (pa_cons (pe_op op_add (pe_op op_mul (pe_int) (pv 2)) (pe_int)) (pa_cons (pe_op op_add (pv 2) (pe_int)) (pa_cons (pe_op op_sub (pe_op op_pow (pe_int) (pe_int)) (pe_int)) (pa_cons (pe_op op_pow (pe_int) (pe_int)) (pa_cons (pg_call (ok_Lhaul T) gd (hr.mono (by decide)) (by rfl) T.m_Lhaul T.f_Lhaul.kp (b_Lhaul T) .nil pass0 (pa_cons (pv 0) (pa_cons (pe_op op_pow (pe_int) (pe_int)) pa_nil))) (pa_cons (pg_call (ok_Lhaul T) gd (hr.mono (by decide)) (by rfl) T.m_Lhaul T.f_Lhaul.kp (b_Lhaul T) .nil pass0 (pa_cons (pv 0) (pa_cons (pe_int) pa_nil))) (pa_cons (pe_op op_mul (pe_int) (pg_call (ok_Lhaul T) gd (hr.mono (by decide)) (by rfl) T.m_Lhaul T.f_Lhaul.kp (b_Lhaul T) .nil pass0 (pa_cons (pv 0) (pa_cons (pe_int) pa_nil)))) pa_nil))))))))))))
      (pss_cons (ps_for PassesOwn.never rfl (pi_range1 (by rfl) T.z_range (pa_cons (pe_int) pa_nil)) (pg_name (i := 6) sc_Lpair_right.nd rfl (by first | exact Or.inl rfl | exact Or.inr rfl))
        (pss_cons (ps_set (i := 7) sc_Lpair_right.nd rfl (by first | exact Or.inl rfl | exact Or.inr rfl) (pg_call (ok_Lpick T) gd (hr.mono (by decide)) (by rfl) T.m_Lpick T.f_Lpick.kp (b_Lpick T) .nil pass0 (pa_cons (pv 0) (pa_cons (pv 5) pa_nil))))
        (pss_cons (ps_set (i := 8) sc_Lpair_right.nd rfl (by first | exact Or.inl rfl | exact Or.inr rfl) (pg_call (ok_Lletters T) gd (hr.mono (by decide)) (by rfl) T.m_Lletters T.f_Lletters.kp (b_Lletters T) .nil pass0 (pa_cons (pv 7) pa_nil)))
        (pss_one (ps_if (pt_cmpR op_isN (pv 8) (pe_non) (nomark _))
          (pss_one (ps_if (pt_cmpR (op_neX hr.units) (pe_lamG (k := 4) (T := TL P0 P1) (c := c) (ks := []) (ls := []) gd (hr.mono (by decide)) (by rfl) T.m_Lheard T.f_Lheard (b_Lheard T) sc_Lheard rfl (Or.inl rfl) (gives_Lheard T) tbc rfl (TL.m0) (TL.u0 ne) (lamT_by (N := N_Lpair_right) (sc := defScope s_Lpair_right) (by decide +kernel)) ⟨rfl, rfl, (.inl ⟨rfl, rfl⟩)⟩ (bindD0 fun _ _ _ _ _ _ => rfl) (fun _ _ _ _ _ _ _ gdL hrL => (pg_call (ok_name_of T) gdL (hrL.mono (by decide)) (by rfl) T.m_name_of T.f_name_of.kp (b_name_of T) .nil (passes_call (takes_of rfl rfl rfl rfl) fun _ _ _ _ h => h) (pa_cons (pv 7) pa_nil))) pa_nil) (pe_tup (pa_cons (pe_str) (pa_cons (pe_str) pa_nil))) (nomark _))
            (pss_one (ps_ret (pe_bl)))
            pss_nil))
          (pss_one (ps_if (pt_cmpR op_ne (pe_callB (call_reprQ sb gd hr) (by rfl) T.z_repr (by decide +kernel) (pa_cons (pe_lst (pa_cons (pg_callK0 (ok_name_of T) gd (hr.mono (by decide)) (by rfl) T.m_name_of T.f_name_of.kp (kw_name_of_0_number T) passL (pk_cons (pv 7) pk_nil)) (pa_cons (pg_call (ok_name_number T) gd (hr.mono (by decide)) (by rfl) T.m_name_number T.f_name_number.kp (b_name_number T) .nil passL (pa_cons (pv 8) pa_nil)) pa_nil))) pa_nil)) (pe_callB (call_reprQ sb gd hr) (by rfl) T.z_repr (by decide +kernel) (pa_cons (pe_lst (pa_cons (pv 8) (pa_cons (pv 7) pa_nil))) pa_nil)) (nomark _))
            (pss_one (ps_ret (pe_bl)))
            pss_nil)))))))
      (pss_one (ps_ret (pe_bl)))))))))), ?_⟩
    refine ⟨_, rfl, p, d, n, rfl, r, by omega, fun z H1 hz k1 kp1 => ?_⟩
    have t1 := Tabs.rk r tT kp1
    refine ⟨_, rfl, z, rfl, hz, fun H2 e2 => ⟨⟨_, rfl⟩, ?_⟩⟩
    have t2 := t1.ext e2
    have k2 := k1.kp e2
    refine lc_kp (p := p) (strV (i := 1) (z := z) rfl) (fun H3 D i H4 => ∃ xs : List Nat, H4 D = some (.lst (xs.map sgn)) ∧ xs.length = i ∧ Lt xs ∧ Rk H4 p d (n + 20 + i) ∧ Kp p H3 H4) ?_ (fun H3 D i H4 ⟨_, _, _, _, _, h⟩ => h) ?_ ?_
    · exact fun H3 D e3 hD => ⟨[], upd_same, rfl, fun c hc => by simp at hc, (k2.kp e3).kp (Ex.nw hD), Ex.kp (Ex.nw hD)⟩
    · rintro H3 D i x H4 e3 hD hx ⟨xs, g4, hl, hL, k4, kp4⟩
      obtain ⟨ch, rfl, _, hm⟩ := drop_get hx
      have hch := (nameB_lt hz).1 ch hm
      have hi := lt_of_get hx
      rw [List.length_map] at hi
      have h12 := (nameB_lt hz).2.2
      refine ⟨_, rfl, BMY, rfl, (by decide +kernel), fun q1 hq1 => ⟨_, rfl, (show 1 ≤ sizeLine by decide), fun q2 hq2 => ?_⟩⟩
      have y1 := Ex.nw (H := H4) (o := .lst (BMY.cps.toList.map sgn)) hq1
      have y2 := Ex.nw (o := .lst [V.str ⟨#[ch]⟩]) hq2
      refine ⟨q1, q2, _, _, rfl, rfl, y2 _ _ upd_same, upd_same, ?_, fun q3 hq3 => ?_⟩
      · rw [List.length_map]
        show BMY.cps.toList.length + 1 ≤ sizeLine
        decide +kernel
      have y3 := Ex.nw (o := .lst (BMY.cps.toList.map sgn ++ [V.str ⟨#[ch]⟩])) hq3
      have z3 := (y1.tr y2).tr y3
      have k5 := k4.kp z3
      refine ⟨p, d, .ref q3, _, rfl, k5, by omega, .inl ⟨q3, _, rfl, k4.ne ((y1.tr y2).no hq3), upd_same, by simp, (by rw [List.length_append, List.length_map]; show BMY.cps.toList.length + 1 < 1000000; decide +kernel), fun v H6 hv k6 kp6 => ?_⟩⟩
      obtain ⟨ch2, rfl, hc2⟩ : ∃ c2, v = .str ⟨#[c2]⟩ ∧ 97 ≤ c2 ∧ c2 ≤ 122 := by
        rcases List.mem_append.mp hv with hv | hv
        · obtain ⟨c2, h2, rfl⟩ := List.mem_map.mp hv
          exact ⟨c2, rfl, bmy_let c2 h2⟩
        · exact ⟨ch, List.mem_singleton.mp hv, hch⟩
      have nD : D ≠ p := (k2.kp e3).ne hD
      have cD : D ≠ d := (k2.kp e3).nc hD
      have g6 : H6 D = some (.lst (xs.map sgn)) := kp6 _ _ nD (z3 _ _ g4)
      refine ⟨_, g6, (by rw [List.length_map]; exact sz_ok (by omega)), xs ++ [ch2], ?_, by rw [List.length_append, hl]; rfl, fun c hc => ?_, ?_, ?_⟩
      · rw [List.map_append]; exact upd_same
      · rcases List.mem_append.mp hc with hc | hc
        · exact hL c hc
        · rw [List.mem_singleton.mp hc]; exact hc2
      · exact k6.up nD cD
      · exact Kp.nw ((kp4.ex z3).tr kp6) hD
    · rintro H3 D H4 e3 hD ⟨xs, g4, hl, hL, k4, kp4⟩
      rw [List.length_map] at hl
      have h12 := nameB_lt hz
      refine ⟨_, D, xs.map fun c => ⟨#[c]⟩, rfl, rfl, .inl (SqL.of (by rw [g4, List.map_map]; rfl)), ?_, _, _, rfl, ?_⟩
      · rw [sum_signs, List.length_map]
        show xs.length + xs.length * 0 ≤ _
        omega
      have ho := join_signs xs
      generalize Txt.join (Str.ofString "") (xs.map fun c => (⟨#[c]⟩ : Str)) = o at ho ⊢
      have hno : nameB o = true := nameB_of (by rw [ho]; exact hL) (by rw [ho]; omega) (by rw [ho]; omega)
      have t4 := Tabs.rk (k2.kp e3) (t2.ext e3) kp4
      have k4 := k4.more (m := n + 40) (by rw [List.length_map]; omega)
      clear g4 kp4 hD e3 e2 kp1 k1 k2 t1 t2 r tT
      -- the name's number, and back
      refine ⟨_, rfl, rfl, rfl, num_go hz fun H5 e5 => rd_of (p := p) rfl (.int _) (nmOf_num hz) fun H6 e6 => ⟨(show 2 ≤ sizeLine by decide), fun a1 ha1 => ⟨.ref a1, _, rfl, two_da upd_same (num_small hz) hz, ?_⟩⟩⟩
      refine ⟨_, rfl, _, rfl, (show 2 ≤ sizeLine by decide), fun a2 ha2 => ⟨.ref a2, _, rfl, two_da upd_same (num_small hz) hz, rfl, false, by simp, iteF ?_⟩⟩
      have e7 := ((e5.tr e6).tr (Ex.nw ha1)).tr (Ex.nw (o := .lst [.int (nnum z), .str z]) ha2)
      generalize upd (upd H6 a1 _) a2 _ = H7 at e7
      -- their order
      refine rd_num rfl hno fun H8 e8 => rd_num rfl hz fun H9 e9 => ⟨_, _, rfl, rfl, _, rfl, _, rfl, o, z, rfl, rfl, rfl, false, ?_, iteF ?_⟩
      · have q := nn_ord o.cps.toList z.cps.toList 0 0 (by rw [ho]; exact hl) (nameB_lt hno).1 (nameB_lt hz).1
        have q2 : decide (((nnum o : Nat) : Int) < ((nnum z : Nat) : Int)) = decide (o.cps.toList < z.cps.toList) := by
          apply decide_eq_decide.mpr
          rw [Int.ofNat_lt]
          unfold nnum
          rw [q]
          simp
        show V.bl (!decide (V.bl _ = V.bl _)) = V.bl false
        rw [q2]
        simp
      refine rd_ofn (p := p) rfl hno fun Hb eb => ⟨_, rfl, rfl, false, by simp, iteF ?_⟩
      have ec := (((e7.tr e8).tr e9).tr eb)
      have tb := t4.ext ec
      have kb := k4.kp ec
      clear ec e8 e9 eb e7 t4 k4
      have hzr := nnum_rng hz
      rw [p27] at hzr
      have cp : CPow 27 12 := ⟨by decide, by decide, by decide⟩
      -- near
      refine ⟨_, rfl, _, _, rfl, rfl, _, rfl, _, _, rfl, rfl, _, rfl, _, _, rfl, rfl, .inl ⟨by decide, by decide⟩, _, rfl, _, _, rfl, rfl, .inl ⟨by decide, by decide⟩, _, _, rfl, rfl, _, rfl, _, _, rfl, rfl, ?_⟩
      refine ⟨_, _, rfl, rfl, cp, _, _, rfl, rfl, _, _, rfl, rfl, cp, _, rfl, _, _, rfl, rfl, cp, p, d, _, _, rfl, kb, by omega, by decide, by decide, fun r1 Hc a0 a1 kc kpc => ?_⟩
      refine ⟨_, rfl, p, d, _, _, rfl, kc, by omega, by decide, by decide, fun r2 Hd b0 b1 kd kpd => ?_⟩
      refine ⟨_, rfl, p, d, _, _, rfl, kd, by omega, by decide, by decide, fun r3 He c0 c1 ke kpe => ⟨_, _, rfl, rfl, .inl ⟨by decide, by decide⟩, ?_⟩⟩
      have te := Tabs.rk kd (Tabs.rk kc (Tabs.rk kb tb kpc) kpd) kpe
      refine ⟨(show 10 ≤ sizeLine by decide), fun a ha => ?_⟩
      have near : ∀ v, v ∈ [V.int ((nnum z : Nat) + 1 : Int), .int ((nnum z : Nat) - 1 : Int), .int (27 * (nnum z : Nat) : Int), .int (27 * (nnum z : Nat) + 26 : Int), .int ((nnum z : Nat) + 27 : Int), .int ((27 : Int) ^ (12 : Int).toNat - 1), .int ((27 : Int) ^ (12 : Int).toNat), .int r1, .int r2, .int (27 * r3)] →
          ∃ m : Nat, v = .int m ∧ m < 10 ^ 20 := by
        intro v hv
        have pw : (27 : Int) ^ (12 : Int).toNat = 150094635296999121 := by decide
        rw [pw] at a1 hv
        simp only [List.mem_cons, List.not_mem_nil, or_false] at hv
        rcases hv with rfl | rfl | rfl | rfl | rfl | rfl | rfl | rfl | rfl | rfl
        · exact ⟨nnum z + 1, rfl, by omega⟩
        · exact ⟨nnum z - 1, by congr 1; omega, by omega⟩
        · exact ⟨27 * nnum z, rfl, by omega⟩
        · exact ⟨27 * nnum z + 26, rfl, by omega⟩
        · exact ⟨nnum z + 27, rfl, by omega⟩
        · exact ⟨150094635296999120, rfl, by omega⟩
        · exact ⟨150094635296999121, rfl, by omega⟩
        · exact ⟨r1.toNat, by rw [Int.toNat_of_nonneg a0], by omega⟩
        · exact ⟨r2.toNat, by rw [Int.toNat_of_nonneg b0], by omega⟩
        · exact ⟨(27 * r3).toNat, by rw [Int.toNat_of_nonneg (by omega)], by omega⟩
      have tf := te.ext (Ex.nw (o := .lst [V.int ((nnum z : Nat) + 1 : Int), .int ((nnum z : Nat) - 1 : Int), .int (27 * (nnum z : Nat) : Int), .int (27 * (nnum z : Nat) + 26 : Int), .int ((nnum z : Nat) + 27 : Int), .int ((27 : Int) ^ (12 : Int).toNat - 1), .int ((27 : Int) ^ (12 : Int).toNat), .int r1, .int r2, .int (27 * r3)]) ha)
      have kf := ke.kp (Ex.nw (o := .lst [V.int ((nnum z : Nat) + 1 : Int), .int ((nnum z : Nat) - 1 : Int), .int (27 * (nnum z : Nat) : Int), .int (27 * (nnum z : Nat) + 26 : Int), .int ((nnum z : Nat) + 27 : Int), .int ((27 : Int) ^ (12 : Int).toNat - 1), .int ((27 : Int) ^ (12 : Int).toNat), .int r1, .int r2, .int (27 * r3)]) ha)
      have gf := upd_same (H := He) (a := a) (o := .lst [V.int ((nnum z : Nat) + 1 : Int), .int ((nnum z : Nat) - 1 : Int), .int (27 * (nnum z : Nat) : Int), .int (27 * (nnum z : Nat) + 26 : Int), .int ((nnum z : Nat) + 27 : Int), .int ((27 : Int) ^ (12 : Int).toNat - 1), .int ((27 : Int) ^ (12 : Int).toNat), .int r1, .int r2, .int (27 * r3)])
      have na := ke.ne ha
      have hne : [V.int ((nnum z : Nat) + 1 : Int), .int ((nnum z : Nat) - 1 : Int), .int (27 * (nnum z : Nat) : Int), .int (27 * (nnum z : Nat) + 26 : Int), .int ((nnum z : Nat) + 27 : Int), .int ((27 : Int) ^ (12 : Int).toNat - 1), .int ((27 : Int) ^ (12 : Int).toNat), .int r1, .int r2, .int (27 * r3)].length = 10 := rfl
      generalize hG : upd He a (.lst [V.int ((nnum z : Nat) + 1 : Int), .int ((nnum z : Nat) - 1 : Int), .int (27 * (nnum z : Nat) : Int), .int (27 * (nnum z : Nat) + 26 : Int), .int ((nnum z : Nat) + 27 : Int), .int ((27 : Int) ^ (12 : Int).toNat - 1), .int ((27 : Int) ^ (12 : Int).toNat), .int r1, .int r2, .int (27 * r3)]) = G at tf kf gf
      generalize [V.int ((nnum z : Nat) + 1 : Int), .int ((nnum z : Nat) - 1 : Int), .int (27 * (nnum z : Nat) : Int), .int (27 * (nnum z : Nat) + 26 : Int), .int ((nnum z : Nat) + 27 : Int), .int ((27 : Int) ^ (12 : Int).toNat - 1), .int ((27 : Int) ^ (12 : Int).toNat), .int r1, .int r2, .int (27 * r3)] = LL at near gf hne hG
      clear te kb kc kd ke kpc kpd kpe tb a0 a1 b0 b1 c0 c1 ha hG
      refine ⟨5, rfl, by decide, by decide, ?_⟩
      refine for_range (lo := 0) (n := 5) (fun i σ' H' => (∃ y6 y7 y8, σ' = [some (.ref p), some (.str z), some (.int (nnum z)), some (.str o), none, some (.ref a), y6, y7, y8]) ∧ H' a = some (.lst LL) ∧ Rk H' p d (n + 50 + i) ∧ Tabs (TL P0 P1) H') ⟨⟨_, _, _, rfl⟩, gf, kf.more (by omega), tf⟩ ?_ ?_
      · rintro i σ' H5 hi ⟨⟨y6, y7, y8, rfl⟩, g5, k5, t5⟩
        refine ⟨_, rfl, _, rfl, p, d, .ref a, _, rfl, k5, by omega, .inl ⟨a, LL, rfl, na, g5, (by intro e; rw [e] at hne; cases hne), by omega, fun v H6 hv k6 kp6 => ?_⟩⟩
        obtain ⟨m, rfl, hm⟩ := near v hv
        have g6 := kp6 _ _ na g5
        have t6 := Tabs.rk k5 t5 kp6
        refine ⟨_, rfl, m, rfl, fun H7 e7 => ?_⟩
        have g7 := e7 _ _ g6
        have t7 := t6.ext e7
        have k7 := k6.kp e7
        cases hnm : nmOf (.int (m : Int)) with
        | none =>
          refine ⟨_, rfl, rfl, _, rfl, iteT ?_⟩
          refine ⟨t7, fun H8 en t8 => ⟨Ex.rfl' _, rfl, rfl, fun E2 Qn hq hE => ?_⟩⟩
          refine ⟨_, rfl, p, _, rfl, .int _, fun y e => (by rw [hnm] at e; cases e), fun _ dd H9 e9 g9 => hE _ _ _ ⟨1, "number", .inl rfl, ⟨rfl, dd, rfl, g9⟩, fun P2 Ha ea ga => ?_⟩⟩
          refine ⟨(show 2 ≤ sizeLine by decide), fun b hb => two_ne (by decide +kernel) (by decide +kernel) ((Ex.nw hb) _ _ ga) upd_same ⟨false, rfl, iteF ?_⟩⟩
          have ec := (e9.tr ea).tr (Ex.nw (o := .tup [.str "number", .str "number"]) hb)
          exact ⟨⟨_, _, _, rfl⟩, ec _ _ (en _ _ g7 (fun _ z => by cases z)), ((k7.en en).kp ec).more (by omega), t8.ext ec⟩
        | some u =>
          obtain ⟨eu, hu⟩ := nmOf_inv hnm
          have eu : (m : Int) = nnum u := by injection eu
          have hmu : (m : Int).natAbs < 10 ^ 60 := by rw [Int.natAbs_natCast]; exact Nat.lt_trans hm (by decide)
          refine ⟨_, rfl, rfl, _, rfl, iteF ?_⟩
          refine ⟨_, rfl, rfl, rfl, of_go (p := p) (.int _) hnm fun H8 e8 => rd_num rfl hu fun H9 e9 => ⟨(show 2 ≤ sizeLine by decide), fun b1 hb1 => ⟨.ref b1, _, rfl, two_db upd_same (num_small hu) hu, ?_⟩⟩⟩
          rw [← eu]
          refine ⟨_, rfl, _, rfl, (show 2 ≤ sizeLine by decide), fun b2 hb2 => ⟨.ref b2, _, rfl, two_db upd_same hmu hu, rfl, false, by simp, iteF ?_⟩⟩
          have ec := ((e8.tr e9).tr (Ex.nw hb1)).tr (Ex.nw (o := .lst [.str u, .int m]) hb2)
          exact ⟨⟨_, _, _, rfl⟩, ec _ _ g7, (k7.kp ec).more (by omega), t7.ext ec⟩
      · rintro σ' H5 ⟨⟨y6, y7, y8, rfl⟩, g5, k5, t5⟩
        exact k H5 (k5.more (by omega)) t5
end
end Mine
set_option maxHeartbeats 400000
namespace Mine
open PySem PySem.Spec PyProof.Rows L2 GL LamX
section
variable {P : Program} {w : World} {K : PySem.W.Frag} {mg : Str → Option Value} {base : Heap} {fs : Nat → Addr} {fd : Nat → FuncData} {tk : Nat → Tok} {cs : Nat → Addr}
theorem ok_law (sb : SmB base) {P0 P1 : Addr} (tb0 : TabF K base mg (fs 13) P0) (tb1 : TabF K base mg (fs 14) P1) (ne : P0 ≠ P1) (T : Txt K mg fs fd tk cs) : FnG P w K mg base CX0 8 (fs 14) (fd 14) P_law (spLaw K P0 P1) := by
  refine Fun.okGC T.f_law sc_law (fun vs H Q E h => ?_) (fun cd A out s H vs Q E gd hcf hr h => ?_)
  · obtain ⟨a, ns, rfl, _⟩ := h
    rfl
  · obtain ⟨a, ns, rfl, hS, hl, g0, g1, k⟩ := h
    obtain ⟨c, rfl, tbc⟩ := tb1.code hcf
    refine ⟨_, PSs.nox ((pss_cons (ps_set (i := 1) sc_law.nd rfl (by first | exact Or.inl rfl | exact Or.inr rfl) (pg_call (ok_Lcart T) gd (hr.mono (by decide)) (by rfl) T.m_Lcart T.f_Lcart.kp (b_Lcart T) .nil pass0 (pa_cons (pv 0) pa_nil)))
      (pss_cons (ps_for PassesOwn.never rfl (pi_range1 (by rfl) T.z_range (pa_cons (pe_int) pa_nil)) (pg_name (i := 2) sc_law.nd rfl (by first | exact Or.inl rfl | exact Or.inr rfl))
        (pss_one (ps_if (pt_not (pt_val (pg_call (ok_Lpair_right sb tb0 ne T) gd (hr.mono (by decide)) (by rfl) T.m_Lpair_right T.f_Lpair_right.kp (b_Lpair_right T) .nil pass0 (pa_cons (pv 1) pa_nil))))
          (pss_one (ps_ret (pe_bl)))
          pss_nil)))
      (pss_cons (ps_set (i := 3) sc_law.nd rfl (by first | exact Or.inl rfl | exact Or.inr rfl) (pg_call (ok_Lpick T) gd (hr.mono (by decide)) (by rfl) T.m_Lpick T.f_Lpick.kp (b_Lpick T) .nil pass0 (pa_cons (pv 1) (pa_cons (pe_lst (pa_cons (pe_non) (pa_cons (pe_str) (pa_cons (pe_str) (pa_cons (pe_str) (pa_cons (pe_str) (pa_cons (pe_int) (pa_cons (pe_lst (pa_cons (pe_str) pa_nil)) (pa_cons (pe_str) (pa_cons (pe_str) (pa_cons (pe_bl) (pa_cons (pe_str) pa_nil)))))))))))) pa_nil))))
      (pss_cons (ps_set (i := 4) sc_law.nd rfl (by first | exact Or.inl rfl | exact Or.inr rfl) (pg_call (ok_Lpick T) gd (hr.mono (by decide)) (by rfl) T.m_Lpick T.f_Lpick.kp (b_Lpick T) .nil pass0 (pa_cons (pv 1) (pa_cons (pe_lst (pa_cons (pe_non) (pa_cons (pe_int) (pa_cons (pe_un un_neg (pe_int)) (pa_cons (pe_int) (pa_cons (pe_int) (pa_cons (pe_bl) (pa_cons (pe_str) (pa_cons (pe_lst (pa_cons (pe_int) pa_nil)) (pa_cons (pe_op op_pow (pe_int) (pe_int)) (pa_cons (pe_op op_pow (pe_int) (pe_int)) (pa_cons (pe_un un_neg (pe_int)) (pa_cons (pe_tup (pa_cons (pe_int) pa_nil)) pa_nil))))))))))))) pa_nil))))
      (pss_one (ps_ret (pe_cmpR (op_eqX hr.units) (pe_lst (pa_cons (pe_lamG (k := 4) (T := TL P0 P1) (c := c) (ks := []) (ls := []) gd (hr.mono (by decide)) (by rfl) T.m_Lheard T.f_Lheard (b_Lheard T) sc_Lheard rfl (Or.inl rfl) (gives_Lheard T) tbc rfl (TL.m1) (TL.u1 ne) (lamT_by (N := N_law) (sc := defScope s_law) (by decide +kernel)) ⟨rfl, rfl, (.inl ⟨rfl, rfl⟩)⟩ (bindD0 fun _ _ _ _ _ _ => rfl) (fun _ _ _ _ _ _ _ gdL hrL => (pg_call (ok_name_number T) gdL (hrL.mono (by decide)) (by rfl) T.m_name_number T.f_name_number.kp (b_name_number T) .nil (passes_call (takes_of rfl rfl rfl rfl) fun _ _ _ _ h => h) (pa_cons (pv 3) pa_nil))) pa_nil) (pa_cons (pe_lamG (k := 4) (T := TL P0 P1) (c := c) (ks := [0]) (ls := ["a1"]) gd (hr.mono (by decide)) (by rfl) T.m_Lheard T.f_Lheard (b_Lheard T) sc_Lheard rfl (Or.inl rfl) (gives_Lheard T) tbc rfl (TL.m1) (TL.u1 ne) (lamT_by (N := N_law) (sc := defScope s_law) (by decide +kernel)) ⟨rfl, rfl, (.inr ⟨_, _, _, rfl, rfl⟩)⟩ (bindD1 (by exact fun _ _ _ _ _ _ _ => ⟨_, rfl, fun _ => rfl⟩)) (fun _ _ _ _ _ _ _ gdL hrL => (pg_call (ok_name_of T) gdL (hrL.mono (by decide)) (by rfl) T.m_name_of T.f_name_of.kp (b_name_of T) .nil (passes_call (takes_of rfl rfl rfl rfl) fun _ _ _ _ h => h) (pa_cons (pv 4) pa_nil))) pa_nil) pa_nil))) (pe_lst (pa_cons (pe_tup (pa_cons (pe_str) (pa_cons (pe_str) pa_nil))) (pa_cons (pe_tup (pa_cons (pe_str) (pa_cons (pe_str) pa_nil))) pa_nil))) (nomark _))))))))), ?_⟩
    refine ⟨_, rfl, a, ns, rfl, hS, hl, fun p d H1 hp r e1 => ?_⟩
    have t1 : Tabs (TL P0 P1) H1 := Tabs.ext (fun q hq => by
      simp only [TL, List.mem_cons, List.not_mem_nil, or_false] at hq
      rcases hq with rfl | rfl
      · exact TabS.nil g0
      · exact TabS.nil g1) e1
    dsimp only [gName, tSeq]
    refine ⟨4, rfl, by decide, by decide, ?_⟩
    refine for_range (lo := 0) (n := 4) (fun i σ' H' => (∃ y, σ' = [some (.ref a), some (.ref p), y, none, none]) ∧ Rk H' p d (100 * i) ∧ Tabs (TL P0 P1) H') ⟨⟨_, rfl⟩, r, t1⟩ ?_ ?_
    · rintro i σ' H2 hi ⟨⟨y, rfl⟩, r2, t2⟩
      exact ⟨_, rfl, p, d, _, rfl, r2, by omega, t2, fun H3 r3 t3 => ⟨_, rfl, iteF ⟨⟨_, rfl⟩, r3.more (by omega), t3⟩⟩⟩
    · rintro σ' H2 ⟨⟨y, rfl⟩, r2, t2⟩
      have c10 : CPow 10 40 := ⟨by decide, by decide, by decide⟩
      have c27 : CPow 27 12 := ⟨by decide, by decide, by decide⟩
      refine ⟨_, rfl, (show 1 ≤ sizeLine by decide), fun a1 h1 => ⟨(show 11 ≤ sizeLine by decide), fun a2 h2 => ?_⟩⟩
      have e3 := (Ex.nw (H := H2) (o := .lst [V.str "a"]) h1).tr (Ex.nw (o := .lst [V.non, .str "", .str "A", .str "a1", .str "abcdefghijklm", .int 5, .ref a1, .str "a b", .str "ab_", .bl true, .str "a\n"]) h2)
      have k3 := r2.kp e3
      have t3 := t2.ext e3
      refine ⟨p, d, .ref a2, _, rfl, k3, by omega, .inl ⟨a2, _, rfl, r2.ne ((Ex.nw (o := .lst [V.str "a"]) h1).no h2), upd_same, by simp, (show 11 < 1000000 by decide), fun v H4 hv k4 kp4 => ?_⟩⟩
      have n1 := r2.ne h1
      have hv4 : Kd p H4 v ∧ isNm v = false ∧ ∀ z, v = .str z → z.length ≤ 100000 := by
        simp only [List.mem_cons, List.not_mem_nil, or_false] at hv
        rcases hv with rfl | rfl | rfl | rfl | rfl | rfl | rfl | rfl | rfl | rfl | rfl
        · exact ⟨.non, rfl, fun z e => by cases e⟩
        · exact ⟨.str _, by decide +kernel, fun z e => by cases e; decide +kernel⟩
        · exact ⟨.str _, by decide +kernel, fun z e => by cases e; decide +kernel⟩
        · exact ⟨.str _, by decide +kernel, fun z e => by cases e; decide +kernel⟩
        · exact ⟨.str _, by decide +kernel, fun z e => by cases e; decide +kernel⟩
        · exact ⟨.int _, rfl, fun z e => by cases e⟩
        · exact ⟨Kd.l1 n1 (kp4 _ _ n1 ((Ex.nw h2) _ _ upd_same)) (.str _), rfl, fun z e => by cases e⟩
        · exact ⟨.str _, by decide +kernel, fun z e => by cases e; decide +kernel⟩
        · exact ⟨.str _, by decide +kernel, fun z e => by cases e; decide +kernel⟩
        · exact ⟨.bl _, rfl, fun z e => by cases e⟩
        · exact ⟨.str _, by decide +kernel, fun z e => by cases e; decide +kernel⟩
      have t4 := Tabs.rk k3 t3 kp4
      clear hv kp4 k3 t3 e3 h1 h2 n1 t2
      refine ⟨_, rfl, _, rfl, (show 1 ≤ sizeLine by decide), fun b1 h1 => ⟨_, _, rfl, rfl, c10, _, _, rfl, rfl, c27, _, rfl, (show 1 ≤ sizeLine by decide), fun b2 h2 => ⟨(show 12 ≤ sizeLine by decide), fun b3 h3 => ?_⟩⟩⟩
      have x1 := Ex.nw (H := H4) (o := .lst [V.int 2]) h1
      have x2 := Ex.nw (o := .tup [V.int 1]) h2
      have x3 := Ex.nw (o := .lst [V.non, .int 0, .int (-1), .int 27, .int 54, .bl true, .str "1", .ref b1, .int ((10 : Int) ^ (40 : Int).toNat), .int ((27 : Int) ^ (12 : Int).toNat), .int (-27), .ref b2]) h3
      have e5 := (x1.tr x2).tr x3
      have k5 := k4.kp e5
      have t5 := t4.ext e5
      refine ⟨p, d, .ref b3, _, rfl, k5, by omega, .inl ⟨b3, _, rfl, k4.ne ((x1.tr x2).no h3), upd_same, by simp, (show 12 < 1000000 by decide), fun u H6 hu k6 kp6 => ?_⟩⟩
      have m1 := k4.ne h1
      have m2 := k4.ne (x1.no h2)
      have hu6 : Kd p H6 u ∧ nmOf u = none := by
        simp only [List.mem_cons, List.not_mem_nil, or_false] at hu
        rcases hu with rfl | rfl | rfl | rfl | rfl | rfl | rfl | rfl | rfl | rfl | rfl | rfl
        · exact ⟨.non, rfl⟩
        · exact ⟨.int _, by decide +kernel⟩
        · exact ⟨.int _, by decide +kernel⟩
        · exact ⟨.int _, by decide +kernel⟩
        · exact ⟨.int _, by decide +kernel⟩
        · exact ⟨.bl _, rfl⟩
        · exact ⟨.str _, rfl⟩
        · exact ⟨Kd.l1 m1 (kp6 _ _ m1 (x3 _ _ (x2 _ _ upd_same))) (.int _), rfl⟩
        · exact ⟨.int _, by decide +kernel⟩
        · exact ⟨.int _, by decide +kernel⟩
        · exact ⟨.int _, by decide +kernel⟩
        · exact ⟨Kd.t1 m2 (kp6 _ _ m2 (x3 _ _ upd_same)) (.int _), rfl⟩
      have hv6 := (hv4.1.ex e5).kp kp6
      have t6 := Tabs.rk k5 t5 kp6
      obtain ⟨_, iv, sv⟩ := hv4
      obtain ⟨ku, nu⟩ := hu6
      clear hu kp6 k5 t5 e5 x1 x2 x3 h1 h2 h3 m1 m2 t4 k4
      -- the two are asked
      refine ⟨t6, fun H7 en t7 => ⟨Ex.rfl' _, rfl, rfl, fun E2 Qn hq hE => ?_⟩⟩
      refine ⟨_, rfl, p, v, rfl, hv6.en en, sv, fun z e hz => (by cases e; rw [show isNm (.str z) = nameB z from rfl, hz] at iv; cases iv), fun _ dd H8 e8 g8 => hE _ _ _ ⟨2, "name", .inr rfl, ⟨rfl, dd, rfl, g8⟩, fun P2 H9 e9 g9 => ?_⟩⟩
      have e10 := e8.tr e9
      refine ⟨t7.ext e10, fun H10 en2 t10 => ⟨Ex.rfl' _, rfl, rfl, fun E3 Qm hq2 hE2 => ?_⟩⟩
      refine ⟨_, rfl, p, u, rfl, ((ku.en en).ex e10).en en2, fun z e => (by rw [nu] at e; cases e), fun _ dd2 H11 e11 g11 => hE2 _ _ _ ⟨1, "number", .inl rfl, ⟨rfl, dd2, rfl, g11⟩, fun P3 H12 e12 g12 => ?_⟩⟩
      have g2 : H12 P2 = some (.tup [.str "name", .str "name"]) := e12 _ _ (e11 _ _ (en2 _ _ g9 fun _ z => by cases z))
      refine ⟨(show 2 ≤ sizeLine by decide), fun q1 y1 => ⟨(show 2 ≤ sizeLine by decide), fun q2 y2 => ⟨(show 2 ≤ sizeLine by decide), fun q3 y3 => ⟨(show 2 ≤ sizeLine by decide), fun q4 y4 => ?_⟩⟩⟩⟩
      have z1 := Ex.nw (H := H12) (o := .lst [V.ref P2, V.ref P3]) y1
      have z2 := Ex.nw (o := .tup [V.str "name", V.str "name"]) y2
      have z3 := Ex.nw (o := .tup [V.str "number", V.str "number"]) y3
      have z4 := Ex.nw (o := .lst [V.ref q2, V.ref q3]) y4
      have f1 := z4 _ _ (z3 _ _ (z2 _ _ (upd_same (H := H12) (a := q1) (o := .lst [V.ref P2, V.ref P3]))))
      have f2 := z4 _ _ (z3 _ _ (z2 _ _ (z1 _ _ g2)))
      have f3 := z4 _ _ (z3 _ _ (z2 _ _ (z1 _ _ g12)))
      have f4 := z4 _ _ (z3 _ _ (upd_same (H := upd H12 q1 (.lst [V.ref P2, V.ref P3])) (a := q2) (o := .tup [V.str "name", V.str "name"])))
      have f5 := z4 _ _ (upd_same (H := upd (upd H12 q1 (.lst [V.ref P2, V.ref P3])) q2 (.tup [V.str "name", V.str "name"])) (a := q3) (o := .tup [V.str "number", V.str "number"]))
      have f6 := upd_same (H := upd (upd (upd H12 q1 (.lst [V.ref P2, V.ref P3])) q2 (.tup [V.str "name", V.str "name"])) q3 (.tup [V.str "number", V.str "number"])) (a := q4) (o := .lst [V.ref q2, V.ref q3])
      refine .inr ⟨.list [.tuple [.str "name", .str "name"], .tuple [.str "number", .str "number"]], .list [.tuple [.str "name", .str "name"], .tuple [.str "number", .str "number"]], .lst (SqL.of f1) (.cons (.tup (SqT.of f2) (.cons (.str _) (.cons (.str _) .nil))) (.cons (.tup (SqT.of f3) (.cons (.str _) (.cons (.str _) .nil))) .nil)),
        .lst (SqL.of f6) (.cons (.tup (SqT.of f4) (.cons (.str _) (.cons (.str _) .nil))) (.cons (.tup (SqT.of f5) (.cons (.str _) (.cons (.str _) .nil))) .nil)), by decide +kernel, by decide +kernel, ?_⟩
      have e : PyData.eqv (.list [.tuple [.str "name", .str "name"], .tuple [.str "number", .str "number"]]) (.list [.tuple [.str "name", .str "name"], .tuple [.str "number", .str "number"]]) = true := by simp [PyData.eqv, PyData.eqvAll]
      rw [e]
      exact k _
end
end Mine
namespace Mine
open PySem PySem.Spec PyProof.Rows L2 GL
theorem all_mk {l : PySem.W.OpenLaw} {w : World} {K : PySem.W.Frag} {h : Heap} {mg : Str → Option Value} {fa : Addr} (X : K.In h) (G : h.Ns mainGlobals mg) (hfa : mg "law" = some (.ref fa))
    {rs : List DefRec} {f0 f1 f2 f3 f4 f5 f6 f7 f8 f9 f10 f11 f12 f13 f14 f15 f16 : Addr} {od0 od1 od2 od3 od4 od5 od6 od7 od8 od9 od10 od11 od12 od13 od14 od15 od16 an0 an1 an2 an3 an4 an5 an6 an7 an8 an9 an10 an11 an12 an13 an14 an15 an16 : Option Addr} {sl0 sl1 sl2 sl3 sl4 sl5 sl6 sl7 sl8 sl9 sl10 sl11 sl12 sl13 sl14 sl15 sl16 : Array (Option Value)}
    {oc0 kV0 dc0 pm0 cd0 ct0 oc1 kV1 dc1 pm1 cd1 ct1 oc2 kV2 dc2 pm2 cd2 ct2 oc3 kV3 dc3 pm3 cd3 ct3 oc4 kV4 dc4 pm4 cd4 ct4 oc5 kV5 dc5 pm5 cd5 ct5 oc6 kV6 dc6 pm6 cd6 ct6 oc7 kV7 dc7 pm7 cd7 ct7 oc8 kV8 dc8 pm8 cd8 ct8 oc9 kV9 dc9 pm9 cd9 ct9 oc10 kV10 dc10 pm10 cd10 ct10 oc11 kV11 dc11 pm11 cd11 ct11 oc12 kV12 dc12 pm12 cd12 ct12 oc13 kV13 dc13 pm13 cd13 ct13 oc14 kV14 dc14 pm14 cd14 ct14 oc15 kV15 dc15 pm15 cd15 ct15 oc16 kV16 dc16 pm16 cd16 ct16 : Value}
    {t0 t1 t2 t3 : Tok}
    {C0 CN0 C1 CN1 C2 CN2 : Addr} {nm0 qn0 nm1 qn1 nm2 qn2 : Str} {bs0 bm0 sb0 bs1 bm1 sb1 bs2 bm2 sb2 : List Value} {sn0 sn1 sn2 : List Str} {ab0 ab1 ab2 : Bool} {co0 co1 co2 : Option Bool} {dd0 dd1 dd2 : Option Addr} {ka0 kb0 kc0 kd0 ke0 ka1 kb1 kc1 kd1 ke1 ka2 kb2 kc2 kd2 ke2 : Option Value}
    (a0 : PySem.W.nsIn K mainGlobals "is_integer" = some (some (.ref f0)))
    (l0 : K.lookup f0 = some ⟨oc0, od0, .func (PySem.W.fnOf "is_integer" "is_integer" (defArgs s_is_integer) (defBody s_is_integer) (defScope s_is_integer) .none kV0 dc0 pm0 an0 cd0 ct0), sl0⟩)
    (c0 : PySem.W.codeIn K cd0 "is_integer" = true)
    (k0 : PySem.W.keepIn K (.ref f0) = true)
    (a1 : PySem.W.nsIn K mainGlobals "is_within" = some (some (.ref f1)))
    (l1 : K.lookup f1 = some ⟨oc1, od1, .func (PySem.W.fnOf "is_within" "is_within" (defArgs s_is_within) (defBody s_is_within) (defScope s_is_within) .none kV1 dc1 pm1 an1 cd1 ct1), sl1⟩)
    (c1 : PySem.W.codeIn K cd1 "is_within" = true)
    (k1 : PySem.W.keepIn K (.ref f1) = true)
    (a2 : PySem.W.nsIn K mainGlobals "is_name" = some (some (.ref f2)))
    (l2 : K.lookup f2 = some ⟨oc2, od2, .func (PySem.W.fnOf "is_name" "is_name" (defArgs s_is_name) (defBody s_is_name) (defScope s_is_name) .none kV2 dc2 pm2 an2 cd2 ct2), sl2⟩)
    (c2 : PySem.W.codeIn K cd2 "is_name" = true)
    (k2 : PySem.W.keepIn K (.ref f2) = true)
    (a3 : PySem.W.nsIn K mainGlobals "name_number" = some (some (.ref f3)))
    (l3 : K.lookup f3 = some ⟨oc3, od3, .func (PySem.W.fnOf "name_number" "name_number" (defArgs s_name_number) (defBody s_name_number) (defScope s_name_number) .none kV3 dc3 pm3 an3 cd3 ct3), sl3⟩)
    (c3 : PySem.W.codeIn K cd3 "name_number" = true)
    (k3 : PySem.W.keepIn K (.ref f3) = true)
    (a4 : PySem.W.nsIn K mainGlobals "name_of" = some (some (.ref f4)))
    (l4 : K.lookup f4 = some ⟨oc4, od4, .func (PySem.W.fnOf "name_of" "name_of" (defArgs s_name_of) (defBody s_name_of) (defScope s_name_of) .none kV4 dc4 pm4 an4 cd4 ct4), sl4⟩)
    (c4 : PySem.W.codeIn K cd4 "name_of" = true)
    (k4 : PySem.W.keepIn K (.ref f4) = true)
    (a5 : PySem.W.nsIn K mainGlobals "name_or_none" = some (some (.ref f5)))
    (l5 : K.lookup f5 = some ⟨oc5, od5, .func (PySem.W.fnOf "name_or_none" "name_or_none" (defArgs s_name_or_none) (defBody s_name_or_none) (defScope s_name_or_none) .none kV5 dc5 pm5 an5 cd5 ct5), sl5⟩)
    (c5 : PySem.W.codeIn K cd5 "name_or_none" = true)
    (k5 : PySem.W.keepIn K (.ref f5) = true)
    (a6 : PySem.W.nsIn K mainGlobals "_law_cart" = some (some (.ref f6)))
    (l6 : K.lookup f6 = some ⟨oc6, od6, .func (PySem.W.fnOf "_law_cart" "_law_cart" (defArgs s_Lcart) (defBody s_Lcart) (defScope s_Lcart) .none kV6 dc6 pm6 an6 cd6 ct6), sl6⟩)
    (c6 : PySem.W.codeIn K cd6 "_law_cart" = true)
    (k6 : PySem.W.keepIn K (.ref f6) = true)
    (a7 : PySem.W.nsIn K mainGlobals "_law_haul" = some (some (.ref f7)))
    (l7 : K.lookup f7 = some ⟨oc7, od7, .func (PySem.W.fnOf "_law_haul" "_law_haul" (defArgs s_Lhaul) (defBody s_Lhaul) (defScope s_Lhaul) .none kV7 dc7 pm7 an7 cd7 ct7), sl7⟩)
    (c7 : PySem.W.codeIn K cd7 "_law_haul" = true)
    (k7 : PySem.W.keepIn K (.ref f7) = true)
    (a8 : PySem.W.nsIn K mainGlobals "_law_pick" = some (some (.ref f8)))
    (l8 : K.lookup f8 = some ⟨oc8, od8, .func (PySem.W.fnOf "_law_pick" "_law_pick" (defArgs s_Lpick) (defBody s_Lpick) (defScope s_Lpick) .none kV8 dc8 pm8 an8 cd8 ct8), sl8⟩)
    (c8 : PySem.W.codeIn K cd8 "_law_pick" = true)
    (k8 : PySem.W.keepIn K (.ref f8) = true)
    (a9 : PySem.W.nsIn K mainGlobals "_law_name" = some (some (.ref f9)))
    (l9 : K.lookup f9 = some ⟨oc9, od9, .func (PySem.W.fnOf "_law_name" "_law_name" (defArgs s_Lname) (defBody s_Lname) (defScope s_Lname) .none kV9 dc9 pm9 an9 cd9 ct9), sl9⟩)
    (c9 : PySem.W.codeIn K cd9 "_law_name" = true)
    (k9 : PySem.W.keepIn K (.ref f9) = true)
    (a10 : PySem.W.nsIn K mainGlobals "_law_number" = some (some (.ref f10)))
    (l10 : K.lookup f10 = some ⟨oc10, od10, .func (PySem.W.fnOf "_law_number" "_law_number" (defArgs s_Lnumber) (defBody s_Lnumber) (defScope s_Lnumber) .none kV10 dc10 pm10 an10 cd10 ct10), sl10⟩)
    (c10 : PySem.W.codeIn K cd10 "_law_number" = true)
    (k10 : PySem.W.keepIn K (.ref f10) = true)
    (a11 : PySem.W.nsIn K mainGlobals "_law_letters" = some (some (.ref f11)))
    (l11 : K.lookup f11 = some ⟨oc11, od11, .func (PySem.W.fnOf "_law_letters" "_law_letters" (defArgs s_Lletters) (defBody s_Lletters) (defScope s_Lletters) .none kV11 dc11 pm11 an11 cd11 ct11), sl11⟩)
    (c11 : PySem.W.codeIn K cd11 "_law_letters" = true)
    (k11 : PySem.W.keepIn K (.ref f11) = true)
    (a12 : PySem.W.nsIn K mainGlobals "_law_heard" = some (some (.ref f12)))
    (l12 : K.lookup f12 = some ⟨oc12, od12, .func (PySem.W.fnOf "_law_heard" "_law_heard" (defArgs s_Lheard) (defBody s_Lheard) (defScope s_Lheard) .none kV12 dc12 pm12 an12 cd12 ct12), sl12⟩)
    (c12 : PySem.W.codeIn K cd12 "_law_heard" = true)
    (k12 : PySem.W.keepIn K (.ref f12) = true)
    (a13 : PySem.W.nsIn K mainGlobals "_law_pair_right" = some (some (.ref f13)))
    (l13 : K.lookup f13 = some ⟨oc13, od13, .func (PySem.W.fnOf "_law_pair_right" "_law_pair_right" (defArgs s_Lpair_right) (defBody s_Lpair_right) (defScope s_Lpair_right) .none kV13 dc13 pm13 an13 cd13 ct13), sl13⟩)
    (c13 : PySem.W.codeIn K cd13 "_law_pair_right" = true)
    (k13 : PySem.W.keepIn K (.ref f13) = true)
    (a14 : PySem.W.nsIn K mainGlobals "law" = some (some (.ref f14)))
    (l14 : K.lookup f14 = some ⟨oc14, od14, .func (PySem.W.fnOf "law" "law" (defArgs s_law) (defBody s_law) (defScope s_law) .none kV14 dc14 pm14 an14 cd14 ct14), sl14⟩)
    (c14 : PySem.W.codeIn K cd14 "law" = true)
    (k14 : PySem.W.keepIn K (.ref f14) = true)
    (v0 : PySem.W.nsIn K mainGlobals "LETTERS" = some (some (.str "abcdefghijklmnopqrstuvwxyz" t0)))
    (v1 : PySem.W.nsIn K mainGlobals "LONGEST_NAME" = some (some (.int 12 t1)))
    (v2 : PySem.W.nsIn K mainGlobals "BASE" = some (some (.int 27 t2)))
    (v3 : PySem.W.nsIn K mainGlobals "BEHIND_ALL_NAMES" = some (some (.int 150094635296999121 t3)))
    (z0 : PySem.W.nsIn K mainGlobals "abs" = some none)
    (z1 : PySem.W.nsIn K mainGlobals "all" = some none)
    (z2 : PySem.W.nsIn K mainGlobals "bool" = some none)
    (z3 : PySem.W.nsIn K mainGlobals "divmod" = some none)
    (z4 : PySem.W.nsIn K mainGlobals "int" = some none)
    (z5 : PySem.W.nsIn K mainGlobals "isinstance" = some none)
    (z6 : PySem.W.nsIn K mainGlobals "len" = some none)
    (z7 : PySem.W.nsIn K mainGlobals "list" = some none)
    (z8 : PySem.W.nsIn K mainGlobals "range" = some none)
    (z9 : PySem.W.nsIn K mainGlobals "repr" = some none)
    (z10 : PySem.W.nsIn K mainGlobals "str" = some none)
    (ca0 : PySem.W.nsIn K mainGlobals "StripError" = some (some (.ref C0)))
    (cx0 : K.lookup C0 = some (excClassObj nm0 qn0 C0 CN0 bs0 bm0 true sn0 sb0 ab0 co0 dd0 ka0 kb0 kc0 kd0 ke0 "ValueError.__new__"))
    (cr0 : PySem.HandSPX.refsVE bm0 = true)
    (cb0 : clsB K C0 = true)
    (ck0 : PySem.W.keepIn K (.ref C0) = true)
    (cq0 : PySem.W.excIn K C0 [.type "ValueError", .type "Exception", .type "BaseException", .type "object"] "ValueError.__new__" = true)
    (ca1 : PySem.W.nsIn K mainGlobals "BadNumber" = some (some (.ref C1)))
    (cx1 : K.lookup C1 = some (excClassObj nm1 qn1 C1 CN1 bs1 bm1 true sn1 sb1 ab1 co1 dd1 ka1 kb1 kc1 kd1 ke1 "ValueError.__new__"))
    (cr1 : PySem.HandSPX.refsVE bm1 = true)
    (cb1 : clsB K C1 = true)
    (ci1 : PySem.W.findIn K (.ref C1) "__init__" = some (some (.ref f15)))
    (ct_1 : PySem.W.typeIn K (.ref f15) = some (.type "function"))
    (l15 : K.lookup f15 = some ⟨oc15, od15, .func (PySem.W.fnOf "__init__" "BadNumber.__init__" (defArgs s_BadNumber_init) (defBody s_BadNumber_init) (defScope s_BadNumber_init) .none kV15 dc15 pm15 an15 cd15 ct15), sl15⟩)
    (c15 : PySem.W.codeIn K cd15 "BadNumber.__init__" = true)
    (k15 : PySem.W.keepIn K (.ref f15) = true)
    (cn1_part : PySem.W.findIn K (.ref C1) "part" = some none)
    (ca2 : PySem.W.nsIn K mainGlobals "BadName" = some (some (.ref C2)))
    (cx2 : K.lookup C2 = some (excClassObj nm2 qn2 C2 CN2 bs2 bm2 true sn2 sb2 ab2 co2 dd2 ka2 kb2 kc2 kd2 ke2 "ValueError.__new__"))
    (cr2 : PySem.HandSPX.refsVE bm2 = true)
    (cb2 : clsB K C2 = true)
    (ci2 : PySem.W.findIn K (.ref C2) "__init__" = some (some (.ref f16)))
    (ct_2 : PySem.W.typeIn K (.ref f16) = some (.type "function"))
    (l16 : K.lookup f16 = some ⟨oc16, od16, .func (PySem.W.fnOf "__init__" "BadName.__init__" (defArgs s_BadName_init) (defBody s_BadName_init) (defScope s_BadName_init) .none kV16 dc16 pm16 an16 cd16 ct16), sl16⟩)
    (c16 : PySem.W.codeIn K cd16 "BadName.__init__" = true)
    (k16 : PySem.W.keepIn K (.ref f16) = true)
    (cn2_part : PySem.W.findIn K (.ref C2) "part" = some none)
    (x_ino_n1 : PySem.W.kitOne K (.type "NoneType") (.ref C1) = some false)
    (x_ino_n2 : PySem.W.kitOne K (.type "NoneType") (.ref C2) = some false)
    (x_isc_11 : PySem.W.kitOne K (.ref C1) (.ref C1) = some true)
    (x_isc_12 : PySem.W.kitOne K (.ref C1) (.ref C2) = some false)
    (x_isc_21 : PySem.W.kitOne K (.ref C2) (.ref C1) = some false)
    (x_isc_22 : PySem.W.kitOne K (.ref C2) (.ref C2) = some true)
    (x_exm_1 : PySem.W.exmOne K (.ref C1) (.ref C0) = some true)
    (x_exm_2 : PySem.W.exmOne K (.ref C2) (.ref C0) = some true)
    (x_tb : tabsB K [f13, f14] = true)
    (hr13 : (rs.any fun e => e.name == ("_law_pair_right" : Str)) = true)
    (hr14 : (rs.any fun e => e.name == ("law" : Str)) = true)
    : LawT l w K CX0 8 63 P_law.head! mg fa rs := by
  have e := hfa.symm.trans (PySem.W.mg_of X G a14)
  cases e
  have T : Txt K mg (fun i => match i with | 0 => f0 | 1 => f1 | 2 => f2 | 3 => f3 | 4 => f4 | 5 => f5 | 6 => f6 | 7 => f7 | 8 => f8 | 9 => f9 | 10 => f10 | 11 => f11 | 12 => f12 | 13 => f13 | 14 => fa | 15 => f15 | 16 => f16 | _ => fa) (fun i => match i with | 0 => PySem.W.fnOf "is_integer" "is_integer" (defArgs s_is_integer) (defBody s_is_integer) (defScope s_is_integer) .none kV0 dc0 pm0 an0 cd0 ct0 | 1 => PySem.W.fnOf "is_within" "is_within" (defArgs s_is_within) (defBody s_is_within) (defScope s_is_within) .none kV1 dc1 pm1 an1 cd1 ct1 | 2 => PySem.W.fnOf "is_name" "is_name" (defArgs s_is_name) (defBody s_is_name) (defScope s_is_name) .none kV2 dc2 pm2 an2 cd2 ct2 | 3 => PySem.W.fnOf "name_number" "name_number" (defArgs s_name_number) (defBody s_name_number) (defScope s_name_number) .none kV3 dc3 pm3 an3 cd3 ct3 | 4 => PySem.W.fnOf "name_of" "name_of" (defArgs s_name_of) (defBody s_name_of) (defScope s_name_of) .none kV4 dc4 pm4 an4 cd4 ct4 | 5 => PySem.W.fnOf "name_or_none" "name_or_none" (defArgs s_name_or_none) (defBody s_name_or_none) (defScope s_name_or_none) .none kV5 dc5 pm5 an5 cd5 ct5 | 6 => PySem.W.fnOf "_law_cart" "_law_cart" (defArgs s_Lcart) (defBody s_Lcart) (defScope s_Lcart) .none kV6 dc6 pm6 an6 cd6 ct6 | 7 => PySem.W.fnOf "_law_haul" "_law_haul" (defArgs s_Lhaul) (defBody s_Lhaul) (defScope s_Lhaul) .none kV7 dc7 pm7 an7 cd7 ct7 | 8 => PySem.W.fnOf "_law_pick" "_law_pick" (defArgs s_Lpick) (defBody s_Lpick) (defScope s_Lpick) .none kV8 dc8 pm8 an8 cd8 ct8 | 9 => PySem.W.fnOf "_law_name" "_law_name" (defArgs s_Lname) (defBody s_Lname) (defScope s_Lname) .none kV9 dc9 pm9 an9 cd9 ct9 | 10 => PySem.W.fnOf "_law_number" "_law_number" (defArgs s_Lnumber) (defBody s_Lnumber) (defScope s_Lnumber) .none kV10 dc10 pm10 an10 cd10 ct10 | 11 => PySem.W.fnOf "_law_letters" "_law_letters" (defArgs s_Lletters) (defBody s_Lletters) (defScope s_Lletters) .none kV11 dc11 pm11 an11 cd11 ct11 | 12 => PySem.W.fnOf "_law_heard" "_law_heard" (defArgs s_Lheard) (defBody s_Lheard) (defScope s_Lheard) .none kV12 dc12 pm12 an12 cd12 ct12 | 13 => PySem.W.fnOf "_law_pair_right" "_law_pair_right" (defArgs s_Lpair_right) (defBody s_Lpair_right) (defScope s_Lpair_right) .none kV13 dc13 pm13 an13 cd13 ct13 | 14 => PySem.W.fnOf "law" "law" (defArgs s_law) (defBody s_law) (defScope s_law) .none kV14 dc14 pm14 an14 cd14 ct14 | 15 => PySem.W.fnOf "__init__" "BadNumber.__init__" (defArgs s_BadNumber_init) (defBody s_BadNumber_init) (defScope s_BadNumber_init) .none kV15 dc15 pm15 an15 cd15 ct15 | 16 => PySem.W.fnOf "__init__" "BadName.__init__" (defArgs s_BadName_init) (defBody s_BadName_init) (defScope s_BadName_init) .none kV16 dc16 pm16 an16 cd16 ct16 | _ => PySem.W.fnOf "is_integer" "is_integer" (defArgs s_is_integer) (defBody s_is_integer) (defScope s_is_integer) .none kV0 dc0 pm0 an0 cd0 ct0) (fun i => match i with | 0 => t0 | 1 => t1 | 2 => t2 | 3 => t3 | _ => 0) (fun i => match i with | 0 => C0 | 1 => C1 | 2 => C2 | _ => C0) :=
    ⟨fun_mk (st := s_is_integer) l0 c0 k0, PySem.W.mg_of X G a0, fun_mk (st := s_is_within) l1 c1 k1, PySem.W.mg_of X G a1, fun_mk (st := s_is_name) l2 c2 k2, PySem.W.mg_of X G a2, fun_mk (st := s_name_number) l3 c3 k3, PySem.W.mg_of X G a3, fun_mk (st := s_name_of) l4 c4 k4, PySem.W.mg_of X G a4, fun_mk (st := s_name_or_none) l5 c5 k5, PySem.W.mg_of X G a5, fun_mk (st := s_Lcart) l6 c6 k6, PySem.W.mg_of X G a6, fun_mk (st := s_Lhaul) l7 c7 k7, PySem.W.mg_of X G a7, fun_mk (st := s_Lpick) l8 c8 k8, PySem.W.mg_of X G a8, fun_mk (st := s_Lname) l9 c9 k9, PySem.W.mg_of X G a9, fun_mk (st := s_Lnumber) l10 c10 k10, PySem.W.mg_of X G a10, fun_mk (st := s_Lletters) l11 c11 k11, PySem.W.mg_of X G a11, fun_mk (st := s_Lheard) l12 c12 k12, PySem.W.mg_of X G a12, fun_mk (st := s_Lpair_right) l13 c13 k13, PySem.W.mg_of X G a13, fun_mk (st := s_law) l14 c14 k14, PySem.W.mg_of X G a14, PySem.W.mg_of X G v0, PySem.W.mg_of X G v1, PySem.W.mg_of X G v2, PySem.W.mg_of X G v3, PySem.W.mg_none_of X G z0, PySem.W.mg_none_of X G z1, PySem.W.mg_none_of X G z2, PySem.W.mg_none_of X G z3, PySem.W.mg_none_of X G z4, PySem.W.mg_none_of X G z5, PySem.W.mg_none_of X G z6, PySem.W.mg_none_of X G z7, PySem.W.mg_none_of X G z8, PySem.W.mg_none_of X G z9, PySem.W.mg_none_of X G z10, clsX_of cx0 cr0 cb0, PySem.W.mg_of X G ca0, ck0, cq0, clsX_of cx1 cr1 cb1, PySem.W.mg_of X G ca1, fun_mk (st := s_BadNumber_init) l15 c15 k15, ci1, ct_1, cn1_part, clsX_of cx2 cr2 cb2, PySem.W.mg_of X G ca2, fun_mk (st := s_BadName_init) l16 c16 k16, ci2, ct_2, cn2_part, x_ino_n1, x_ino_n2, x_isc_11, x_isc_12, x_isc_21, x_isc_22, x_exm_1, x_exm_2⟩
  obtain ⟨P0, e0, _⟩ := tabs_out x_tb f13 (by simp)
  obtain ⟨P1, e1, _⟩ := tabs_out x_tb fa (by simp)
  have ne := tabs_ne x_tb e0 e1
  refine ⟨PySem.W.fnOf "law" "law" (defArgs s_law) (defBody s_law) (defScope s_law) .none kV14 dc14 pm14 an14 cd14 ct14, [f13, fa], spLaw K P0 P1, x_tb, fun f hf => ?_, fun s v => .of_eq rfl, fun H a ns hl hH hS => law_pre hl hS (hH _ (by simp) _ e0) (hH _ (by simp) _ e1), fun base _ _ sb hT => ok_law sb (hT _ (by simp) _ e0) (hT _ (by simp) _ e1) ne T⟩
  simp only [List.mem_cons, List.not_mem_nil, or_false] at hf
  rcases hf with rfl | rfl
  · exact rec_of hr13 (PySem.W.mg_of X G a13)
  · exact rec_of hr14 (PySem.W.mg_of X G a14)
end Mine
open PySem PySem.W PyProof.Rows
set_option maxRecDepth 100000 in
set_option maxHeartbeats 0 in
theorem PySem.Challenge.cw_priceblind_k28_names_as_numbers_holds : PySem.Challenge.rw_priceblind_k28_names_as_numbers.Holds := by
  w_on; o_law; k_head; (case hw => w_witness2)
  k_fill
  refine GL.walkT (l := PySem.Challenge.rw_priceblind_k28_names_as_numbers) (n := 63) (k := 8) (x := Mine.P_law.head!) (cx := L2.CX0) (by first | rfl | decide +kernel) rfl (by decide) rfl ⟨rfl, by decide, by decide⟩ (fun w h Y => PySem.W.km_in_of Y) ?F (fun _ _ _ _ z => z)
  case F =>
    intro w mg fa h KX G hmg
    refine' Mine.all_mk KX G hmg ?a0 ?l0 ?c0 ?k0 ?a1 ?l1 ?c1 ?k1 ?a2 ?l2 ?c2 ?k2 ?a3 ?l3 ?c3 ?k3 ?a4 ?l4 ?c4 ?k4 ?a5 ?l5 ?c5 ?k5 ?a6 ?l6 ?c6 ?k6 ?a7 ?l7 ?c7 ?k7 ?a8 ?l8 ?c8 ?k8 ?a9 ?l9 ?c9 ?k9 ?a10 ?l10 ?c10 ?k10 ?a11 ?l11 ?c11 ?k11 ?a12 ?l12 ?c12 ?k12 ?a13 ?l13 ?c13 ?k13 ?a14 ?l14 ?c14 ?k14 ?v0 ?v1 ?v2 ?v3 ?z0 ?z1 ?z2 ?z3 ?z4 ?z5 ?z6 ?z7 ?z8 ?z9 ?z10 ?ca0 ?cx0 ?cr0 ?cb0 ?ck0 ?cq0 ?ca1 ?cx1 ?cr1 ?cb1 ?ci1 ?ct_1 ?l15 ?c15 ?k15 ?cn1_part ?ca2 ?cx2 ?cr2 ?cb2 ?ci2 ?ct_2 ?l16 ?c16 ?k16 ?cn2_part ?x_ino_n1 ?x_ino_n2 ?x_isc_11 ?x_isc_12 ?x_isc_21 ?x_isc_22 ?x_exm_1 ?x_exm_2 ?x_tb ?hr13 ?hr14
    (case a0 => k_is)
    (case l0 => k_is)
    (case c0 => k_is)
    (case k0 => k_is)
    (case a1 => k_is)
    (case l1 => k_is)
    (case c1 => k_is)
    (case k1 => k_is)
    (case a2 => k_is)
    (case l2 => k_is)
    (case c2 => k_is)
    (case k2 => k_is)
    (case a3 => k_is)
    (case l3 => k_is)
    (case c3 => k_is)
    (case k3 => k_is)
    (case a4 => k_is)
    (case l4 => k_is)
    (case c4 => k_is)
    (case k4 => k_is)
    (case a5 => k_is)
    (case l5 => k_is)
    (case c5 => k_is)
    (case k5 => k_is)
    (case a6 => k_is)
    (case l6 => k_is)
    (case c6 => k_is)
    (case k6 => k_is)
    (case a7 => k_is)
    (case l7 => k_is)
    (case c7 => k_is)
    (case k7 => k_is)
    (case a8 => k_is)
    (case l8 => k_is)
    (case c8 => k_is)
    (case k8 => k_is)
    (case a9 => k_is)
    (case l9 => k_is)
    (case c9 => k_is)
    (case k9 => k_is)
    (case a10 => k_is)
    (case l10 => k_is)
    (case c10 => k_is)
    (case k10 => k_is)
    (case a11 => k_is)
    (case l11 => k_is)
    (case c11 => k_is)
    (case k11 => k_is)
    (case a12 => k_is)
    (case l12 => k_is)
    (case c12 => k_is)
    (case k12 => k_is)
    (case a13 => k_is)
    (case l13 => k_is)
    (case c13 => k_is)
    (case k13 => k_is)
    (case a14 => k_is)
    (case l14 => k_is)
    (case c14 => k_is)
    (case k14 => k_is)
    (case v0 => k_is)
    (case v1 => k_is)
    (case v2 => k_is)
    (case v3 => k_is)
    (case z0 => k_is)
    (case z1 => k_is)
    (case z2 => k_is)
    (case z3 => k_is)
    (case z4 => k_is)
    (case z5 => k_is)
    (case z6 => k_is)
    (case z7 => k_is)
    (case z8 => k_is)
    (case z9 => k_is)
    (case z10 => k_is)
    (case ca0 => k_is)
    (case cx0 => k_is)
    (case cr0 => first | rfl | decide | k_is)
    (case cb0 => kernel_rfl)
    (case ck0 => k_is)
    (case cq0 => k_exc)
    (case ca1 => k_is)
    (case cx1 => k_is)
    (case cr1 => first | rfl | decide | k_is)
    (case cb1 => kernel_rfl)
    (case ci1 => k_is)
    (case ct_1 => k_is)
    (case l15 => k_is)
    (case c15 => k_is)
    (case k15 => k_is)
    (case cn1_part => k_is)
    (case ca2 => k_is)
    (case cx2 => k_is)
    (case cr2 => first | rfl | decide | k_is)
    (case cb2 => kernel_rfl)
    (case ci2 => k_is)
    (case ct_2 => k_is)
    (case l16 => k_is)
    (case c16 => k_is)
    (case k16 => k_is)
    (case cn2_part => k_is)
    (case x_ino_n1 => kernel_rfl)
    (case x_ino_n2 => kernel_rfl)
    (case x_isc_11 => kernel_rfl)
    (case x_isc_12 => kernel_rfl)
    (case x_isc_21 => kernel_rfl)
    (case x_isc_22 => kernel_rfl)
    (case x_exm_1 => kernel_rfl)
    (case x_exm_2 => kernel_rfl)
    (case x_tb => kernel_rfl)
    (case hr13 => first | rfl | decide +kernel)
    (case hr14 => first | rfl | decide +kernel)
