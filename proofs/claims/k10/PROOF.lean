import PyProof.Rows.All
import Wide.All
import OpenK.AllK
import Wide.FinOn
import HandS.ForMost
import HandS.IsInst
import HandS.Style
import HandS.Flow
import HandS.Evl
import HandS.Walk
import HandS.Conv
import HandS.SortInts
import HandS.ExcInit
import HandS.ExcIs
import HandS.ExcField
import HandS.TryMany
import KE.KExcIs
import HandS.ExcValue
import HandS.HotCalls
import KE.KDictZip
import HandS.Lambda
import HandS.EndTab
import KE.KDflt
import PyProof.ListStr
import HandS.Replace
import HandS.Wide
import HandS.WordsExc
import HandS.More
import KE.KFmtOwn
import PyProof.InstNe
import HandS.OwnEq
import HandS.DictComp
import HandS.FStr
import HandS.Zip
import HandS.RaiseMore
import HandS.WideBits
import HandS.TupAny
import HandS.Deep
import KE.SortData
import HandS.Strs
import PyProof.Rows.SetFrom
import KE.GoesEnum
import HandS.Dict
import HandS.TupMul
import HandS.Text
import PySem.Challenge.RW_priceblind_k10_ranks_of_sizes
set_option Elab.async false
set_option linter.all false
set_option maxRecDepth 100000
set_option maxHeartbeats 4000000
/-! Our own layer over HandS: defs that are called where no repr is under way (guards known), repr of data, keyword calls. -/
namespace GL
open PySem PySem.Spec PyProof.Rows L2

structure FnG (pg : Program) (w : World) (K : PySem.W.Frag) (mg : Str → Option Value) (bs : Heap) (cx : CXT)
    (k : Nat) (f : Addr) (fd : FuncData) (ps : List Str) (sp : Sp) : Prop where
  len : ∀ vs H Q E, sp vs H Q E → vs.length = ps.length
  run : ∀ (A : Around) (out : List Env) (s : Shared) (H : Hp) (ar : Args) (us : List Value) (vs : List V) (Q : VK) (E : XK),
    A.guards = some [] → Room k A → Env0 pg w K mg bs A out s H → BindsTo s fd ar (ps.zip us) → Vals vs us → sp vs H Q E →
    codeAny (model pg w) A (.call (.ref f) ar) (CR cx out pg w H s Q E) s

theorem FnG.more {pg : Program} {w : World} {K : PySem.W.Frag} {mg : Str → Option Value} {bs : Heap} {cx : CXT} {j k : Nat} {f : Addr}
    {fd : FuncData} {ps : List Str} {sp : Sp} (F : FnG pg w K mg bs cx j f fd ps sp) (h : j ≤ k) : FnG pg w K mg bs cx k f fd ps sp :=
  ⟨F.len, fun A out s H ar us vs Q E hg rm => F.run A out s H ar us vs Q E hg (rm.mono h)⟩

theorem FnG.weak {pg : Program} {w : World} {K : PySem.W.Frag} {mg : Str → Option Value} {bs : Heap} {cx : CXT} {k : Nat} {f : Addr}
    {fd : FuncData} {ps : List Str} {sp sp' : Sp} (F : FnG pg w K mg bs cx k f fd ps sp) (h : ∀ vs H Q E, sp' vs H Q E → sp vs H Q E) :
    FnG pg w K mg bs cx k f fd ps sp' :=
  ⟨fun vs H Q E q => F.len vs H Q E (h _ _ _ _ q), fun A out s H ar us vs Q E hg rm e0 hb hv hs => F.run A out s H ar us vs Q E hg rm e0 hb hv (h _ _ _ _ hs)⟩

section
variable {pg : Program} {w : World} {K : PySem.W.Frag} {mg : Str → Option Value} {bs : Heap}

/-- a body's end is the call's end -/
theorem to_end {cx : CXT} {N : List Str} {q : Str} {sc : Scope} {f : Addr} {cd : Value} {A : Around} {out : List Env} {s s' : Shared} {H : Hp} {Q : VK} {E : XK}
    {τ : L2.St} {G : Hp} {v : V} {u : Value} (J : Inv (cxOf cx pg w K mg bs N q sc f cd A out s H E) [] τ G s') (rv : RelV v u) (z : Q v G) : CE out pg w H s Q u s' :=
  ⟨v, G, J.os, J.bare, J.base, J.hok, rv, z⟩

/-- a def by its body, the guards known -/
theorem Fun.okG {cx : CXT} {x q : Str} {st : Stmt} {f : Addr} {fd : FuncData} {N ps : List Str} {k : Nat} {sp : Sp} (F : Fun K x q st f fd)
    (S : FnScope N ps (defScope st)) (len : ∀ vs H Q E, sp vs H Q E → vs.length = ps.length)
    (hb : ∀ (cd : Value) (A : Around) (out : List Env) (s : Shared) (H : Hp) (vs : List V) (Q : VK) (E : XK), A.guards = some [] →
      Room k (A.deeper (envOfC q (defScope st) s.heap.objs.size f cd)) → sp vs H Q E →
      ∃ t, PSs (cxOf cx pg w K mg bs N q (defScope st) f cd A out s H E) (defBody st) t ∧ t { nx := fun _ H' => Q .non H', rt := Q } (start N vs) H) :
    FnG pg w K mg bs cx (k + 1) f fd ps sp := by
  obtain ⟨oc, od, kV, doc, pm, an, cd, ct, osl, rfl, lk, hcd⟩ := F.ex
  refine ⟨len, fun A out s H ar us vs Q E hg rm ev hbi rv hsp => ?_⟩
  have hle := len _ _ _ _ hsp
  have keepB : ∀ b o, bs.get? b = some o → s.heap.get? b = some o := fun b o z => (ev.bs b o z).1
  have KX : K.In s.heap := ev.mod.kin.keeps keepB
  have lim : s.heap.NoLimit := ev.mod.nolimit.keeps keepB
  have kinds : ∀ y ∈ ps.zip us, (defScope st).names.lookup y.1 = some .local ∨
      ((defScope st).names.lookup y.1 = some .cell ∧ ((cellsFrom (s.heap.objs.size + 1) (defScope st).names []).lookup y.1).isSome = true) := by
    rintro ⟨n, v⟩ hy
    rcases S.par n (List.of_mem_zip hy).1 with z | z
    · exact .inl z
    · exact .inr ⟨z, PySem.W.cellsFrom_some _ _ _ (.inl z)⟩
  have room := rm.depth
  refine codeAny_call_function room (KX _ _ lk) rfl S.co S.gen rfl (PySem.W.codeRec_of KX hcd) (hbi _ _ _ _ ?_)
  refine wpAny_newFunctionEnv_cells S.kind kinds fun env he s1 ic => ?_
  subst he
  refine ⟨lim.keeps ic.toInCall.keep, codeAny_func ?_⟩
  obtain ⟨t, ht, hq⟩ := hb cd A out s H vs Q E hg (rm.deeper _) hsp
  have J := inv_start (CX := cx) (E := E) S rm.hd ev hle rv ic
  refine wpAny_mono (ht.run [] s1 (start N vs) H _ J hq) (fun fl s' hs => ?_) fun e s' hs => hs
  cases fl with
  | ret u => exact (let ⟨_, _, _, J', rv', z⟩ := hs; to_end J' rv' z)
  | next => exact (let ⟨_, _, J', z⟩ := hs; to_end (v := V.non) (u := Value.none) J' rfl z)
  | brk => exact (let ⟨_, _, _, z⟩ := hs; False.elim z)
  | cont => exact (let ⟨_, _, _, z⟩ := hs; False.elim z)

/-- a promise at the call itself, over a state where the guards are known -/
theorem FnG.goes {X : Cx} {cx : CXT} {k : Nat} {f : Addr} {fd : FuncData} {ps : List Str} {sp : Sp} {E : XK} {pins : List (Addr × Obj)} {σ : L2.St} {H : Hp}
    {s : Shared} {Q : VK} {ar : Args} {us : List Value} {vs : List V} (F : FnG X.prog X.w X.K X.mg X.base cx k f fd ps sp) (gd : X.A.guards = some [])
    (rm : Room k X.A) (hb : BindsTo s fd ar (ps.zip us)) (hx : Passes cx X E) (I : Inv X pins σ H s) (r : Vals vs us) (h : sp vs H Q E) :
    codeAny (model X.prog X.w) X.A (.call (.ref f) ar) (wants (EP X pins σ Q) X.xe) s := by
  refine codeAny_mono (F.run X.A X.stack s H ar us vs Q E gd rm I.env0 hb r h) fun res s' hq => ?_
  cases res with
  | error e => exact hx pins σ H s e s' I hq
  | ok fl =>
    cases fl with
    | ret u => exact I.after hq
    | next => exact hq.elim
    | brk => exact hq.elim
    | cont => exact hq.elim
end
end GL
namespace GL
open PySem PySem.Spec PyProof.Rows L2
section
variable {X : Cx} {cx : CXT} {k : Nat} {f : Addr} {fd : FuncData} {ps ks : List Str} {sp : Sp} {dvs : List V} {ds : List Value} {E : XK}
  {x : Str} {p pos : Pos} {e : Expr} {es : List Expr} {kws : List Keyword} {t tk : TA}

/-- the callee, given its values -/
theorem FnG.call_vals {pins : List (Addr × Obj)} {σ : L2.St} {H : Hp} {s : Shared} {Q : VK} {us : List Value} {vs : List V}
    (F : FnG X.prog X.w X.K X.mg X.base cx k f fd ps sp) (gd : X.A.guards = some []) (rm : Room k X.A) (hb : Binds X.K fd ps ds) (hd : Vals dvs ds)
    (hx : Passes cx X E) (I : Inv X pins σ H s) (r : Vals vs us) (h : sp (vs ++ dvs) H Q E) :
    wpAny (model X.prog X.w) X.A (call (.ref f) us) (EP X pins σ Q) X.xe s := by
  have r2 := r.append hd
  have hl : (us ++ ds).length = ps.length := r2.length.symm.trans (F.len _ _ _ _ h)
  exact wpAny_call (F.goes gd rm (hb s us I.kIn hl) hx I r2 h)

/-- f(e, ..) -/
theorem pg_call (F : FnG X.prog X.w X.K X.mg X.base cx k f fd ps sp) (gd : X.A.guards = some []) (rm : Room k X.A) (hg : Gl X x)
    (hm : X.mg x = some (.ref f)) (kp : PySem.W.keepIn X.K (.ref f) = true) (hb : Binds X.K fd ps ds) (hd : Vals dvs ds) (hx : Passes cx X E) (ha : PA X (e :: es) t)
    (hdb : (x == ("__debug__" : Str)) = false := by decide) (hst : starEach (e :: es) X.env = (false, eval e X.env) :: starEach es X.env := by rfl)
    (hpl : (backTo pos (starEach es X.env)).any (·.1) = false := by rfl) : PE X (.Call (.Name x p) (e :: es) [] pos) (tCall sp dvs E t) := by
  refine ⟨fun pins s σ H Q I h => wpAny_Call_Name_kw (ld_glob I hg hm ?_ hdb)⟩
  refine PySem.W.callWith_K (h₀ := X.base) I.ok.mod.kin kp (thn (ha.run pos pins s σ H _ I h) ?_) hst hpl
  rintro us s1 ⟨vs, H1, I1, r, q⟩
  exact ⟨I1.kIn, F.call_vals gd rm hb hd hx I1 r q⟩

/-- f() -/
theorem pg_call0 (F : FnG X.prog X.w X.K X.mg X.base cx k f fd ps sp) (gd : X.A.guards = some []) (rm : Room k X.A) (hg : Gl X x)
    (hm : X.mg x = some (.ref f)) (kp : PySem.W.keepIn X.K (.ref f) = true) (hb : Binds X.K fd ps ds) (hd : Vals dvs ds) (hx : Passes cx X E)
    (hdb : (x == ("__debug__" : Str)) = false := by decide) : PE X (.Call (.Name x p) [] [] pos) (tCall sp dvs E tNil) :=
  ⟨fun pins s σ H Q I h => wpAny_Call_Name_kw (ld_glob I hg hm (PySem.W.callWith_K0 I.kIn kp (F.call_vals (us := []) gd rm hb hd hx I .nil h)) hdb)⟩

/-- how n values by place and the keywords ks bind -/
structure KwB (K : PySem.W.Frag) (fd : FuncData) (ps : List Str) (n : Nat) (ks : List Str) (g : {α : Type} → List α → List α → List α) : Prop where
  to : ∀ (s : Shared) (us ws : List Value), us.length = n → ws.length = ks.length → BindsTo s fd ⟨us, ks.zip ws⟩ (ps.zip (g us ws))
  rel : ∀ {vs : List V} {us : List Value} {zs : List V} {ws : List Value}, vs.length = n → zs.length = ks.length → Vals vs us → Vals zs ws → Vals (g vs zs) (g us ws)
variable {n : Nat} {g : {α : Type} → List α → List α → List α}
def tKw (n m : Nat) (sp : Sp) (g : {α : Type} → List α → List α → List α) (E : XK) (t tk : TA) : TE := fun σ H Q => t σ H fun vs H1 => tk σ H1 fun zs H2 =>
  vs.length = n ∧ zs.length = m ∧ sp (g vs zs) H2 Q E

theorem FnG.call_kw {pins : List (Addr × Obj)} {σ : L2.St} {H : Hp} {s : Shared} {Q : VK} {us ws : List Value} {vs zs : List V}
    (F : FnG X.prog X.w X.K X.mg X.base cx k f fd ps sp) (gd : X.A.guards = some []) (rm : Room k X.A) (hb : KwB X.K fd ps n ks g) (hx : Passes cx X E)
    (I : Inv X pins σ H s) (r : Vals vs us) (rz : Vals zs ws) (l1 : vs.length = n) (l2 : zs.length = ks.length) (h : sp (g vs zs) H Q E) :
    wpAny (model X.prog X.w) X.A (call (.ref f) us (ks.zip ws)) (EP X pins σ Q) X.xe s :=
  wpAny_call (F.goes gd rm (hb.to s us ws (r.length.symm.trans l1) (rz.length.symm.trans l2)) hx I (hb.rel l1 l2 r rz) h)

/-- f(e, .., k = v, ..) -/
theorem pg_callK (F : FnG X.prog X.w X.K X.mg X.base cx k f fd ps sp) (gd : X.A.guards = some []) (rm : Room k X.A) (hg : Gl X x)
    (hm : X.mg x = some (.ref f)) (kp : PySem.W.keepIn X.K (.ref f) = true) (hb : KwB X.K fd ps n ks g) (hx : Passes cx X E) (ha : PA X (e :: es) t) (hk : PK X kws tk)
    (hall : (backToKw pos (keywordEach kws X.env)).all (·.1.isSome) = true := by rfl) (hks : (backToKw pos (keywordEach kws X.env)).filterMap (·.1) = ks := by rfl)
    (hdb : (x == ("__debug__" : Str)) = false := by decide) (hst : starEach (e :: es) X.env = (false, eval e X.env) :: starEach es X.env := by rfl)
    (hpl : ((backTo pos (starEach (e :: es) X.env)).any (·.1) || (backToKw pos (keywordEach kws X.env)).any (·.1.isNone)) = false := by rfl) :
    PE X (.Call (.Name x p) (e :: es) kws pos) (tKw n ks.length sp g E t tk) := by
  refine ⟨fun pins s σ H Q I h => wpAny_Call_Name_kw (ld_glob I hg hm ?_ hdb)⟩
  refine PySem.W.callWith_KW (h₀ := X.base) I.ok.mod.kin kp hall (thn (ha.run pos pins s σ H _ I h) ?_) hpl hst
  rintro us s1 ⟨vs, H1, I1, r, q⟩
  refine thn (hk.run pos pins s1 σ H1 _ I1 q) ?_
  rintro ws s2 ⟨zs, H2, I2, rz, l1, l2, q2⟩
  rw [hks]
  exact ⟨I2.kIn, F.call_kw gd rm hb hx I2 r rz l1 l2 q2⟩

/-- f(k = v, ..) -/
theorem pg_callK0 (F : FnG X.prog X.w X.K X.mg X.base cx k f fd ps sp) (gd : X.A.guards = some []) (rm : Room k X.A) (hg : Gl X x)
    (hm : X.mg x = some (.ref f)) (kp : PySem.W.keepIn X.K (.ref f) = true) (hb : KwB X.K fd ps 0 ks g) (hx : Passes cx X E) (hk : PK X kws tk)
    (hall : (backToKw pos (keywordEach kws X.env)).all (·.1.isSome) = true := by rfl) (hks : (backToKw pos (keywordEach kws X.env)).filterMap (·.1) = ks := by rfl)
    (hdb : (x == ("__debug__" : Str)) = false := by decide)
    (hpl : ((backTo pos (starEach [] X.env)).any (·.1) || (backToKw pos (keywordEach kws X.env)).any (·.1.isNone)) = false := by rfl) :
    PE X (.Call (.Name x p) [] kws pos) (tKw 0 ks.length sp g E tNil tk) := by
  refine ⟨fun pins s σ H Q I h => wpAny_Call_Name_kw (ld_glob I hg hm ?_ hdb)⟩
  refine PySem.W.callWith_KW0 (h₀ := X.base) I.ok.mod.kin kp hall ?_ hpl
  refine thn (hk.run pos pins s σ H _ I h) ?_
  rintro ws s2 ⟨zs, H2, I2, rz, l1, l2, q2⟩
  rw [hks]
  exact ⟨I2.kIn, F.call_kw (us := []) gd rm hb hx I2 .nil rz l1 l2 q2⟩

/-! ### repr of data -/
/-- repr(x), x data -/
def rRepr (K : PySem.W.Frag) : List V → Hp → VK → Prop := fun xs H Q => ∃ (v : V) (d : PyData), xs = [v] ∧ Dp K H v d ∧ d.showable = true ∧ d.hasDict = false ∧ d.depth ≤ 60 ∧ d.shown.length ≤ sizeLine ∧ Q (.str d.shown) H

theorem call_repr (gd : X.A.guards = some []) {j : Nat} (rm : Room j X.A) : CallR X (.builtin "repr") (rRepr X.K) := by
  intro pins s σ H xs us Q I r h
  obtain ⟨v, d, rfl, hd, hs, hn, hz, hl, q⟩ := h
  cases r with
  | cons rv rn =>
    rename_i u us
    cases rn
    have hu := rm.units
    obtain ⟨as, rd⟩ := Dp.reads I d v u hd rv
    have fin : ∀ (h' : Heap) (u' tk : Tok), (∀ b o, s.heap.get? b = some o → h'.get? b = some o) → EP X pins σ Q (.str d.shown u') { s with heap := h', toks := tk } :=
      fun h' u' tk kk => ⟨.str d.shown, H, I.kept (t' := tk) kk, ⟨u', rfl⟩, q⟩
    cases hd with
    | non => cases rv; exact P.repr_of_none (fin s.heap _ _ fun _ _ z => z)
    | bl b => cases rv; exact P.repr_of_bool (fin s.heap _ _ fun _ _ z => z)
    | int i => obtain ⟨t, rfl⟩ := rv; exact P.repr_of_int (by simpa [PyData.showable] using hs) (fin s.heap _ _ fun _ _ z => z)
    | str y => obtain ⟨t, rfl⟩ := rv; exact P.repr_of_str (fin s.heap _ _ fun _ _ z => z) hl
    | lst h1 h2 =>
      cases rv
      exact repr_of_reads' rd hs (fun z => by rw [hn] at z; cases z) gd (by omega) (fun _ _ z => z) fin hl
    | tup h1 h2 =>
      cases rv
      exact repr_of_reads' rd hs (fun z => by rw [hn] at z; cases z) gd (by omega) (fun _ _ z => z) fin hl
end

/-! ### the law's end -/
def SmB (h : Heap) : Prop := ∃ o, h.get? sysModules = some o
section
theorem law_in {pg : Program} {w : World} {K : PySem.W.Frag} {mg mb : Str → Option Value} {cx : CXT} {k : Nat} {fa a : Addr} {fd : FuncData} {x : Str} {sp : Sp} {s : Shared}
    {vs : List Value} {H : Hp} (KX : K.In s.heap) (hns : s.heap.Ns mainGlobals mg) (hb : s.heap.Ns builtinsNs mb)
    (hbb : ∀ y : Str, y ≠ "__name__" → mb y = bootBuiltins y) (lim : s.heap.NoLimit) (hg : s.gens = #[])
    (ha : s.heap.get? a = some { cls := .type "list", data := .seq vs.toArray }) (rm : Room k callerA)
    (sm : ∃ o es ep, s.heap.get? sysModules = some o ∧ o.data = .dict es ep) (F : ∀ bs : Heap, K.In bs → bs.Ns mainGlobals mg → SmB bs → FnG pg w K mg bs cx k fa fd [x] sp) (hbi : ∀ (s : Shared) (u : Value), BindsTo s fd ⟨[u], []⟩ [(x, u)])
    (hO : Only H) (hok : HOk pg w H s.heap) (only : ∀ b, H b ≠ none → b = a) (hK : H a ≠ none → K.lookup a = none)
    (hsp : sp [.ref a] H (fun v _ => v = .bl true) fun _ _ _ => False) (hcx : ∀ H e s', cx [] H s (fun _ _ _ => False) e s' → False) :
    codeAny (model pg w) callerA (.call (.ref fa) ⟨[.ref a], []⟩)
      (fun r s' => r = .ok (.ret (.bool true)) ∧ OldK s.heap s'.heap ∧ s'.os = s.os ∧ AllBare s'.gens) s := by
  have at_a : ∀ {b : Addr}, H b ≠ none → b = a := fun {b} => only b
  have noDict : ∀ {b : Addr} {o : Obj} {es : Array DictEntry} {ep : Nat}, s.heap.get? b = some o → o.data = .dict es ep → H b = none := by
    intro b o es ep e d
    by_cases z : H b = none
    · exact z
    · cases at_a z
      rw [ha] at e
      cases e
      cases d
  have ns_of : ∀ {b : Addr} {m : Str → Option Value}, s.heap.Ns b m → (hidT s.heap H).Ns b m := fun ⟨o, es, ep, e, d, r⟩ => ⟨o, es, ep, hidT_get e (noDict e d), d, r⟩
  have KB : K.In (hidT s.heap H) := fun b o e => hidT_get (KX b o e) (by
    by_cases z : H b = none
    · exact z
    · cases at_a z
      rw [hK z] at e
      cases e)
  have md : Mod K mg (hidT s.heap H) := ⟨KB, ns_of hns, ⟨mb, ns_of hb, hbb⟩, lim.imp fun _ z => ⟨ns_of z.1, z.2⟩⟩
  have ev : Env0 pg w K mg (hidT s.heap H) callerA [] s H :=
    ⟨rfl, md, fun _ _ e => of_hidT e, Nat.le_of_eq (hidT_size _ _), trivial, (fun b z => absurd (show b ∈ ([] : List Addr) from z) (by simp)), hok, .of_eq hg⟩
  refine codeAny_mono ((F _ KB (ns_of hns) (let ⟨o, es, ep, e1, e2⟩ := sm; ⟨o, hidT_get e1 (noDict e1 e2)⟩)).run callerA [] s H ⟨[.ref a], []⟩ [.ref a] [.ref a] _ _ rfl rm ev (hbi s (.ref a)) (.cons rfl .nil) hsp) ?_
  rintro (e | fl) s' z
  · exact (hcx H e s' z).elim
  · cases fl with
    | ret u =>
      obtain ⟨v, H', os, bare, un, hok', ru, rfl⟩ := z
      cases ru
      refine ⟨rfl, OldK.of_keep fun b o e => ?_, os, bare⟩
      rcases hO b with q | ⟨ob, xs, q⟩
      · exact un.keep b o e q (by intro y; cases y) (by intro y; cases y)
      · have e1 := (hok b _ q).1
        have e2 := (hok' b _ (un.frzs b ob _ q)).1
        exact e2.trans (e1.symm.trans e)
    | next => exact z.elim
    | brk => exact z.elim
    | cont => exact z.elim

theorem walkG {l : PySem.W.OpenLaw} {n k : Nat} {q : Program} {loose : List Str} {XP : (Str → Option Value) → Heap → Prop} {YP : World → Heap → Prop} {d : DefRec}
    {K : Params → PySem.W.Frag} {cx : CXT} {sp : PySem.W.Frag → Sp} {x : Str} (hi : importsNone q = true) (hn : l.most = some n) (hn2 : n ≤ sizeLine) (hdf : d.params.defaults = []) (rm : Room k callerA)
    (hY : ∀ (w : World) (h : Heap), YP w h → (K w.params).In h)
    (F : ∀ (w : World) (mg : Str → Option Value) (fa : Addr) (h : Heap), (K w.params).In h → h.Ns mainGlobals mg → mg d.name = some (.ref fa) →
      ∃ fd : FuncData, (∀ (s : Shared) (u : Value), BindsTo s fd ⟨[u], []⟩ [(x, u)]) ∧
        ∀ bs : Heap, (K w.params).In bs → bs.Ns mainGlobals mg → SmB bs → FnG l.prog w (K w.params) mg bs cx k fa fd [x] (sp (K w.params)))
    (hsp : ∀ (K : PySem.W.Frag) (H : Hp) (a : Addr) (ns : List Int), ns.length ≤ n → Only H → SqL K H a (ns.map V.int) → sp K [.ref a] H (fun v _ => v = .bl true) fun _ _ _ => False)
    (hcx : ∀ (H : Hp) (s : Shared) (e : Value) (s' : Shared), cx [] H s (fun _ _ _ => False) e s' → False) :
    PySem.W.WalkO q loose XP YP l.row.toRowW d [] (fun f vs => PySem.call f vs) := by
  refine Att.attach_call hn hdf ?_
  intro w _ s mg mb fa o pm cd doc a vs ns G Y ho hd hcd hmg hob hin hle hg
  have KX := hY w _ Y
  have sm : ∃ o es ep, s.heap.get? sysModules = some o ∧ o.data = .dict es ep := by
    obtain ⟨mm, ⟨o, es, ep, e1, e2, _⟩, _⟩ := (G.T.seer hi).mods
    exact ⟨o, es, ep, e1, e2⟩
  obtain ⟨fd, hb, hF⟩ := F w mg fa _ KX G.T.g hmg
  have rv := vals_ints hin
  have lv := hin.length
  cases hk : (K w.params).lookup a with
  | some o' =>
    have e := KX a o' hk
    rw [hob] at e
    cases e
    have O : Only (fun _ => none) := fun _ => .inl rfl
    have S : SqL (K w.params) (fun _ => none) a (ns.map V.int) :=
      .inr ⟨_, vs.toArray, _, hk, rfl, rfl, rfl, by rw [List.size_toArray, lv]; exact Nat.le_trans hle hn2, by simpa using rv⟩
    exact law_in (H := fun _ => none) KX G.T.g G.T.b G.T.builtins G.T.nolimit hg hob rm sm hF hb O (fun b u z => by cases z) (fun b z => absurd rfl z) (fun z => absurd rfl z)
      (hsp _ _ a ns hle O S) fun H e s' => hcx H s e s'
  | none =>
    let H : Hp := fun b => if b = a then some (.frz { cls := .type "list", data := .seq vs.toArray } (.lst (ns.map V.int))) else none
    have Ha : H a = some (.frz { cls := .type "list", data := .seq vs.toArray } (.lst (ns.map V.int))) := if_pos rfl
    have Hn : ∀ b, b ≠ a → H b = none := fun b z => if_neg z
    have O : Only H := fun b => by
      by_cases z : b = a
      · exact .inr ⟨_, _, if_pos z⟩
      · exact .inl (Hn b z)
    have ok : HOk l.prog w H s.heap := fun b u z => by
      by_cases e : b = a
      · subst e
        rw [Ha] at z
        cases z
        exact ⟨hob, by rw [List.length_map]; exact Nat.le_trans hle hn2, vs, _, rv, hob⟩
      · rw [Hn b e] at z
        cases z
    refine law_in (H := H) KX G.T.g G.T.b G.T.builtins G.T.nolimit hg hob rm sm hF hb O ok (fun b z => ?_) (fun _ => hk) (hsp _ _ a ns hle O (.inl (.inr ⟨_, Ha⟩))) fun H e s' => hcx H s e s'
    by_cases e : b = a
    · exact e
    · exact absurd (Hn b e) z
end
end GL
/-! What laws draw: data known to any depth, the rack of a law's draws, isinstance of such data, loops over a list or a tuple. -/
namespace GL
open PySem PySem.Spec PyProof.Rows L2

/-- nothing that was tracked has changed -/
abbrev Ex (H H' : Hp) : Prop := ∀ a o, H a = some o → H' a = some o
/-- nothing that was tracked has changed, but p -/
def Kp (p : Addr) (H H' : Hp) : Prop := ∀ a o, a ≠ p → H a = some o → H' a = some o
theorem Ex.rfl' (H : Hp) : Ex H H := fun _ _ h => h
theorem Ex.tr {H H1 H2 : Hp} (a : Ex H H1) (b : Ex H1 H2) : Ex H H2 := fun x o h => b x o (a x o h)
theorem Ex.nw {H : Hp} {p : Addr} {o : HO} (h : H p = none) : Ex H (upd H p o) := fun a u e => by
  rw [upd_ne (ne_of_none e h)]; exact e
/-- an object that H does not know changes -/
theorem Ex.up {H H' : Hp} {p : Addr} {o : HO} (e : Ex H H') (h : H p = none) : Ex H (upd H' p o) := fun a u ha => by
  rw [upd_ne (ne_of_none ha h)]; exact e a u ha
theorem Ex.no {H H' : Hp} {p : Addr} (e : Ex H H') (h : H' p = none) : H p = none := by
  cases h1 : H p with
  | none => rfl
  | some o => rw [e p o h1] at h; cases h
theorem Ex.kp {p : Addr} {H H' : Hp} (e : Ex H H') : Kp p H H' := fun a o _ h => e a o h
theorem Kp.rfl' {p : Addr} (H : Hp) : Kp p H H := fun _ _ _ h => h
theorem Kp.tr {p : Addr} {H H1 H2 : Hp} (a : Kp p H H1) (b : Kp p H1 H2) : Kp p H H2 := fun x o n h => b x o n (a x o n h)
theorem Kp.ex {p : Addr} {H H1 H2 : Hp} (a : Kp p H H1) (b : Ex H1 H2) : Kp p H H2 := fun x o n h => b x o (a x o n h)
theorem Kp.nw {p q : Addr} {H H' : Hp} {o : HO} (e : Kp p H H') (h : H q = none) : Kp p H (upd H' q o) := fun a u n ha => by
  rw [upd_ne (ne_of_none ha h)]; exact e a u n ha
theorem Kp.up {p : Addr} {H H' : Hp} {o : HO} (e : Kp p H H') : Kp p H (upd H' p o) := fun a u n ha => by
  rw [upd_ne n]; exact e a u n ha

/-- data: known to any depth, none of it at p -/
inductive Kd (p : Addr) (H : Hp) : V → Prop
  | non : Kd p H .non
  | bl (b : Bool) : Kd p H (.bl b)
  | int (i : Int) : Kd p H (.int i)
  | str (z : Str) : Kd p H (.str z)
  | lst {a : Addr} {xs : List V} (n : a ≠ p) (e : H a = some (.lst xs)) (z : xs.length ≤ 100000) (all : ∀ x, x ∈ xs → Kd p H x) : Kd p H (.ref a)
  | tup {a : Addr} {xs : List V} (n : a ≠ p) (e : H a = some (.tup xs)) (z : xs.length ≤ 100000) (all : ∀ x, x ∈ xs → Kd p H x) : Kd p H (.ref a)
  | dK {a : Addr} {kvs : List (Key × V)} (n : a ≠ p) (e : H a = some (.dK kvs)) : Kd p H (.ref a)
theorem Kd.kp {p : Addr} {H H' : Hp} (k : Kp p H H') {v : V} (h : Kd p H v) : Kd p H' v := by
  induction h with
  | non => exact .non
  | bl b => exact .bl b
  | int i => exact .int i
  | str z => exact .str z
  | lst n e z _ ih => exact .lst n (k _ _ n e) z ih
  | tup n e z _ ih => exact .tup n (k _ _ n e) z ih
  | dK n e => exact .dK n (k _ _ n e)
theorem Kd.ex {p : Addr} {H H' : Hp} (k : Ex H H') {v : V} (h : Kd p H v) : Kd p H' v := h.kp (Ex.kp k)

/-- the name of a value's type -/
def tyN (H : Hp) : V → String
  | .non => "NoneType"
  | .bl _ => "bool"
  | .int _ => "int"
  | .str _ => "str"
  | .ref a => match H a with
    | some (.lst _) => "list"
    | some (.tup _) => "tuple"
    | some (.dK _) => "dict"
    | _ => ""
  | _ => ""
theorem tyN_lst {H : Hp} {a : Addr} {xs : List V} (e : H a = some (.lst xs)) : tyN H (.ref a) = "list" := by
  show (match H a with | some (.lst _) => "list" | some (.tup _) => "tuple" | some (.dK _) => "dict" | _ => "") = _
  rw [e]
theorem tyN_tup {H : Hp} {a : Addr} {xs : List V} (e : H a = some (.tup xs)) : tyN H (.ref a) = "tuple" := by
  show (match H a with | some (.lst _) => "list" | some (.tup _) => "tuple" | some (.dK _) => "dict" | _ => "") = _
  rw [e]
theorem tyN_dK {H : Hp} {a : Addr} {kvs : List (Key × V)} (e : H a = some (.dK kvs)) : tyN H (.ref a) = "dict" := by
  show (match H a with | some (.lst _) => "list" | some (.tup _) => "tuple" | some (.dK _) => "dict" | _ => "") = _
  rw [e]
theorem tyN_ex {p : Addr} {H H' : Hp} (k : Kp p H H') {v : V} (h : Kd p H v) : tyN H' v = tyN H v := by
  cases h with
  | non => rfl
  | bl b => rfl
  | int i => rfl
  | str z => rfl
  | lst n e _ _ => rw [tyN_lst e, tyN_lst (k _ _ n e)]
  | tup n e _ _ => rw [tyN_tup e, tyN_tup (k _ _ n e)]
  | dK n e => rw [tyN_dK e, tyN_dK (k _ _ n e)]
/-- the items of a list or a tuple -/
def its (H : Hp) : V → Option (List V)
  | .ref a => match H a with
    | some (.lst xs) => some xs
    | some (.tup xs) => some xs
    | _ => none
  | _ => none
theorem its_lst {H : Hp} {a : Addr} {xs : List V} (e : H a = some (.lst xs)) : its H (.ref a) = some xs := by
  show (match H a with | some (.lst xs) => some xs | some (.tup xs) => some xs | _ => none) = _
  rw [e]
theorem its_tup {H : Hp} {a : Addr} {xs : List V} (e : H a = some (.tup xs)) : its H (.ref a) = some xs := by
  show (match H a with | some (.lst xs) => some xs | some (.tup xs) => some xs | _ => none) = _
  rw [e]
theorem its_dK {H : Hp} {a : Addr} {kvs : List (Key × V)} (e : H a = some (.dK kvs)) : its H (.ref a) = none := by
  show (match H a with | some (.lst xs) => some xs | some (.tup xs) => some xs | _ => none) = _
  rw [e]
theorem its_ex {p : Addr} {H H' : Hp} (k : Kp p H H') {v : V} (h : Kd p H v) : its H' v = its H v := by
  cases h with
  | non => rfl
  | bl b => rfl
  | int i => rfl
  | str z => rfl
  | lst n e _ _ => rw [its_lst e, its_lst (k _ _ n e)]
  | tup n e _ _ => rw [its_tup e, its_tup (k _ _ n e)]
  | dK n e => rw [its_dK e, its_dK (k _ _ n e)]
theorem its_kd {p : Addr} {H : Hp} {v : V} {xs : List V} (h : Kd p H v) (e : its H v = some xs) : ∀ x, x ∈ xs → Kd p H x := by
  cases h with
  | non => cases e
  | bl b => cases e
  | int i => cases e
  | str z => cases e
  | lst n e' _ all => rw [its_lst e'] at e; cases e; exact all
  | tup n e' _ all => rw [its_tup e'] at e; cases e; exact all
  | dK n e' => rw [its_dK e'] at e; cases e

theorem kd_ty {K : PySem.W.Frag} {p : Addr} {H : Hp} {v : V} (h : Kd p H v) : TyX K H v (.type (tyN H v)) := by
  cases h with
  | non => exact .base .non
  | bl b => exact .base (.bl b)
  | int i => exact .base (.int i)
  | str z => exact .base (.str z)
  | lst n e _ _ => rw [tyN_lst e]; exact .base (.lst e)
  | tup n e _ _ => rw [tyN_tup e]; exact .base (.tup e)
  | dK n e => rw [tyN_dK e]; exact .base (.dK e)
def kinds : List String := ["NoneType", "bool", "int", "str", "list", "tuple", "dict"]
theorem kd_kind {p : Addr} {H : Hp} {v : V} (h : Kd p H v) : tyN H v ∈ kinds := by
  cases h with
  | non => show "NoneType" ∈ kinds; decide
  | bl b => show "bool" ∈ kinds; decide
  | int i => show "int" ∈ kinds; decide
  | str z => show "str" ∈ kinds; decide
  | lst n e _ _ => rw [tyN_lst e]; decide
  | tup n e _ _ => rw [tyN_tup e]; decide
  | dK n e => rw [tyN_dK e]; decide
/-- is of the type, by name: bool is below int -/
def isT (t c : String) : Bool := t == c || (t == "bool" && c == "int")
theorem kit_all : ∀ t ∈ kinds, ∀ c ∈ ["int", "bool", "str", "list", "tuple", "dict"], kitB t c = some (isT t c) := by decide +kernel
theorem isi_go {K : PySem.W.Frag} {p : Addr} {H : Hp} {v : V} {c : String} {Q : VK} (h : Kd p H v) (hc : c ∈ ["int", "bool", "str", "list", "tuple", "dict"]) (q : Q (.bl (isT (tyN H v) c)) H) : rIsi K [v, .ty c] H Q :=
  ⟨v, .ty c, _, _, _, rfl, .ty c, kd_ty h, kit_ty (kit_all _ (kd_kind h) c hc), q⟩
/-- isinstance(x, (c, d)) -/
theorem isi_go2 {K : PySem.W.Frag} {p t : Addr} {H : Hp} {v : V} {c d : String} {Q : VK} (h : Kd p H v) (ht : H t = some (.tup [.ty c, .ty d])) (hc : c ∈ ["int", "bool", "str", "list", "tuple", "dict"]) (hd : d ∈ ["int", "bool", "str", "list", "tuple", "dict"])
    (q : Q (.bl (isT (tyN H v) c || isT (tyN H v) d)) H) : rIsiT K [v, .ref t] H Q := by
  refine ⟨v, t, [.ty c, .ty d], _, [.type c, .type d], _, rfl, ht, .cons (.ty c) (.cons (.ty d) .nil), kd_ty h, ?_, q⟩
  refine kitAny_cons (kit_ty (kit_all _ (kd_kind h) c hc)) (fun e => ?_) fun e => by rw [e]; rfl
  rw [e, Bool.false_or]
  refine kitAny_cons (kit_ty (kit_all _ (kd_kind h) d hd)) (fun e2 => ?_) fun e2 => e2
  rw [e2]; exact kitAny_nil

/-- an integer that is no truth -/
def wh : V → Bool
  | .int _ => true
  | _ => false
theorem wh_ty {p : Addr} {H : Hp} {v : V} (h : Kd p H v) : wh v = (isT (tyN H v) "int" && !isT (tyN H v) "bool") := by
  cases h with
  | non => show false = (isT "NoneType" "int" && !isT "NoneType" "bool"); decide
  | bl b => show false = (isT "bool" "int" && !isT "bool" "bool"); decide
  | int i => show true = (isT "int" "int" && !isT "int" "bool"); decide
  | str z => show false = (isT "str" "int" && !isT "str" "bool"); decide
  | lst n e _ _ => rw [tyN_lst e]; show false = (isT "list" "int" && !isT "list" "bool"); decide
  | tup n e _ _ => rw [tyN_tup e]; show false = (isT "tuple" "int" && !isT "tuple" "bool"); decide
  | dK n e => rw [tyN_dK e]; show false = (isT "dict" "int" && !isT "dict" "bool"); decide
theorem wh_int {v : V} (h : wh v = true) : ∃ i, v = .int i := by
  cases v <;> first | (cases h; done) | exact ⟨_, rfl⟩
/-- a list or a tuple, by isinstance -/
theorem seq_ty {p : Addr} {H : Hp} {v : V} (h : Kd p H v) : (isT (tyN H v) "list" || isT (tyN H v) "tuple") = (its H v).isSome := by
  cases h with
  | non => show (isT "NoneType" "list" || isT "NoneType" "tuple") = false; decide
  | bl b => show (isT "bool" "list" || isT "bool" "tuple") = false; decide
  | int i => show (isT "int" "list" || isT "int" "tuple") = false; decide
  | str z => show (isT "str" "list" || isT "str" "tuple") = false; decide
  | lst n e _ _ => rw [tyN_lst e, its_lst e]; show _ = true; decide
  | tup n e _ _ => rw [tyN_tup e, its_tup e]; show _ = true; decide
  | dK n e => rw [tyN_dK e, its_dK e]; show _ = false; decide
theorem its_len {p : Addr} {H : Hp} {v : V} {xs : List V} (h : Kd p H v) (e : its H v = some xs) : xs.length ≤ 100000 := by
  cases h with
  | non => cases e
  | bl b => cases e
  | int i => cases e
  | str z => cases e
  | lst n e' z _ => rw [its_lst e'] at e; cases e; exact z
  | tup n e' z _ => rw [its_tup e'] at e; cases e; exact z
  | dK n e' => rw [its_dK e'] at e; cases e
/-- a list or a tuple, to walk it -/
theorem its_at {p : Addr} {H : Hp} {v : V} {xs : List V} (h : Kd p H v) (e : its H v = some xs) : ∃ a, v = .ref a ∧ a ≠ p ∧ (H a = some (.lst xs) ∨ H a = some (.tup xs)) := by
  cases h with
  | non => cases e
  | bl b => cases e
  | int i => cases e
  | str z => cases e
  | lst n e' _ _ => rw [its_lst e'] at e; cases e; exact ⟨_, rfl, n, .inl e'⟩
  | tup n e' _ _ => rw [its_tup e'] at e; cases e; exact ⟨_, rfl, n, .inr e'⟩
  | dK n e' => rw [its_dK e'] at e; cases e
/-- the readings of isinstance(x, C), isinstance(x, (C, D)), x a name -/
theorem rd_isi {K : PySem.W.Frag} {p : Addr} {σ : L2.St} {i : Nat} {H : Hp} {v : V} {c : String} {Q : VK} (hi : σ[i]? = some (some v)) (h : Kd p H v)
    (hc : c ∈ ["int", "bool", "str", "list", "tuple", "dict"]) (q : Q (.bl (isT (tyN H v) c)) H) : tCB (rIsi K) (tCons (tVar i) (tCons (tC (.ty c)) tNil)) σ H Q :=
  ⟨v, hi, isi_go h hc q⟩
theorem rd_isi2 {K : PySem.W.Frag} {p : Addr} {σ : L2.St} {i : Nat} {H : Hp} {v : V} {c d : String} {Q : VK} (hi : σ[i]? = some (some v)) (h : Kd p H v)
    (hc : c ∈ ["int", "bool", "str", "list", "tuple", "dict"]) (hd : d ∈ ["int", "bool", "str", "list", "tuple", "dict"])
    (q : ∀ H', Ex H H' → Q (.bl (isT (tyN H v) c || isT (tyN H v) d)) H') : tCB (rIsiT K) (tCons (tVar i) (tCons (tTup (tCons (tC (.ty c)) (tCons (tC (.ty d)) tNil))) tNil)) σ H Q := by
  refine ⟨v, hi, (show 2 ≤ sizeLine by decide), fun t ht => ?_⟩
  have e : Ex H (upd H t (.tup [.ty c, .ty d])) := Ex.nw ht
  refine isi_go2 (K := K) (h.ex e) upd_same hc hd ?_
  rw [tyN_ex (Ex.kp e) h]
  exact q _ e
/-! ### walking a list or a tuple -/
def iSeq (K : PySem.W.Frag) (tl tl' : TE) : TI := fun σ H R => iList K tl σ H R ∨ iTup K tl' σ H R
theorem pi_seq {X : Cx} {tg e : Expr} {tl tl' : TE} (h : PE X e tl) (h' : PE X e tl') : PI X tg e (iSeq X.K tl tl') :=
  ⟨fun pins s σ H R I q => q.elim ((pi_list h).run pins s σ H R I) ((pi_tup h').run pins s σ H R I)⟩

/-! ### the rack of a law's draws: [cells, turn, left] -/
structure Rk (H : Hp) (p c : Addr) (n : Nat) : Prop where
  ex : ∃ (ns : List Int) (t l : Int), H p = some (.lst [.ref c, .int t, .int l]) ∧ H c = some (.lst (ns.map V.int)) ∧ c ≠ p ∧ ns.length ≤ 63 ∧ 0 ≤ t ∧ t ≤ n ∧ 0 ≤ l
theorem Rk.kp {H H' : Hp} {p c : Addr} {n : Nat} (r : Rk H p c n) (e : Ex H H') : Rk H' p c n := by
  obtain ⟨ns, t, l, h1, h2, h3⟩ := r.ex
  exact ⟨⟨ns, t, l, e _ _ h1, e _ _ h2, h3⟩⟩
theorem Rk.ne {H : Hp} {p c q : Addr} {n : Nat} (r : Rk H p c n) (h : H q = none) : q ≠ p := by
  obtain ⟨ns, t, l, h1, h2, h3⟩ := r.ex
  intro e; subst e; rw [h1] at h; cases h
theorem Rk.nc {H : Hp} {p c q : Addr} {n : Nat} (r : Rk H p c n) (h : H q = none) : q ≠ c := by
  obtain ⟨ns, t, l, h1, h2, h3⟩ := r.ex
  intro e; subst e; rw [h2] at h; cases h
/-- another object changes -/
theorem Rk.up {H : Hp} {p c q : Addr} {n : Nat} {o : HO} (r : Rk H p c n) (hp : q ≠ p) (hc : q ≠ c) : Rk (upd H q o) p c n := by
  obtain ⟨ns, t, l, h1, h2, h3⟩ := r.ex
  exact ⟨⟨ns, t, l, by rw [upd_ne hp.symm]; exact h1, by rw [upd_ne hc.symm]; exact h2, h3⟩⟩
theorem Rk.more {H : Hp} {p c : Addr} {m n : Nat} (r : Rk H p c n) (h : n ≤ m) : Rk H p c m := by
  obtain ⟨ns, t, l, h1, h2, h3, h4, h5, h6, h7⟩ := r.ex
  exact ⟨⟨ns, t, l, h1, h2, h3, h4, h5, by omega, h7⟩⟩
/-- a draw: an int from 0 on below many -/
def spDraw : Sp := fun vs H Q _ => ∃ (p c : Addr) (many : Int) (n : Nat), vs = [.ref p, .int many] ∧ Rk H p c n ∧ n < 100000 ∧ 0 < many ∧ many < 1073741824 ∧
  ∀ (r : Int) (H' : Hp), 0 ≤ r → r < many → Rk H' p c (n + 1) → Kp p H H' → Q (.int r) H'
/-- a draw from a list, or a sign from a text -/
def spPick : Sp := fun vs H Q _ => ∃ (p c : Addr) (x : V) (n : Nat), vs = [.ref p, x] ∧ Rk H p c n ∧ n < 100000 ∧
  ((∃ a xs, x = .ref a ∧ a ≠ p ∧ H a = some (.lst xs) ∧ xs ≠ [] ∧ xs.length < 1000000 ∧ ∀ (v : V) (H' : Hp), v ∈ xs → Rk H' p c (n + 1) → Kp p H H' → Q v H') ∨
   (∃ z : Str, x = .str z ∧ 0 < z.length ∧ z.length < 1000000 ∧ ∀ (s : Nat) (H' : Hp), s ∈ z.cps.toList → Rk H' p c (n + 1) → Kp p H H' → Q (.str ⟨#[s]⟩) H'))
/-- the rack is made -/
def spRack (K : PySem.W.Frag) : Sp := fun vs H Q _ => ∃ (a : Addr) (ns : List Int), vs = [.ref a] ∧ SqL K H a (ns.map V.int) ∧ ns.length ≤ 63 ∧
  ∀ (p c : Addr) (H' : Hp), H p = none → Rk H' p c 0 → Ex H H' → Q (.ref p) H'
end GL
/-! Lists of ints and of truths as data: ==, repr. -/
namespace GL
open PySem PySem.Spec PyProof.Rows L2
section
variable {K : PySem.W.Frag} {H : Hp}
theorem dp_ints : ∀ ns : List Int, DpAll K H (ns.map V.int) (ns.map PyData.int)
  | [] => .nil
  | n :: r => .cons (.int n) (dp_ints r)
theorem dp_bools : ∀ bs : List Bool, DpAll K H (bs.map V.bl) (bs.map PyData.bool)
  | [] => .nil
  | b :: r => .cons (.bl b) (dp_bools r)
theorem lay_ints : ∀ ns : List Int, PyData.canLayAll0 (ns.map PyData.int) = true ∧ PyData.depthAll (ns.map PyData.int) = 0
  | [] => ⟨rfl, rfl⟩
  | n :: r => by
    obtain ⟨h1, h2⟩ := lay_ints r
    refine ⟨?_, ?_⟩
    · simp only [List.map_cons, PyData.canLayAll0, PyData.canLay0, h1]; rfl
    · simp only [List.map_cons, PyData.depthAll, PyData.depth, h2]; rfl
theorem shaped_ints (ns : List Int) : SeqAt.shaped (.list (ns.map PyData.int)) = true := by
  obtain ⟨h1, h2⟩ := lay_ints ns
  show (PyData.canLay0 (.list _) && decide (PyData.depth (.list _) ≤ 64)) = true
  simp only [PyData.canLay0, PyData.depth, h1, h2]; decide
theorem eqv_ints : ∀ ns ms : List Int, PyData.eqvAll (ns.map PyData.int) (ms.map PyData.int) = decide (ns = ms)
  | [], [] => rfl
  | [], m :: ms => by simp [PyData.eqvAll]
  | n :: ns, [] => by simp [PyData.eqvAll]
  | n :: ns, m :: ms => by
    have ih := eqv_ints ns ms
    simp only [List.map_cons, PyData.eqvAll, PyData.eqv, ih]
    by_cases h : n = m <;> by_cases h' : ns = ms <;> simp [h, h']
theorem eqv_nil : ∀ d : List PyData, PyData.eqvAll d [] = d.isEmpty
  | [] => rfl
  | _ :: _ => rfl
/-! ### repr of truths -/
def bText (bs : List Bool) : Str := PyData.shown (.list (bs.map PyData.bool))
theorem bools_show : ∀ bs : List Bool, PyData.showableAll (bs.map PyData.bool) = true ∧ PyData.hasDictAll (bs.map PyData.bool) = false ∧ PyData.depthAll (bs.map PyData.bool) = 0 ∧
    ((PyData.shownAll (bs.map PyData.bool)).map (·.length)).sum ≤ 5 * bs.length ∧ (PyData.shownAll (bs.map PyData.bool)).length = bs.length
  | [] => ⟨rfl, rfl, rfl, Nat.le_refl _, rfl⟩
  | b :: r => by
    obtain ⟨h1, h2, h3, h4, h5⟩ := bools_show r
    have hb : (PyData.shown (.bool b)).length ≤ 5 := by cases b <;> (simp only [PyData.shown]; decide)
    refine ⟨?_, ?_, ?_, ?_, ?_⟩
    · simp only [List.map_cons, PyData.showableAll, PyData.showable, h1]; rfl
    · simp only [List.map_cons, PyData.hasDictAll, PyData.hasDict, h2]; rfl
    · simp only [List.map_cons, PyData.depthAll, PyData.depth, h3]; rfl
    · simp only [List.map_cons, PyData.shownAll, List.sum_cons, List.length_cons]; omega
    · simp only [List.map_cons, PyData.shownAll, List.length_cons, h5]
theorem repr_bools {a : Addr} {bs : List Bool} {Q : VK} (h : H a = some (.lst (bs.map V.bl))) (hl : bs.length ≤ 1000) (q : Q (.str (bText bs)) H) : rRepr K [.ref a] H Q := by
  obtain ⟨h1, h2, h3, h4, h5⟩ := bools_show bs
  refine ⟨.ref a, .list (bs.map PyData.bool), rfl, .lst (SqL.of h) (dp_bools bs), by simpa only [PyData.showable] using h1, by simpa only [PyData.hasDict] using h2, ?_, ?_, q⟩
  · simp only [PyData.depth, h3]; decide
  · have := listText_len_le (PyData.shownAll (bs.map PyData.bool))
    have e : (1000 * 7 + 3 : Nat) ≤ sizeLine := by decide
    show (PyData.shown (.list (bs.map PyData.bool))).length ≤ sizeLine
    simp only [PyData.shown]
    omega
end
end GL
namespace GL
theorem mix_small {m t a b c : Int} (m0 : 0 ≤ m) (m1 : m < 2147483648) (t0 : 0 ≤ t) (t1 : t ≤ 100000) (a0 : 0 ≤ a) (a1 : a ≤ 100000) (b0 : 0 ≤ b) (b1 : b ≤ 100000) (c0 : 0 ≤ c) (c1 : c ≤ 100000) :
    (m * (2 * t + a) + b * t * t + c).natAbs < 2 ^ 64 := by
  have h1 : 0 ≤ m * (2 * t + a) := Int.mul_nonneg m0 (by omega)
  have h2 : m * (2 * t + a) ≤ 2147483648 * 300000 := Int.mul_le_mul (by omega) (by omega) (by omega) (by omega)
  have h3 : 0 ≤ b * t := Int.mul_nonneg b0 t0
  have h4 : b * t ≤ 100000 * 100000 := Int.mul_le_mul b1 t1 t0 (by omega)
  have h5 : 0 ≤ b * t * t := Int.mul_nonneg h3 t0
  have h6 : b * t * t ≤ 10000000000 * 100000 := Int.mul_le_mul (by omega) t1 t0 (by omega)
  omega
end GL
namespace GL
open PySem PySem.Spec PyProof.Rows L2
theorem take_step {α : Type} {l : List α} {i : Nat} {x : α} (h : l[i]? = some x) : l.take (i + 1) = l.take i ++ [x] := by
  rw [List.take_add_one, h]; rfl
theorem map_get {α β : Type} {f : α → β} {l : List α} {i : Nat} {y : β} (h : (l.map f)[i]? = some y) : ∃ x, l[i]? = some x ∧ f x = y := by
  rw [List.getElem?_map] at h
  cases e : l[i]? with
  | none => rw [e] at h; cases h
  | some x => rw [e] at h; exact ⟨x, rfl, Option.some.inj h⟩
theorem lt_of_get {α : Type} {l : List α} {i : Nat} {x : α} (h : l[i]? = some x) : i < l.length := (List.getElem?_eq_some_iff.mp h).1
theorem cut_ints (ns : List Int) (lo hi : Option Int) : ∃ ms : List Int, cutV (ns.map V.int) lo hi = ms.map V.int ∧ ms.length ≤ ns.length ∧ (∀ x, x ∈ ms → x ∈ ns) := by
  refine ⟨(ns.drop (HT.sIx ns.length 0 lo)).take (HT.sIx ns.length ns.length hi - HT.sIx ns.length 0 lo), ?_, ?_, fun x hx => List.mem_of_mem_drop (List.mem_of_mem_take hx)⟩
  · unfold cutV
    rw [List.length_map, List.map_take, List.map_drop]
  · rw [List.length_take, List.length_drop]; omega
theorem sz_ok {n : Nat} (h : n ≤ 1000000) : n < sizeLine := Nat.lt_of_le_of_lt h (by decide)
theorem sz_le {n : Nat} (h : n ≤ 1000000) : n ≤ sizeLine := Nat.le_of_lt (sz_ok h)
end GL
namespace GL
open PySem PySem.Spec PyProof.Rows L2
theorem Kd.l0 {p a : Addr} {H : Hp} (n : a ≠ p) (e : H a = some (.lst [])) : Kd p H (.ref a) := .lst n e (Nat.zero_le _) (fun x h => by cases h)
theorem Kd.t0 {p a : Addr} {H : Hp} (n : a ≠ p) (e : H a = some (.tup [])) : Kd p H (.ref a) := .tup n e (Nat.zero_le _) (fun x h => by cases h)
theorem Kd.l1 {p a : Addr} {H : Hp} {x : V} (n : a ≠ p) (e : H a = some (.lst [x])) (h : Kd p H x) : Kd p H (.ref a) := .lst n e (show 1 ≤ 100000 by decide) (fun y hy => by rw [List.mem_singleton.mp hy]; exact h)
theorem Kd.t1 {p a : Addr} {H : Hp} {x : V} (n : a ≠ p) (e : H a = some (.tup [x])) (h : Kd p H x) : Kd p H (.ref a) := .tup n e (show 1 ≤ 100000 by decide) (fun y hy => by rw [List.mem_singleton.mp hy]; exact h)
theorem Kd.t2 {p a : Addr} {H : Hp} {x y : V} (n : a ≠ p) (e : H a = some (.tup [x, y])) (h : Kd p H x) (h' : Kd p H y) : Kd p H (.ref a) := .tup n e (show 2 ≤ 100000 by decide) (fun z hz => by
  rcases List.mem_cons.mp hz with rfl | hz
  · exact h
  · rw [List.mem_singleton.mp hz]; exact h')
/-- texts among data are short -/
abbrev Sh (v : V) : Prop := ∀ z : Str, v = .str z → z.length ≤ 100000
end GL
namespace GL
open PySem PySem.Spec PyProof.Rows L2
/-- repr(x): a list of truths, or any data -/
def rReprX (K : PySem.W.Frag) : List V → Hp → VK → Prop := fun xs H Q => (∃ (a : Addr) (bs : List Bool), xs = [.ref a] ∧ H a = some (.lst (bs.map V.bl)) ∧ bs.length ≤ 1000 ∧ Q (.str (bText bs)) H) ∨ rRepr K xs H Q
theorem call_reprX {X : Cx} (gd : X.A.guards = some []) {j : Nat} (rm : Room j X.A) : CallR X (.builtin "repr") (rReprX X.K) := by
  intro pins s σ H xs us Q I r h
  refine call_repr gd rm pins s σ H xs us Q I r ?_
  rcases h with ⟨a, bs, rfl, h1, h2, q⟩ | h
  · exact repr_bools h1 h2 q
  · exact h
end GL
namespace GL
open PySem PySem.Spec PyProof.Rows L2
/-- None, a truth, an int -/
def Fl : V → Bool
  | .non => true
  | .bl _ => true
  | .int _ => true
  | _ => false
theorem dp_flat {K : PySem.W.Frag} {H : Hp} : ∀ xs : List V, xs.all Fl = true → ∃ ds, DpAll K H xs ds ∧ PyData.canLayAll0 ds = true ∧ PyData.depthAll ds = 0 ∧ ds.isEmpty = xs.isEmpty
  | [], _ => ⟨[], .nil, rfl, rfl, rfl⟩
  | x :: r, h => by
    rw [List.all_cons, Bool.and_eq_true] at h
    obtain ⟨ds, h1, h2, h3, h4⟩ := dp_flat (K := K) (H := H) r h.2
    cases x with
    | non => exact ⟨.none :: ds, .cons .non h1, by simp only [PyData.canLayAll0, PyData.canLay0, h2]; rfl, by simp only [PyData.depthAll, PyData.depth, h3]; rfl, rfl⟩
    | bl b => exact ⟨.bool b :: ds, .cons (.bl b) h1, by simp only [PyData.canLayAll0, PyData.canLay0, h2]; rfl, by simp only [PyData.depthAll, PyData.depth, h3]; rfl, rfl⟩
    | int i => exact ⟨.int i :: ds, .cons (.int i) h1, by simp only [PyData.canLayAll0, PyData.canLay0, h2]; rfl, by simp only [PyData.depthAll, PyData.depth, h3]; rfl, rfl⟩
    | str z => cases h.1
    | byt b => cases h.1
    | flt b => cases h.1
    | ref a => cases h.1
    | ty n => cases h.1
/-- [..] == [], the items flat -/
theorem eq_nil {K : PySem.W.Frag} {H : Hp} {a b : Addr} {xs : List V} {Q : VK} (ha : H a = some (.lst xs)) (hb : H b = some (.lst [])) (hx : xs.all Fl = true) (q : Q (.bl xs.isEmpty) H) : rEqD K (.ref a) (.ref b) H Q := by
  obtain ⟨ds, h1, h2, h3, h4⟩ := dp_flat (K := K) (H := H) xs hx
  refine ⟨.list ds, .list [], .lst (SqL.of ha) h1, .lst (SqL.of hb) .nil, ?_, rfl, ?_⟩
  · show (PyData.canLay0 (.list _) && decide (PyData.depth (.list _) ≤ 64)) = true
    simp only [PyData.canLay0, PyData.depth, h2, h3]; decide
  · show Q (.bl (PyData.eqv (.list ds) (.list []))) H
    have : PyData.eqv (.list ds) (.list []) = xs.isEmpty := by simp only [PyData.eqv]; rw [eqv_nil, h4]
    rw [this]; exact q
end GL
namespace GL
open PySem PySem.Spec PyProof.Rows L2
/-- ==: a list and the empty list, whatever the items; or data -/
def rEqX (K : PySem.W.Frag) : R2 := fun x y H Q => (∃ (a b : Addr) (xs : List V), x = .ref a ∧ y = .ref b ∧ H a = some (.lst xs) ∧ H b = some (.lst []) ∧ Q (.bl xs.isEmpty) H) ∨ rEqD K x y H Q
theorem op_eqX {X : Cx} (hu : X.A.units + 64 < cLine) : OpR X (compareOp .Eq) (rEqX X.K) := by
  intro pins s σ H x y v u Q I rx ry h
  rcases h with ⟨a, b, xs, rfl, rfl, ha, hb, q⟩ | h
  · cases xs with
    | nil => exact op_eqD hu pins s σ H _ _ v u Q I rx ry ⟨.list [], .list [], .lst (SqL.of ha) .nil, .lst (SqL.of hb) .nil, rfl, rfl, q⟩
    | cons z r =>
      cases rx
      cases ry
      obtain ⟨is, r1, ⟨o1, m1, ho1, hc1, _, hd1⟩, _⟩ := I.list (SqL.of ha)
      obtain ⟨js, r2, ⟨o2, m2, ho2, hc2, _, hd2⟩, _⟩ := I.list (SqL.of hb)
      refine SeqAt.eq_list_lengthsAt ⟨o1, ho1, hc1, m1, hd1⟩ ⟨o2, ho2, hc2, m2, hd2⟩ ?_ (by omega) ⟨.bl _, H, I, rfl, q⟩
      have l1 := r1.length
      have l2 := r2.length
      simp only [List.length_cons, List.length_nil] at l1 l2
      simp only [bne_iff_ne, ne_eq, List.size_toArray]
      omega
  · exact op_eqD hu pins s σ H x y v u Q I rx ry h
end GL
/-! Loops and comprehensions over what is known: a source gives the values xs while all but p stays. -/
namespace GL
open PySem PySem.Spec PyProof.Rows L2
def Src (p : Addr) (wi : TI) (σ : L2.St) (H : Hp) (xs : List V) : Prop :=
  ∀ R : It → Hp → Prop, (∀ (J : It) (H1 : Hp), Ex H H1 → Walk J xs.length (fun H2 => Kp p H1 H2) (YAt xs) → R J H1) → wi σ H R
section
variable {K : PySem.W.Frag} {p : Addr} {σ : L2.St} {H : Hp} {xs : List V} {te tl tl' : TE}
theorem Src.list (h : ∀ Q : VK, (∀ a H1, Ex H H1 → a ≠ p → H1 a = some (.lst xs) → Q (.ref a) H1) → te σ H Q) : Src p (iList K te) σ H xs := fun R q =>
  h _ fun a H1 e n ha => ⟨a, rfl, ⟨xs, SqL.of ha⟩, q _ H1 e (walk_list.mono (fun H2 k => SqL.of (k _ _ n ha)) fun _ _ _ _ _ _ y => y)⟩
theorem Src.tup (h : ∀ Q : VK, (∀ a H1, Ex H H1 → a ≠ p → H1 a = some (.tup xs) → Q (.ref a) H1) → te σ H Q) : Src p (iTup K te) σ H xs := fun R q =>
  h _ fun a H1 e n ha => ⟨a, rfl, ⟨xs, SqT.of ha⟩, q _ H1 e (walk_tup.mono (fun H2 k => SqT.of (k _ _ n ha)) fun _ _ _ _ _ _ y => y)⟩
theorem Src.nameL {i : Nat} {a : Addr} (hi : σ[i]? = some (some (.ref a))) (n : a ≠ p) (ha : H a = some (.lst xs)) : Src p (iList K (tVar i)) σ H xs :=
  .list fun Q q => ⟨_, hi, q a H (Ex.rfl' H) n ha⟩
theorem Src.nameT {i : Nat} {a : Addr} (hi : σ[i]? = some (some (.ref a))) (n : a ≠ p) (ha : H a = some (.tup xs)) : Src p (iTup K (tVar i)) σ H xs :=
  .tup fun Q q => ⟨_, hi, q a H (Ex.rfl' H) n ha⟩
/-- a name that holds a list or a tuple -/
theorem Src.nameS {i : Nat} {v : V} (hi : σ[i]? = some (some v)) (h : Kd p H v) (e : its H v = some xs) : Src p (iSeq K (tVar i) (tVar i)) σ H xs := fun R q => by
  obtain ⟨a, rfl, n, ha | ha⟩ := its_at h e
  · exact .inl (Src.nameL hi n ha R q)
  · exact .inr (Src.nameT hi n ha R q)
theorem Src.str {z : Str} (h : ∀ Q : VK, (∀ H1, Ex H H1 → Q (.str z) H1) → te σ H Q) : Src p (iStr te) σ H (z.cps.toList.map fun c => V.str ⟨#[c]⟩) := fun R q =>
  h _ fun H1 e => ⟨z, rfl, q _ H1 e (by
    rw [List.length_map, Array.length_toList]
    refine walk_str.mono (fun _ _ => trivial) fun i H x H' hi _ y => ⟨y.1, ?_⟩
    obtain ⟨c, hc, rfl⟩ := y.2
    rw [List.getElem?_map, Array.getElem?_toList, hc]; rfl)⟩
/-- 0, 1, .. below n -/
def ups (n : Int) : List V := (List.range n.toNat).map fun (i : Nat) => V.int (i : Int)
theorem ups_len (n : Int) : (ups n).length = n.toNat := by unfold ups; rw [List.length_map, List.length_range]
theorem ups_get {n : Int} {i : Nat} (h : i < n.toNat) : (ups n)[i]? = some (.int (i : Int)) := by
  unfold ups; rw [List.getElem?_map, List.getElem?_range h]; rfl
theorem Src.range {ta : TA} {n : Int} (hn : -1000000 ≤ n ∧ n ≤ 1000000) (h : ∀ Q : List V → Hp → Prop, (∀ H1, Ex H H1 → Q [.int n] H1) → ta σ H Q) : Src p (iRng1 ta) σ H (ups n) := fun R q =>
  h _ fun H1 e => ⟨n, rfl, by omega, by omega, q _ H1 e (by
    rw [ups_len]
    refine walk_range.mono (fun _ _ => trivial) fun i H x H' hi _ y => ⟨y.1, ?_⟩
    rw [ups_get hi, y.2]
    show some (V.int (i : Int)) = some (V.int (0 + (i : Int)))
    rw [Int.zero_add])⟩

/-- a comprehension whose parts change nothing: what is left of xs, each by f -/
theorem lc_pure {wi : TI} {tt : TT} {j : Nat} {Q : VK} (src : Src p wi σ H xs) (hz : xs.length ≤ 500000) (pd : V → Bool) (f : V → V)
    (ht : ∀ x, x ∈ xs → ∀ H1, Ex H H1 → ∀ Q1 : Bool → Hp → Prop, (∀ H2, Ex H1 H2 → Q1 (pd x) H2) → tt ((σ.set j none).set j (some x)) H1 Q1)
    (he : ∀ x, x ∈ xs → pd x = true → ∀ H1, Ex H H1 → ∀ Q1 : VK, (∀ H2, Ex H1 H2 → Q1 (f x) H2) → te ((σ.set j none).set j (some x)) H1 Q1)
    (q : ∀ D H2, H D = none → H2 D = some (.lst ((xs.filter pd).map f)) → Ex H H2 → Q (.ref D) H2) : tLc wi (gName j) tt te [j] σ H Q := by
  refine src _ fun J H1 e1 w D hD => ?_
  refine lc_it w (fun i H2 => H2 D = some (.lst (((xs.take i).filter pd).map f)) ∧ Ex H1 H2) ⟨upd_same, Ex.nw hD⟩ (fun i H2 _ g => Ex.kp g.2) ?_ fun H2 g => ?_
  · rintro i x H2 H3 hi ⟨g1, g2⟩ ⟨rfl, hx⟩
    have hm : x ∈ xs := List.mem_of_getElem? hx
    refine ⟨?_, ?_⟩
    · show ((σ.set j none).set j (some x)).set j none = σ.set j none
      rw [List.set_set, List.set_set]
    · refine ht x hm H3 (e1.tr g2) _ fun H4 e4 => ?_
      have g4 := e4 _ _ g1
      cases hp : pd x with
      | true =>
        refine iteT ?_
        refine he x hm hp H4 ((e1.tr g2).tr e4) _ fun H5 e5 => ⟨_, e5 _ _ g4, ?_, ?_, ((g2.tr e4).tr e5).up hD⟩
        · rw [List.length_map]
          have := List.length_filter_le pd (xs.take i)
          rw [List.length_take] at this
          exact sz_ok (by omega)
        · rw [take_step hx, List.filter_append, List.map_append, List.filter_cons_of_pos hp]
          exact upd_same
      | false =>
        refine iteF ⟨?_, g2.tr e4⟩
        rw [take_step hx, List.filter_append, List.filter_cons_of_neg (by rw [hp]; decide)]
        simpa using g4
  · have g1 := g.1
    rw [List.take_length] at g1
    exact q D H2 (e1.no hD) g1 (e1.tr g.2)
theorem yes_pd {x : V} {τ : L2.St} {H1 : Hp} {Q1 : Bool → Hp → Prop} (h : ∀ H2, Ex H1 H2 → Q1 ((fun _ : V => true) x) H2) : tYes τ H1 Q1 := h H1 (Ex.rfl' H1)
/-- without a test -/
theorem lc_map {wi : TI} {j : Nat} {Q : VK} (src : Src p wi σ H xs) (hz : xs.length ≤ 500000) (f : V → V)
    (he : ∀ x, x ∈ xs → ∀ H1, Ex H H1 → ∀ Q1 : VK, (∀ H2, Ex H1 H2 → Q1 (f x) H2) → te ((σ.set j none).set j (some x)) H1 Q1)
    (q : ∀ D H2, H D = none → H2 D = some (.lst (xs.map f)) → Ex H H2 → Q (.ref D) H2) : tLc wi (gName j) tYes te [j] σ H Q :=
  lc_pure src hz (fun _ => true) f (fun x _ H1 _ Q1 h => h H1 (Ex.rfl' H1)) (fun x hx _ => he x hx) fun D H2 n g e => q D H2 n (by rw [List.filter_eq_self.mpr (fun _ _ => rfl)] at g; exact g) e
/-- a loop over a source: Pv by the heap ahead, the turn, the slots, the heap -/
theorem for_src {wi : TI} {j : Nat} {tb : TS} {D : Ends} (src : Src p wi σ H xs) (Pv : Hp → Nat → L2.St → Hp → Prop) (h0 : ∀ H1, Ex H H1 → Pv H1 0 σ H1)
    (hk : ∀ H1 i σ' H2, Pv H1 i σ' H2 → Kp p H1 H2)
    (hs : ∀ H1 i x σ' H2, Ex H H1 → xs[i]? = some x → Pv H1 i σ' H2 → tb { D with nx := Pv H1 (i + 1), ct := Pv H1 (i + 1), bk := D.nx } (σ'.set j (some x)) H2)
    (hd : ∀ H1 σ' H2, Ex H H1 → Pv H1 xs.length σ' H2 → D.nx σ' H2) : tFor wi (gName j) tb D σ H :=
  src _ fun J H1 e1 w => for_it w (Pv H1) (h0 H1 e1) (fun i σ' H2 _ g => hk H1 i σ' H2 g) (fun i x σ' H2 H3 hi g y => by
    obtain ⟨rfl, hx⟩ := y
    exact hs H1 i x σ' H3 e1 hx g) fun σ' H2 g => hd H1 σ' H2 e1 g
end
end GL
namespace GL
open PySem PySem.Spec PyProof.Rows L2
/-- a value, the heap as it is -/
abbrev Va (te : TE) (σ : L2.St) (H : Hp) (v : V) : Prop := ∀ Q : VK, Q v H → te σ H Q
theorem va_var {i : Nat} {σ : L2.St} {H : Hp} {v : V} (h : σ[i]? = some (some v)) : Va (tVar i) σ H v := fun _ q => ⟨v, h, q⟩
theorem va_c {σ : L2.St} {H : Hp} {v : V} : Va (tC v) σ H v := fun _ q => q
theorem va_chain {p q : Int → Int → Bool} {ta tb tc : TE} {σ : L2.St} {H : Hp} {a b c : Int} (ha : Va ta σ H (.int a)) (hb : Va tb σ H (.int b)) (hc : Va tc σ H (.int c)) :
    Va (tChain (rI0 fun i j => .bl (p i j)) (rI0 fun i j => .bl (q i j)) ta tb tc) σ H (.bl (p a b && q b c)) := fun Q k =>
  ha _ (hb _ ⟨a, b, rfl, rfl, p a b, rfl, by
    cases e : p a b with
    | true => rw [e, Bool.true_and] at k; exact iteT (hc _ ⟨b, c, rfl, rfl, k⟩)
    | false => rw [e, Bool.false_and] at k; exact iteF k⟩)
end GL
/-! Own exceptions made by keywords. -/
namespace GL
open PySem PySem.W PySem.HandSPX
section
variable {prog : Program} {w : World} {M : Model} {A : Around} {E : Value → Shared → Prop} {R : Result → Shared → Prop} {h : Heap} {g : Array GenState} {d : Drawn} {t : Nat} {os : OsState}
variable {nm q : Str} {C N : Addr} {bs bm bmB : List Value} {hdct : Bool} {sn : List Str} {sub : List Value} {ab : Bool} {col : Option Bool} {dd : Option Addr} {k0 k1 k2 k3 k5 : Option Value} {B newId initId : String} {kw : List (Str × Value)} {rest : List Value}
theorem chk_newK (F : ExcBaseFacts B newId initId bmB) (hT : ∀ Y : String, bm.contains (.type Y) = bmB.contains (.type Y)) {Q : Unit → Shared → Prop}
    (hC : h.get? C = some (excClassObj nm q C N bs bm hdct sn sub ab col dd k0 k1 k2 k3 k5 newId)) (z : Q () ⟨h, g, d, t, os⟩) : wpAny M A (checkBuiltinCall newId ⟨.ref C :: rest, kw⟩) Q E ⟨h, g, d, t, os⟩ := by
  have hB : (Value.ref C :: bm).contains (.type B) = true := by
    rw [List.contains_cons, hT, F.hasB]; exact Bool.or_true _
  have st := F.noStar
  simp only [checkBuiltinCall, F.newSplit, F.newKind, F.newRow]
  repeat (first | (refine wpAny_isSubtype_exc hC ?_; rw [hB]) | refine wpAny_madeBy_exc hC ?_ | refine wpAny_staticBase_exc hC ?_ | refine wpAny_loadPart_at hC ?_ | simp only [bne_self_eq_false, Bool.false_eq_true, if_false] | wp_step)
  exact z
theorem run_newK (F : ExcBaseFacts B newId initId bmB) (hT : ∀ Y : String, bm.contains (.type Y) = bmB.contains (.type Y))
    (hC : h.get? C = some (excClassObj nm q C N bs bm hdct sn sub ab col dd k0 k1 k2 k3 k5 newId)) (hl : rest.length ≤ sizeLine)
    (z : R (.ok (.ret (.ref (h.objs.size + 1)))) ⟨(h.push (kdv_tup rest)).push (excO C h.objs.size), g, d, t, os⟩) :
    codeAny (model prog w) A (.builtin newId ⟨.ref C :: rest, kw⟩) R ⟨h, g, d, t, os⟩ := by
  have en := F.ends
  have cB : (Value.ref C :: bm).contains (.type B) = true := by
    rw [List.contains_cons, hT, F.hasB]; exact Bool.or_true _
  have cA : (Value.ref C :: bm).contains (.type "AttributeError") = false := by
    rw [List.contains_cons, hT, F.noAttr]; rfl
  have cN : (Value.ref C :: bm).contains (.type "NameError") = false := by
    rw [List.contains_cons, hT, F.noName]; rfl
  refine codeAny_builtinAt F.entry ?_
  unfold Builtin.«BaseException.__new__»
  refine wpAt_bind ?_
  show wpAt _ _ _ (stack >>= _) _ _ _
  refine wpAt_bind (wpAt_stack fun p below => wpAt_of_wpAny ?_)
  wp_walk
  refine wpAt_of_wpAny ?_
  rw [F.owner]
  repeat (first | with_reducible refine wpAny_loadPart_at hC ?_ | with_reducible refine wpAny_madeHere_exc F.canon hC ?_ | (with_reducible refine wpAny_isSubtype_exc hC ?_; first | rw [cA] | rw [cB] | rw [cN]) | wp_step)
  show R _ _
  rw [Heap.size_push]
  exact z
theorem tcall_ownK (F : ExcBaseFacts B newId initId bmB) (hT : ∀ Y : String, bm.contains (.type Y) = bmB.contains (.type Y)) {fI : Addr} {Q : Fin → Shared → Prop}
    (hC : h.get? C = some (excClassObj nm q C N bs bm hdct sn sub ab col dd k0 k1 k2 k3 k5 newId))
    (hi : W.Looks (model prog w) h (typeLookup (.ref C) "__init__") (some (.ref fI))) (hb : ∀ self, W.Looks (model prog w) h (bindSpecial (.ref fI) self) (.ref fI, [self])) (hl : rest.length ≤ sizeLine)
    (z : codeAny (model prog w) A (.call (.ref fI) ⟨.ref (h.objs.size + 1) :: rest, kw⟩)
      (fun r s' => match r with | .ok (.ret v) => v = .none ∧ Q (.done (.ret (.ref (h.objs.size + 1)))) s' | .ok _ => False | .error e => E e s')
      ⟨(h.push (kdv_tup rest)).push (excO C h.objs.size), g, d, t, os⟩) :
    wpAny (model prog w) A (Builtin.«type.__call__» ⟨.ref C :: rest, kw⟩) Q E ⟨h, g, d, t, os⟩ := by
  repeat (first | with_reducible refine wpAny_madeBy_exc hC ?_ | with_reducible refine wpAny_loadPart_at hC ?_ | wp_step)
  refine codeAny_call_builtin_code (Code.quiet_builtin _ F.quiet) (chk_newK F hT hC ?_)
  refine run_newK F hT hC hl ?_
  show wpAny _ _ _ _ _ _
  have k : ∀ b o, h.get? b = some o → ((h.push (kdv_tup rest)).push (excO C h.objs.size)).get? b = some o := fun b o e => Heap.get?_push_of_some _ (Heap.get?_push_of_some _ e)
  have hC1 := k _ _ hC
  have hg : ((h.push (kdv_tup rest)).push (excO C h.objs.size)).get? (h.objs.size + 1) = some (excO C h.objs.size) := by heap_get
  have cC : (Value.ref C :: bm).contains (.ref C) = true := by simp
  have i1 := hi.keeps k
  have b1 := (hb (.ref (h.objs.size + 1))).keeps k
  unfold isInstance
  repeat (first | (with_reducible refine wpAny_isSubtype_exc hC1 ?_; rw [cC]) | with_reducible refine wpAny_loadPart_at hg ?_ | wp_step)
  show wpAny _ _ (typeLookup (.ref C) _) _ _ _
  refine i1.at ?_
  refine wpAny_holding (wpAny_bind (b1.at ?_))
  refine wpAny_bind (wpAny_call (codeAny_mono z fun r s' y => ?_))
  rcases r with e | (v | _ | _ | _) <;> first | exact y.elim | exact y | skip
  obtain ⟨rfl, y⟩ := y
  first
    | exact wpAny_pure (wpAny_pure y)
    | (wp_walk; exact y)
theorem chk_tcK {Q : Unit → Shared → Prop} (hC : h.get? C = some (excClassObj nm q C N bs bm hdct sn sub ab col dd k0 k1 k2 k3 k5 newId))
    (z : Q () ⟨h, g, d, t, os⟩) : wpAny M A (checkBuiltinCall "type.__call__" ⟨.ref C :: rest, kw⟩) Q E ⟨h, g, d, t, os⟩ := by
  have f3 := tc_sub
  have ty : (⟨h, g, d, t, os⟩ : Shared).TypeIs (.ref C) "type" := ⟨_, hC, rfl⟩
  simp only [checkBuiltinCall, tc_split, tc_kind]
  repeat (any_goals (first | assumption | with_reducible refine wpAny_map ?_ | with_reducible refine wpAny_loadPart_at hC ?_ | with_reducible refine wpAny_onRaise ?_ | wp_step))
theorem call_ownK (F : ExcBaseFacts B newId initId bmB) (hT : ∀ Y : String, bm.contains (.type Y) = bmB.contains (.type Y)) {fI : Addr}
    (hC : h.get? C = some (excClassObj nm q C N bs bm hdct sn sub ab col dd k0 k1 k2 k3 k5 newId))
    (hi : W.Looks (model prog w) h (typeLookup (.ref C) "__init__") (some (.ref fI))) (hb : ∀ self, W.Looks (model prog w) h (bindSpecial (.ref fI) self) (.ref fI, [self])) (hl : rest.length ≤ sizeLine)
    (z : codeAny (model prog w) (A.under (.builtin "type.__call__" ⟨.ref C :: rest, kw⟩)) (.call (.ref fI) ⟨.ref (h.objs.size + 1) :: rest, kw⟩) (W.InitBack (h.objs.size + 1) R)
      ⟨(h.push (kdv_tup rest)).push (excO C h.objs.size), g, d, t, os⟩) :
    codeAny (model prog w) A (.call (.ref C) ⟨rest, kw⟩) R ⟨h, g, d, t, os⟩ := by
  have f1 := tc_lookup
  have f2 := tc_bind (.ref C)
  have ty : (⟨h, g, d, t, os⟩ : Shared).TypeIs (.ref C) "type" := ⟨_, hC, rfl⟩
  refine codeAny_of_tree ?_
  show wpAny _ _ (callAny (.ref C) _) _ _ _
  repeat (any_goals (first | with_reducible refine wpAny_loadPart_at hC ?_ | assumption | wp_step))
  refine ⟨rfl, ?_⟩
  refine codeAny_call_builtin_at (Code.quiet_builtin _ (by decide +kernel)) entry_typeCall (chk_tcK hC (tcall_ownK F hT hC hi hb hl ?_))
  refine codeAny_mono z fun r s' y => ?_
  rcases r with e | (v | _ | _ | _) <;> exact y
end
end GL
/-! Own exceptions as values: made, their fields read, isinstance. -/
namespace GL
open PySem PySem.Spec PyProof.Rows L2
/-- an own exception at a, of the class at C; its dict d -/
def Ed (H : Hp) (a C : Addr) (d : Option Addr) (fs : List (Str × V)) : Prop := ∃ φ, H a = some (.ext φ) ∧ (∀ h, φ h → ∃ oe vs, h.get? a = some oe ∧ Zc (.ref C) d oe ∧ oe.data = .fields vs) ∧
  match d with | some dd => H dd = some (exd dd fs) | none => fs = []
def Ef (H : Hp) (a C : Addr) (fs : List (Str × V)) : Prop := ∃ d, Ed H a C d fs
def Ei (H : Hp) (a C : Addr) : Prop := ∃ fs, Ef H a C fs
theorem Ed.ex {H H' : Hp} {a C : Addr} {d : Option Addr} {fs : List (Str × V)} (e : Ex H H') (h : Ed H a C d fs) : Ed H' a C d fs := by
  obtain ⟨φ, h1, h2, h3⟩ := h
  refine ⟨φ, e _ _ h1, h2, ?_⟩
  cases d with
  | none => exact h3
  | some dd => exact e _ _ h3
theorem Ef.ex {H H' : Hp} {a C : Addr} {fs : List (Str × V)} (e : Ex H H') (h : Ef H a C fs) : Ef H' a C fs := by obtain ⟨d, h⟩ := h; exact ⟨d, h.ex e⟩
theorem Ei.ex {H H' : Hp} {a C : Addr} (e : Ex H H') (h : Ei H a C) : Ei H' a C := by obtain ⟨fs, h⟩ := h; exact ⟨fs, h.ex e⟩
theorem Ef.ei {H : Hp} {a C : Addr} {fs : List (Str × V)} (h : Ef H a C fs) : Ei H a C := ⟨fs, h⟩
theorem Ed.of {H : Hp} {a C dd : Addr} {fs : List (Str × V)} (h1 : H a = some (exo a C (some dd))) (h2 : H dd = some (exd dd fs)) : Ed H a C (some dd) fs :=
  ⟨_, h1, fun h ⟨t, z⟩ => ⟨_, _, z, ⟨rfl, rfl⟩, rfl⟩, h2⟩
theorem Ed.of0 {H : Hp} {a C : Addr} (h1 : H a = some (exo a C none)) : Ed H a C none [] := ⟨_, h1, fun h ⟨t, z⟩ => ⟨_, _, z, ⟨rfl, rfl⟩, rfl⟩, rfl⟩
/-- what the written part says of such a class -/
structure ClsX (K : PySem.W.Frag) (C : Addr) : Prop where
  ox : OexC K C
  ga : PySem.W.findIn K (.ref C) "__getattribute__" = some (some (.builtin "BaseException.__getattribute__"))
  gg : PySem.W.findIn K (.ref C) "__getattr__" = some none
  hd : PySem.W.hasDictIn K C = true
  hc : PySem.W.findIn K (.ref C) "__class__" = some (some (.builtin "object.__class__"))
  hm : PySem.W.mroIn K C (.type "object") = some true
  sn : PySem.W.specialIn K (.builtin "object.__class__") "__get__" = some (some (.builtin "getset_descriptor.__get__"))
  st : PySem.W.takesIn K (.builtin "object.__class__") = some true
section
variable {X : Cx} {pins : List (Addr × Obj)} {σ : L2.St} {H : Hp} {s : Shared} {a C : Addr} {d : Option Addr} {fs : List (Str × V)}
theorem inst_of (I : Inv X pins σ H s) (e : Ed H a C d fs) : ∃ oe od, PySem.W.InstAt s.heap a oe C od ∧ (∀ dd, d = some dd → ∃ mA, s.heap.Ns1 dd mA ∧ (∀ f, RelO (fs.lookup f) (mA f)) ∧ ∃ o, od = some o ∧ s.heap.get? dd = some o) := by
  obtain ⟨φ, h1, h2, h3⟩ := e
  have x : φ s.heap := (I.hok a _ h1).1
  obtain ⟨oe, vs, hg, hz, hv⟩ := h2 _ x
  cases d with
  | none =>
    refine ⟨oe, none, ⟨hg, hz.1, by unfold PySem.W.notCls; rw [hv] <;> rfl, by rw [hz.2]; trivial⟩, fun dd z => by cases z⟩
  | some dd =>
    obtain ⟨mA, hns, rel⟩ := exd_at I.hok h3
    obtain ⟨od, ho, hl⟩ := lookIn_ns hns
    exact ⟨oe, some od, ⟨hg, hz.1, by unfold PySem.W.notCls; rw [hv] <;> rfl, by rw [hz.2]; exact ho⟩, fun d2 z => by cases z; exact ⟨mA, hns, rel, od, rfl, ho⟩⟩
/-- e.f of such an exception -/
def tAtX (K : PySem.W.Frag) (f : Str) (te : TE) : TE := fun σ H Q => te σ H fun x H1 => ∃ (a C : Addr) (fs : List (Str × V)) (v : V), x = .ref a ∧ Ef H1 a C fs ∧ ClsX K C ∧ PySem.W.findIn K (.ref C) f = some none ∧ fs.lookup f = some v ∧ Q v H1
theorem pe_atX {e : Expr} {te : TE} {pos : Pos} {f : Str} (he : PE X e te) (hb : attributeBase e f X.env (eval e X.env) = eval e X.env := by rfl) : PE X (.Attribute e f pos) (tAtX X.K f te) := by
  refine ⟨fun pins s σ H Q I h => attr_of hb (thn (he.run pins s σ H _ I h) fun u s1 hh => ?_)⟩
  obtain ⟨x, H1, I1, rx, a, C, fs, v, rfl, ⟨d, ed⟩, cx, hno, hl, q⟩ := hh
  obtain rfl : u = Value.ref a := rx
  obtain ⟨oe, od, J, hdd⟩ := inst_of I1 ed
  cases d with
  | none =>
    obtain ⟨φ, _, _, z⟩ := ed
    have z' : fs = [] := z
    rw [z'] at hl; cases hl
  | some dd =>
    obtain ⟨mA, hns, hr, o, rfl, ho⟩ := hdd dd rfl
    obtain ⟨od', ho', hl'⟩ := lookIn_ns hns
    rw [ho] at ho'
    cases ho'
    obtain ⟨u, hu, ru⟩ := RelO.some_of (v := v) (o := mA f) (by rw [← hl]; exact hr f)
    exact HandSPX.exc_get I1.kIn J cx.ga cx.gg cx.ox.exC (PySem.W.findObj_own cx.hd hno rfl (by rw [hl', hu])) (handed_of ru) ⟨v, H1, I1.tok _, ru, q⟩
theorem kit_exc (cx : ClsX X.K C) {od : Option Obj} {oe : Obj} : PySem.W.KitX X.K (.ref a) (.ref C) (fun h => PySem.W.InstAt h a oe C od) :=
  PySem.W.kitx_exc (by obtain ⟨cd, hc, _⟩ := PySem.W.any_some cx.hd; rw [hc]; rfl) cx.ga cx.gg cx.ox.exC cx.hc cx.sn cx.st cx.hm
/-- isinstance(e, c) -/
def rIsX (K : PySem.W.Frag) : List V → Hp → VK → Prop := fun xs H Q => ∃ (a C : Addr) (c : V) (cv : Value) (b : Bool), xs = [.ref a, c] ∧ Ei H a C ∧ ClsX K C ∧ (∀ u, RelV c u → u = cv) ∧ PySem.W.kitOne K (.ref C) cv = some b ∧ Q (.bl b) H
theorem call_isX : CallR X (.builtin "isinstance") (rIsX X.K) := by
  intro pins s σ H xs us Q I r h
  obtain ⟨a, C, c, cv, b, rfl, ⟨fs, d, ed⟩, cx, hcv, e, q⟩ := h
  cases r with
  | cons rx rr =>
    cases rr with
    | cons rt rr =>
      cases rr
      cases rx
      have ec := hcv _ rt
      subst ec
      obtain ⟨oe, od, J, _⟩ := inst_of I ed
      exact PySem.W.kia_one (kit_exc cx) I.kIn J e (fun z => nomatch z) fun tk => ⟨.bl b, H, I.kept (t' := tk) fun _ _ z => z, rfl, q⟩
/-- isinstance(e, (c, ..)) -/
def rIsXT (K : PySem.W.Frag) : List V → Hp → VK → Prop := fun xs H Q => ∃ (a C tp : Addr) (cs : List V) (us : List Value) (b : Bool), xs = [.ref a, .ref tp] ∧ H tp = some (.tup cs) ∧ Ei H a C ∧ ClsX K C ∧ Paired ClsV cs us ∧ PySem.W.kitAny K (.ref C) us = some b ∧ Q (.bl b) H
end
end GL
/-! C(..) of an own exception class: by place, by keywords, without a word. -/
namespace GL
open PySem PySem.Spec PyProof.Rows L2
section
variable {X : Cx} {cx : CXT} {k n : Nat} {C fI : Addr} {fd : FuncData} {ps ks : List Str} {sp spC : Sp} {x : Str} {p pos : Pos} {e : Expr} {es : List Expr} {kws : List Keyword} {t tk : TA} {g gC : {α : Type} → List α → List α → List α}
theorem call_isXT : CallR X (.builtin "isinstance") (rIsXT X.K) := by
  intro pins s σ H xs us Q I r h
  obtain ⟨a, C, tp, cs, ws, b, rfl, hT, ⟨fs, d, ed⟩, cl, pr, e, q⟩ := h
  obtain ⟨u1, u2, rfl, r1, r2⟩ := vals2 r
  cases (show u1 = Value.ref a from r1)
  cases (show u2 = Value.ref tp from r2)
  obtain ⟨oe, od, J, _⟩ := inst_of I ed
  have hO : ObjOk X.prog X.w H s.heap tp (.tup cs) := I.hok tp _ hT
  obtain ⟨_, its, rv, o, h1, h2, n, h3⟩ := hO
  have ew := ClsV.all pr rv
  subst ew
  obtain ⟨oc, od2, dt, sl⟩ := o
  simp only at h2 h3
  subst h2 h3
  exact PySem.W.kia_tup (kit_exc cl) I.kIn J h1 e (fun z => nomatch z) fun tk => ⟨.bl b, H, I.tok tk, rfl, q⟩
/-- what __init__ must do that C's call gives spC -/
def Inits (C : Addr) (sp spC : Sp) : Prop := ∀ (vs : List V) (H : Hp) (Q : VK) (a : Addr), H a = none → spC vs H Q (fun _ _ _ => False) → vs.length ≤ 1000 ∧ sp (.ref a :: vs) (upd H a (exo a C none)) (fun v H2 => v = .non ∧ Q (.ref a) H2) (fun _ _ _ => False)
theorem run_newX {pins : List (Addr × Obj)} {σ : L2.St} {H : Hp} {s : Shared} {Q : VK} {us zs : List Value} {vs : List V} {kw : List (Str × Value)} (cl : ClsX X.K C) (iC : PySem.W.findIn X.K (.ref C) "__init__" = some (some (.ref fI))) (tI : PySem.W.typeIn X.K (.ref fI) = some (.type "function"))
    (Fi : FnG X.prog X.w X.K X.mg X.base cx k fI fd ps sp) (gd : X.A.guards = some []) (rm : Room (k + 1) X.A) (hx : Passes cx X (fun _ _ _ => False)) (im : Inits C sp spC) (I : Inv X pins σ H s) (hl : us.length ≤ 1000)
    (hb : ∀ (s : Shared) (a : Addr), X.K.In s.heap → BindsTo s fd ⟨.ref a :: us, kw⟩ (ps.zip (.ref a :: zs))) (r : Vals vs zs) (h : spC vs H Q (fun _ _ _ => False)) :
    wpAny (model X.prog X.w) X.A (call (.ref C) us kw) (EP X pins σ Q) X.xe s := by
  obtain ⟨nm, q, N, bs, bm, sn, sub, ab, col, dd, k0, k1, k2, k3, k5, hC, hbm⟩ := cl.ox.cls
  obtain ⟨hp, gs, dr, tk, os⟩ := s
  have big : hp.objs.size ≤ hp.objs.size + 1 := Nat.le_succ _
  have free : H (hp.objs.size + 1) = none := I.hok.fresh big
  obtain ⟨_, hq⟩ := im vs H Q _ free h
  have kk : ∀ b o, hp.get? b = some o → ((hp.push (PySem.W.kdv_tup us)).push (PySem.HandSPX.excO C hp.objs.size)).get? b = some o := fun b o z => Heap.get?_push_of_some _ (Heap.get?_push_of_some _ z)
  have at1 : ((hp.push (PySem.W.kdv_tup us)).push (PySem.HandSPX.excO C hp.objs.size)).get? (hp.objs.size + 1) = some (PySem.HandSPX.excO C hp.objs.size) := by heap_get
  have J : Inv X pins σ (upd H (hp.objs.size + 1) (exo (hp.objs.size + 1) C none)) ⟨(hp.push (PySem.W.kdv_tup us)).push (PySem.HandSPX.excO C hp.objs.size), gs, dr, tk, os⟩ :=
    I.laid (t' := tk) (a := hp.objs.size + 1) (o := exo (hp.objs.size + 1) C none) kk big (exo_ok at1)
  have rr : Vals (V.ref (hp.objs.size + 1) :: vs) (Value.ref (hp.objs.size + 1) :: zs) := .cons rfl r
  refine wpAny_call (call_ownK F.excBase_ValueError (fun Y => PySem.HandSPX.refsVE_contains Y bm hbm) (I.kIn _ _ hC) (PySem.W.looks_findIn I.kIn iC) (fun self => PySem.W.bind_fn I.kIn self tI) (by rw [sizeLine_eq]; omega) ?_)
  refine codeAny_mono (Fi.run _ X.stack _ _ ⟨.ref (hp.objs.size + 1) :: us, kw⟩ _ _ _ (fun _ _ _ => False) gd (rm.make C us kw) (J.env0.make C us kw) (hb _ _ J.kIn) rr hq) fun res s' z => ?_
  cases res with
  | error er => exact hx pins σ _ _ er s' J z
  | ok fl =>
    cases fl with
    | ret u =>
      obtain ⟨v, H', J2, rv, ev, q3⟩ := J.after z
      subst ev
      exact ⟨rv, ⟨V.ref (hp.objs.size + 1), H', J2, rfl, q3⟩⟩
    | next => exact z.elim
    | brk => exact z.elim
    | cont => exact z.elim
/-- C(e, ..) -/
theorem pe_newX (cl : ClsX X.K C) (iC : PySem.W.findIn X.K (.ref C) "__init__" = some (some (.ref fI))) (tI : PySem.W.typeIn X.K (.ref fI) = some (.type "function")) (Fi : FnG X.prog X.w X.K X.mg X.base cx k fI fd ps sp) (gd : X.A.guards = some [])
    (rm : Room (k + 1) X.A) (hx : Passes cx X (fun _ _ _ => False)) (im : Inits C sp spC) (hb : Binds X.K fd ps []) (hg : Gl X x) (hm : X.mg x = some (.ref C)) (ha : PA X (e :: es) t)
    (hdb : (x == ("__debug__" : Str)) = false := by decide) (hst : starEach (e :: es) X.env = (false, eval e X.env) :: starEach es X.env := by rfl)
    (hpl : (backTo pos (starEach es X.env)).any (·.1) = false := by rfl) : PE X (.Call (.Name x p) (e :: es) [] pos) (tCall spC [] (fun _ _ _ => False) t) := by
  refine ⟨fun pins s σ H Q I h => wpAny_Call_Name_kw (ld_glob I hg hm ?_ hdb)⟩
  refine PySem.W.callWith_K (h₀ := X.base) I.ok.mod.kin cl.ox.kC (thn (ha.run pos pins s σ H _ I h) ?_) hst hpl
  rintro us s1 ⟨vs, H1, I1, r, q⟩
  have q' : spC (vs ++ []) H1 Q (fun _ _ _ => False) := q
  rw [List.append_nil] at q'
  have fr := I1.hok.fresh (Nat.le_refl s1.heap.objs.size)
  have l1 := (im vs H1 Q _ fr q').1
  have l2 := r.length
  have l3 := Fi.len _ _ _ _ (im vs H1 Q _ fr q').2
  refine ⟨I1.kIn, run_newX cl iC tI Fi gd rm hx im I1 (us := us) (zs := us) (show us.length ≤ 1000 by omega) (fun s a X1 => ?_) r q'⟩
  have z := hb s (.ref a :: us) X1 (by rw [List.append_nil]; simp only [List.length_cons] at l3 ⊢; omega)
  rw [List.append_nil] at z
  exact z
/-- C(k = v, ..) -/
theorem pe_newK (cl : ClsX X.K C) (iC : PySem.W.findIn X.K (.ref C) "__init__" = some (some (.ref fI))) (tI : PySem.W.typeIn X.K (.ref fI) = some (.type "function")) (Fi : FnG X.prog X.w X.K X.mg X.base cx k fI fd ps sp) (gd : X.A.guards = some [])
    (rm : Room (k + 1) X.A) (hx : Passes cx X (fun _ _ _ => False)) (im : Inits C sp spC) (hb : KwB X.K fd ps 1 ks g) (hgc : ∀ {α : Type} (a : α) (ws : List α), ws.length = ks.length → g [a] ws = a :: gC [] ws)
    (hr : ∀ {zs : List V} {ws : List Value}, zs.length = ks.length → Vals zs ws → Vals (gC [] zs) (gC [] ws)) (hg : Gl X x) (hm : X.mg x = some (.ref C)) (hk : PK X kws tk)
    (hall : (backToKw pos (keywordEach kws X.env)).all (·.1.isSome) = true := by rfl) (hks : (backToKw pos (keywordEach kws X.env)).filterMap (·.1) = ks := by rfl)
    (hdb : (x == ("__debug__" : Str)) = false := by decide)
    (hpl : ((backTo pos (starEach [] X.env)).any (·.1) || (backToKw pos (keywordEach kws X.env)).any (·.1.isNone)) = false := by rfl) :
    PE X (.Call (.Name x p) [] kws pos) (tKw 0 ks.length spC gC (fun _ _ _ => False) tNil tk) := by
  refine ⟨fun pins s σ H Q I h => wpAny_Call_Name_kw (ld_glob I hg hm ?_ hdb)⟩
  refine PySem.W.callWith_KW0 (h₀ := X.base) I.ok.mod.kin cl.ox.kC hall ?_ hpl
  refine thn (hk.run pos pins s σ H _ I h) ?_
  rintro ws s2 ⟨zs, H2, I2, rz, l1, l2, q2⟩
  rw [hks]
  refine ⟨I2.kIn, run_newX cl iC tI Fi gd rm hx im I2 (us := []) (zs := gC [] ws) (Nat.zero_le _) (fun s a X1 => ?_) (hr l2 rz) q2⟩
  have z := hb.to s [.ref a] ws rfl (rz.length.symm.trans l2)
  rw [hgc _ _ (rz.length.symm.trans l2)] at z
  exact z
/-- C() of a class that has no own __init__ -/
theorem pe_new0 {bmB : List Value} {B newId initId : String} (F0 : ExcBaseFacts B newId initId bmB) (qx : PySem.W.excIn X.K C bmB newId = true) (hm : X.mg x = some (.ref C)) (kC : PySem.W.keepIn X.K (.ref C) = true) (hg : Gl X x)
    (hdb : (x == ("__debug__" : Str)) = false := by decide) : PE X (.Call (.Name x p) [] [] pos) (fun _ H Q => ∀ a H', H a = none → Ex H H' → Ef H' a C [] → Q (.ref a) H') := by
  refine ⟨fun pins s σ H Q I h => wpAny_Call_Name_kw (ld_glob I hg hm (PySem.W.callWith_K0 I.kIn kC ?_) hdb)⟩
  obtain ⟨bm, N, nm, qn, bs, hdct, sn, sub, ab, col, dd, k0, k1, k2, k3, k5, mN, hC, hN, hni, T⟩ := exc_obj I.kIn qx
  refine wpAny_call_exc_subT F0 T hC hN hni (fun h' a hm => ?_) (by show 0 ≤ sizeLine; omega)
  have free : H a = none := I.hok.gone hm.new
  obtain ⟨t, ht, _, _⟩ := hm.there
  refine ⟨.ref a, upd H a (exo a C none), I.laidN hm.keeps hm.new free (exo_ok ht), rfl, h a _ free (Ex.nw free) ⟨none, Ed.of0 upd_same⟩⟩
end
end GL
/-! try with a clause of several classes that is not meant, then except x as n, the exception tracked within the suite. -/
namespace GL
open PySem PySem.Spec PyProof.Rows L2
theorem fly_more {B h h' : Heap} {l : List Env} {e : Addr} {Z : Obj → Prop} (x : HandSPX.FlyingZ B l e Z h) (k : ∀ b o, h.get? b = some o → h'.get? b = some o) : HandSPX.FlyingZ B l e Z h' := by
  obtain ⟨h1, h2, h3, oe, vs, T, oT, ts, he, hz, hd, hv, hn, hne, hT, hdT, h4⟩ := x
  exact ⟨fun b o z => k _ _ (h1 b o z), h2, h3.of_keeps fun b o z _ => ⟨o, k _ _ z, rfl⟩, oe, vs, T, oT, ts, k _ _ he, hz, hd, hv, hn, hne, k _ _ hT, hdT, h4⟩
section
variable {X : Cx} {pins : List (Addr × Obj)} {σ : L2.St} {H : Hp} {s : Shared}
/-- the suite's state, the exception tracked in the place of its pin -/
theorem Inv.track {a : Addr} {oe : Obj} {vs : Array Value} {pn : List (Addr × Obj)} {φ : Heap → Prop} (ok : X.Ok) (I : Inv (X.suite a ((a, oe) :: pn)) [] σ H s) (hv : oe.data = .fields vs) (hφ : φ s.heap) (mono : ∀ h h' : Heap, φ h → (∀ o, h.get? a = some o → h'.get? a = some o) → φ h')
    (h0 : ∀ o, X.s_0.heap.get? a = some o → X.H_0 a = none → a ∉ X.ex → False) (hp : ∀ q ∈ pn, q.1 ≠ a) : Inv (X.suite a pn) [] σ (upd H a (.ext φ)) s := by
  obtain ⟨ha, na, nL, nF, nc⟩ := I.pin (a, oe) (List.mem_append_left _ List.mem_cons_self)
  have neN : ∀ {b : Addr} {o : HO}, H b = some o → b ≠ a := fun z e => by rw [e, na] at z; cases z
  refine ⟨ok.suite a pn, I.os, I.bare, ⟨I.base.keep, I.base.slot, fun b o z n hx => ?_, I.base.there, fun b xs z => ?_, fun b o u z => ?_, fun b ps z => ?_⟩, I.loc, I.cell, ?_, fun y c z => ?_, fun q hq => ?_, fun b o z => ?_, I.len⟩
  · by_cases e : b = a
    · subst e; exact (h0 o z n hx).elim
    · rw [upd_ne e]; exact I.base.free b o z n hx
  · have q := I.base.tups b xs z
    rw [upd_ne (neN q)]; exact q
  · have q := I.base.frzs b o u z
    rw [upd_ne (neN q)]; exact q
  · obtain ⟨m, q⟩ := I.base.tbls b ps z
    exact ⟨m, by rw [upd_ne (neN q)]; exact q⟩
  · rw [upd_ne nL.symm]; exact I.free
  · have q := I.freeC y c z
    have ne : c ≠ a := fun e => by
      obtain ⟨w', o, ho, hd⟩ := I.cell y c z
      subst e
      rw [ha] at ho
      cases ho
      exact nc _ hd
    rw [upd_ne ne]; exact q
  · have hq' : q ∈ pn := by rw [List.append_nil] at hq; exact hq
    obtain ⟨e, n, x1, x2, x3⟩ := I.pin q (List.mem_append_left _ (List.mem_cons_of_mem _ hq'))
    exact ⟨e, by rw [upd_ne (hp q hq')]; exact n, x1, x2, x3⟩
  · by_cases e : b = a
    · subst e
      rw [upd_same] at z
      cases z
      exact ⟨hφ, ⟨_, ha⟩, fun h1 h2 x k => mono h1 h2 x (fun o q => k o q)⟩
    · rw [upd_ne e] at z
      exact (I.hok b o z).stay (fun c v _ q => q) (fun c q => by rw [upd_ne (neN q)]; exact q) (fun c xs q => by rw [upd_ne (neN q)]; exact q)
end
end GL
namespace GL
open PySem PySem.Spec PyProof.Rows L2
/-- tracked anew at a: an exception of the class cls -/
def ExcAt (H : Hp) (a : Addr) (cls : Value) (d : Option Addr) (H' : Hp) : Prop := ∃ φ, H' = upd H a (.ext φ) ∧ ∀ h, φ h → ∃ oe vs, h.get? a = some oe ∧ Zc cls d oe ∧ oe.data = .fields vs
def back (i : Nat) (D : Ends) : Ends := { nx := fun τ G => D.nx (τ.set i none) G, rt := D.rt, bk := fun τ G => D.bk (τ.set i none) G, ct := fun τ G => D.ct (τ.set i none) G }
def wLast (K : PySem.W.Frag) (c : Value) (i : Nat) (ts : TS) (D : Ends) : WX := fun cls d τ G => PySem.W.exmOne K cls c = some true ∧ ∀ a G', G a = none → ExcAt G a cls d G' → ts (back i D) (τ.set i (some (.ref a))) G'
/-- a clause that isn't meant -/
def Skip (X : Cx) (cs : List Value) (hd : ExceptHandler) : Prop := ∀ (a : Addr) (pn pins : List (Addr × Obj)) (σ : L2.St) (H : Hp) (s : Shared) (cls : Value) (rest : List ExceptHandler) (Q : Flow → Shared → Prop) (E : Value → Shared → Prop),
  Inv (X.suite a pn) pins σ H s → (∃ oe, s.heap.get? a = some oe ∧ oe.cls = cls) → PySem.W.exmAny X.K cls cs = some false →
  (∀ h', (∀ b o, s.heap.get? b = some o → h'.get? b = some o) → wpAny (model X.prog X.w) X.A (handleBy (.ref a) X.env rest) Q E { s with heap := h' }) → wpAny (model X.prog X.w) X.A (handleBy (.ref a) X.env (hd :: rest)) Q E s
section
variable {X : Cx} {x n x1 x2 x3 : Str} {c c1 c2 c3 : Value} {i : Nat} {body suite : List Stmt} {b₀ : Stmt} {np pos pos' p1 p2 p3 tp : Pos} {kk : Nat} {tb : WX → TS} {ts : TS} {hd : ExceptHandler} {cs : List Value}
theorem skip3 (h1 : Names X x1 c1) (h2 : Names X x2 c2) (h3 : Names X x3 c3) : Skip X [c1, c2, c3] (.ExceptHandler (some (.Tuple [.Name x1 p1, .Name x2 p2, .Name x3 p3] kk tp)) none body pos) := by
  intro a pn pins σ H s cls rest Q E I hcl hx hq
  obtain ⟨oe, he, hc⟩ := hcl
  have name : ∀ {y : Str} {v : Value} {p : Pos} {s' : Shared} {Q : Value → Shared → Prop} {E : Value → Shared → Prop}, Names X y v → Inv (X.suite a pn) pins σ H s' → Q v s' → wpAny (model X.prog X.w) (X.A.mark (some (.ref a))) (eval (.Name y p) X.env) Q E s' := fun {y v p s' Q E} hn I q => by
    obtain ⟨hg, hdb, hm | ⟨hm, hv, hnn⟩⟩ := hn
    · exact ld_glob (X := X.suite a pn) I hg hm q hdb
    · exact ld_blt (X := X.suite a pn) I hg hm hv q hnn hdb
  have LT : PySem.W.Looks (model X.prog X.w) s.heap (typeOf (.ref a)) cls := fun A Q E s' k q => wpAny_typeOf_ref (k _ _ he) (by rw [hc]; exact q)
  refine wpAny_handleBy_cons (codeAny_handlers_test ?_) (by intro z; cases z)
  refine wpAny_Tuple (wpAny_items_cons (name h1 I ?_))
  refine wpAny_items_cons (name h2 I ?_)
  refine wpAny_items_cons (name h3 I ?_)
  refine wpAny_items_nil ⟨by size_fits, ?_⟩
  have kp : ∀ b o, s.heap.get? b = some o → (s.heap.push { cls := .type "tuple", data := .seq [c1, c2, c3].toArray }).get? b = some o := fun _ _ z => Heap.get?_push_of_some _ z
  refine (PySem.W.exm_tup3 (I.kIn.keeps kp) (LT.keeps kp) (Heap.get?_push_size s.heap rfl) hx).here ?_
  exact hq _ kp
theorem skip2 (h1 : Names X x1 c1) (h2 : Names X x2 c2) : Skip X [c1, c2] (.ExceptHandler (some (.Tuple [.Name x1 p1, .Name x2 p2] kk tp)) none body pos) := by
  intro a pn pins σ H s cls rest Q E I hcl hx hq
  obtain ⟨oe, he, hc⟩ := hcl
  have name : ∀ {y : Str} {v : Value} {p : Pos} {s' : Shared} {Q : Value → Shared → Prop} {E : Value → Shared → Prop}, Names X y v → Inv (X.suite a pn) pins σ H s' → Q v s' → wpAny (model X.prog X.w) (X.A.mark (some (.ref a))) (eval (.Name y p) X.env) Q E s' := fun {y v p s' Q E} hn I q => by
    obtain ⟨hg, hdb, hm | ⟨hm, hv, hnn⟩⟩ := hn
    · exact ld_glob (X := X.suite a pn) I hg hm q hdb
    · exact ld_blt (X := X.suite a pn) I hg hm hv q hnn hdb
  have LT : PySem.W.Looks (model X.prog X.w) s.heap (typeOf (.ref a)) cls := fun A Q E s' k q => wpAny_typeOf_ref (k _ _ he) (by rw [hc]; exact q)
  refine wpAny_handleBy_cons (codeAny_handlers_test ?_) (by intro z; cases z)
  refine wpAny_Tuple (wpAny_items_cons (name h1 I ?_))
  refine wpAny_items_cons (name h2 I ?_)
  refine wpAny_items_nil ⟨by size_fits, ?_⟩
  have kp : ∀ b o, s.heap.get? b = some o → (s.heap.push { cls := .type "tuple", data := .seq [c1, c2].toArray }).get? b = some o := fun _ _ z => Heap.get?_push_of_some _ z
  refine (PySem.W.exm_tup2 (I.kIn.keeps kp) (LT.keeps kp) (Heap.get?_push_size s.heap rfl) hx).here ?_
  exact hq _ kp
/-- the last clause, which is meant -/
theorem catch_last {pins : List (Addr × Obj)} {σ : L2.St} {H : Hp} {sI s' : Shared} {B : Heap} {a : Addr} {cls : Value} {d : Option Addr} {D : Ends} (hN : X.N.Nodup) (hi : X.N[i]? = some n) (hln : X.env.kindOf n = some .local) (hc : Names X x c)
    (hsu : ∀ (a : Addr) (pn : List (Addr × Obj)), PSs (X.suite a pn) (b₀ :: suite) ts) (J : Inv X pins σ H sI) (nb : ∀ b o, sI.heap.get? b = some o → b ∉ frs X.stack → B.get? b = some o) (up : sI.heap.UpToSlots s'.heap) (fl : HandSPX.FlyingZ B X.stack a (Zc cls d) s'.heap)
    (na : H a = none) (os : s'.os = sI.os) (ag : AllBare s'.gens) (nL : a ≠ X.env.locals) (nF : a ∉ X.fs) (nS : a ∉ frs X.stack) (w : wLast X.K c i ts D cls d σ H) :
    wpAny (model X.prog X.w) X.A (handleBy (.ref a) X.env [.ExceptHandler (some (.Name x np)) (some n) (b₀ :: suite) pos']) (SP X pins D) X.xe s' := by
  have ok := J.ok
  have nB : B.get? a = none := fl.2.1
  have nI : sI.heap.get? a = none := by
    cases e : sI.heap.get? a with
    | none => rfl
    | some o => rw [nb a o e nS] at nB; cases nB
  have K3 : Inv X pins σ H s' := J.landed nb fl.1 up os ag
  obtain ⟨oe, vs, he, hz, hd⟩ := fl.there
  have S3 := K3.suite he hd na nL nF
  obtain ⟨hb1, hw⟩ := w
  refine wpAny_handleBy_cons (codeAny_handlers_test ?_) (by intro z; cases z)
  have LT : PySem.W.Looks (model X.prog X.w) s'.heap (typeOf (.ref a)) cls := fun A Q E s k q => wpAny_typeOf_ref (k _ _ he) (by rw [hz.1]; exact q)
  have LM := PySem.W.exm_one (M := model X.prog X.w) K3.kIn LT hb1
  have tst : ∀ {Q : Value → Shared → Prop} {E : Value → Shared → Prop}, Q c s' → wpAny (model X.prog X.w) (X.A.mark (some (.ref a))) (eval (.Name x np) X.env) Q E s' := fun {Q E} q => by
    obtain ⟨hg, hdb, hm | ⟨hm, hv, hnn⟩⟩ := hc
    · exact ld_glob (X := X.suite a ((a, oe) :: (X.pn ++ pins))) S3 hg hm q hdb
    · exact ld_blt (X := X.suite a ((a, oe) :: (X.pn ++ pins))) S3 hg hm hv q hnn hdb
  refine tst (LM.here ?_)
  refine codeAny_handlers_suite_as ?_
  refine HandSPX.lands_againZ fl fun h4 fl4 up4 => ?_
  have K4 : Inv X pins σ H { s' with heap := h4 } := J.landed nb fl4.1 (up.trans up4) os ag
  obtain ⟨oe4, vs4, he4, hz4, hd4⟩ := fl4.there
  have S4 := K4.suite he4 hd4 na nL nF
  refine store_ok (X := X.suite a ((a, oe4) :: (X.pn ++ pins))) (v := .ref a) S4 hN hi (.inl hln) rfl (fun s5 S5 => ?_) (.inr hln)
  have T5 := Inv.track (φ := fun h => h.get? a = some oe4) ok S5 hd4 (S5.pin (a, oe4) (List.mem_append_left _ List.mem_cons_self)).1 (fun h1 h2 z k => k _ z)
    (fun o z n hx => by have q := J.base.keep a o z n nF hx; rw [nI] at q; cases q) (fun q hq e => by
      have z := (J.pin q hq).1
      rw [e, nI] at z; cases z)
  refine wpAny_mono ((hsu a (X.pn ++ pins)).run [] s5 _ _ (back i D) T5 (hw a _ na ⟨_, rfl, fun h z => ⟨oe4, vs4, z, hz4, hd4⟩⟩)) (fun f s6 hsp => ?_) (fun _ _ z => False.elim z)
  have fin : ∀ {τ : L2.St} {G : Hp} {Q : Shared → Prop}, Inv (X.suite a (X.pn ++ pins)) [] τ G s6 → (∀ s7, Inv X pins (τ.set i none) G s7 → Q s7) →
      wpAny (model X.prog X.w) X.A (do bindName X.env n .none; unbindBehindTheSuite X.env n pos') (fun _ s7 => Q s7) X.xe s6 := fun {τ G Q} S6 hq =>
    gone_ok (X := X) (pins := pins) ⟨ok, S6.os, S6.bare, S6.base, S6.loc, S6.cell, S6.free, S6.freeC, fun p hp => S6.pin p (List.mem_append_left _ hp), S6.hok, S6.len⟩ hN hi hln hq
  cases f with
  | next =>
    obtain ⟨τ, G, S6, q6⟩ := hsp
    exact fin S6 fun s7 J7 => ⟨_, G, J7, q6⟩
  | brk =>
    obtain ⟨τ, G, S6, q6⟩ := hsp
    exact fin S6 fun s7 J7 => ⟨_, G, J7, q6⟩
  | cont =>
    obtain ⟨τ, G, S6, q6⟩ := hsp
    exact fin S6 fun s7 J7 => ⟨_, G, J7, q6⟩
  | ret u =>
    obtain ⟨v6, τ, G, S6, r6, q6⟩ := hsp
    exact fin S6 fun s7 J7 => ⟨v6, _, G, J7, r6, q6⟩
/-- try: body; except (..): ..; except x as n: suite -/
theorem ps_tryL {hds : List ExceptHandler} {css : List (List Value)} (hs : X.stack = X.env :: X.outer) (hf : X.env.frame = some X.env.locals) (hN : X.N.Nodup) (hi : X.N[i]? = some n) (hln : X.env.kindOf n = some .local) (hc : Names X x c)
    (hb : ∀ (W : WX) (pn : List (Addr × Obj)) (xe : Value → Shared → Prop), Takes (X.tr pn xe) W → PassesOwn (model X.prog X.w) X.A X.env xe → PSs (X.tr pn xe) body (tb W))
    (hk : Paired (Skip X) css hds) (hsu : ∀ (a : Addr) (pn : List (Addr × Obj)), PSs (X.suite a pn) (b₀ :: suite) ts) (hne : ∃ h₀ r, hds ++ [.ExceptHandler (some (.Name x np)) (some n) (b₀ :: suite) pos'] = h₀ :: r) :
    PS X (.Try body (hds ++ [.ExceptHandler (some (.Name x np)) (some n) (b₀ :: suite) pos']) [] [] pos)
      (fun D σ H => tb (fun cls d τ G => (∀ cs, cs ∈ css → PySem.W.exmAny X.K cls cs = some false) ∧ wLast X.K c i ts D cls d τ G) D σ H) := by
  refine ⟨fun pins s σ H D I h => ?_⟩
  have ok := I.ok
  have hfr : X.A.frames = some (X.env :: X.outer) := by rw [ok.frames, hs]
  generalize hL : hds ++ [.ExceptHandler (some (.Name x np)) (some n) (b₀ :: suite) pos'] = L at hne ⊢
  obtain ⟨h₀, r0, rfl⟩ := hne
  refine wpAny_Try_except ?_
  refine wpAny_mono ((hb (fun cls d τ G => (∀ cs, cs ∈ css → PySem.W.exmAny X.K cls cs = some false) ∧ wLast X.K c i ts D cls d τ G) (X.pn ++ pins) (fun e s₁ => wpAny (model X.prog X.w) X.A (noteFrame e X.env) (fun _ s₂ =>
    wpAny (model X.prog X.w) X.A (setFlight e none) (fun _ s₃ => wpAny (model X.prog X.w) X.A (handleBy e X.env (h₀ :: r0)) (SP X pins D) X.xe s₃) X.xe s₂) X.xe s₁) (fun u s' xx => ?_) PassesOwn.looking).run [] s σ H D (I.toTry _) h) (fun f s1 hsp => ?_) (fun e s1 he => he)
  · obtain ⟨a, B, sI, pins', σ', H', cls, d, rfl, J', nb, up, sky, na, os, ag, hsk, w⟩ := xx
    have J : Inv X pins σ' H' sI := J'.ofTry ok
    have sky2 : Sky B (X.env :: X.outer) a (Zc cls d) X.env.locals s'.heap := by rw [← hs]; exact sky
    show wpAny (model X.prog X.w) X.A (noteFrame (.ref a) X.env) _ _ _
    refine Sky.land Zc.steady hfr hf sky2 fun h3 fl3 up3 => ?_
    rw [← hs] at fl3
    obtain ⟨oe3, vs3, he3, hz3, hd3⟩ := fl3.there
    have nS : a ∉ frs X.stack := fun hm => by
      obtain ⟨_, o', e', hnf⟩ := fl3.2.2.1.mem hm
      rw [he3] at e'; cases e'
      exact hnf _ hd3
    have nL : a ≠ X.env.locals := fun z => nS (List.mem_filterMap.mpr ⟨X.env, by rw [hs]; exact List.mem_cons_self, by rw [hf, z]⟩)
    have nF : a ∉ X.fs := fun hm => by
      obtain ⟨e, hx, q⟩ := List.mem_filterMap.mp hm
      exact nS (List.mem_filterMap.mpr ⟨e, by rw [hs]; exact List.mem_cons_of_mem _ hx, q⟩)
    rw [← hL]
    clear hL hb
    have go : ∀ (h3 : Heap), HandSPX.FlyingZ B X.stack a (Zc cls d) h3 → sI.heap.UpToSlots h3 → wpAny (model X.prog X.w) X.A (handleBy (.ref a) X.env (hds ++ [.ExceptHandler (some (.Name x np)) (some n) (b₀ :: suite) pos'])) (SP X pins D) X.xe { s' with heap := h3 } := by
      clear h3 fl3 up3 oe3 vs3 he3 hz3 hd3 h
      induction hk with
      | nil => exact fun h3 fl up => catch_last (s' := { s' with heap := h3 }) hN hi hln hc hsu J nb up fl na os ag nL nF nS w
      | @cons cs0 hd0 css0 hds0 hk0 hkr ih =>
        intro h3 fl up3
        obtain ⟨oe, vs, he, hz, hd⟩ := fl.there
        have K3 : Inv X pins σ' H' { s' with heap := h3 } := J.landed nb fl.1 up3 os ag
        refine hk0 a _ [] σ' H' { s' with heap := h3 } cls _ _ _ (K3.suite he hd na nL nF) ⟨oe, he, hz.1⟩ (hsk _ List.mem_cons_self) fun h' kp => ?_
        exact ih (fun cs m => hsk cs (List.mem_cons_of_mem _ m)) h' (fly_more fl kp) (up3.trans (Heap.UpToSlots.of_keeps kp))
    exact go h3 fl3 (up.trans up3)
  · cases f with
    | next =>
      obtain ⟨τ, G, J, q⟩ := hsp
      exact wpAny_execs_nil ⟨τ, G, J.ofTry ok, q⟩
    | brk =>
      obtain ⟨τ, G, J, q⟩ := hsp
      exact ⟨τ, G, J.ofTry ok, q⟩
    | cont =>
      obtain ⟨τ, G, J, q⟩ := hsp
      exact ⟨τ, G, J.ofTry ok, q⟩
    | ret u =>
      obtain ⟨v, τ, G, J, r, q⟩ := hsp
      exact ⟨v, τ, G, J.ofTry ok, r, q⟩
end
end GL
/-! repr of data with dicts; raise of a made exception; what __init__ does. -/
namespace GL
open PySem PySem.Spec PyProof.Rows L2
def kD : Key → PyData
  | .inl i => .int i
  | .inr x => .str x
mutual
/-- data of any depth, all of it tracked -/
inductive Dq (H : Hp) : V → PyData → Prop
  | non : Dq H .non .none
  | bl (b : Bool) : Dq H (.bl b) (.bool b)
  | int (i : Int) : Dq H (.int i) (.int i)
  | str (x : Str) : Dq H (.str x) (.str x)
  | lst {a : Addr} {xs : List V} {ds : List PyData} : H a = some (.lst xs) → DqA H xs ds → Dq H (.ref a) (.list ds)
  | tup {a : Addr} {xs : List V} {ds : List PyData} : H a = some (.tup xs) → DqA H xs ds → Dq H (.ref a) (.tuple ds)
  | dic {a : Addr} {kvs : List (Key × V)} {ps : List (PyData × PyData)} : H a = some (.dK kvs) → ps.map (·.1) = kvs.map (fun p => kD p.1) → DqA H (kvs.map (·.2)) (ps.map (·.2)) → Dq H (.ref a) (.dict ps)
inductive DqA (H : Hp) : List V → List PyData → Prop
  | nil : DqA H [] []
  | cons {v : V} {vs : List V} {d : PyData} {ds : List PyData} : Dq H v d → DqA H vs ds → DqA H (v :: vs) (d :: ds)
end
structure Mono (H H' : Hp) : Prop where
  l : ∀ a xs, H a = some (.lst xs) → H' a = some (.lst xs)
  t : ∀ a xs, H a = some (.tup xs) → H' a = some (.tup xs)
  d : ∀ a xs, H a = some (.dK xs) → H' a = some (.dK xs)
theorem Ex.mono {H H' : Hp} (e : Ex H H') : Mono H H' := ⟨fun a _ h => e a _ h, fun a _ h => e a _ h, fun a _ h => e a _ h⟩
mutual
theorem Dq.mono {H H' : Hp} (k : Mono H H') : ∀ (d : PyData) (v : V), Dq H v d → Dq H' v d
  | .none, _, h => by cases h; exact .non
  | .bool b, _, h => by cases h; exact .bl b
  | .int i, _, h => by cases h; exact .int i
  | .str x, _, h => by cases h; exact .str x
  | .list ds, _, h => by
    cases h with
    | @lst a xs _ h1 h2 => exact .lst (k.l _ _ h1) (DqA.mono k ds xs h2)
  | .tuple ds, _, h => by
    cases h with
    | @tup a xs _ h1 h2 => exact .tup (k.t _ _ h1) (DqA.mono k ds xs h2)
  | .dict ps, _, h => by
    cases h with
    | @dic a kvs _ h1 h2 h3 => exact .dic (k.d _ _ h1) h2 (DqA.mono2 k ps _ h3)
theorem DqA.mono {H H' : Hp} (k : Mono H H') : ∀ (ds : List PyData) (vs : List V), DqA H vs ds → DqA H' vs ds
  | [], _, h => by cases h; exact .nil
  | d :: ds, _, h => by
    cases h with
    | cons h1 h2 => exact .cons (Dq.mono k d _ h1) (DqA.mono k ds _ h2)
theorem DqA.mono2 {H H' : Hp} (k : Mono H H') : ∀ (ps : List (PyData × PyData)) (vs : List V), DqA H vs (ps.map (·.2)) → DqA H' vs (ps.map (·.2))
  | [], _, h => by cases h; exact .nil
  | p :: ps, _, h => by
    cases h with
    | cons h1 h2 => exact .cons (Dq.mono k p.2 _ h1) (DqA.mono2 k ps _ h2)
end
section
variable {X : Cx} {pins : List (Addr × Obj)} {σ : L2.St} {H : Hp} {s : Shared}
theorem not_sm (sb : SmB X.base) (I : Inv X pins σ H s) {a : Addr} {o : HO} (h : H a = some o) : a ≠ sysModules := fun e => by
  obtain ⟨ob, hb⟩ := sb
  have q := (I.bs _ _ hb).2
  rw [← e, h] at q; cases q
theorem keys_read {h : Heap} {P : Program} {w : World} : ∀ {es : List DictEntry} {vs : List (Key × Value)}, Pairs (mixKind P w) es vs → ReadsAll h (es.map (·.key)) (vs.map fun p => kD p.1) ((es.map fun _ => ([] : List Addr)).flatten)
  | _, _, .nil => .nil
  | _, _, .cons (e := e) (kv := kv) (es := es) (kvs := vs) h1 h2 h3 => by
    have ih := keys_read (h := h) h3
    have hk : Reads h e.key (kD kv.1) [] := by
      rcases keyIs_shape h1 with ⟨i, t, e1, e2⟩ | ⟨x, t, e1, e2⟩
      · rw [e1, e2]; exact .int i t
      · rw [e1, e2]; exact .str x t
    exact ReadsAll.cons hk ih
theorem vals_of_pairs {P : Program} {w : World} : ∀ {es : List DictEntry} {vs : List (Key × Value)}, Pairs (mixKind P w) es vs → es.map (·.val) = vs.map (·.2)
  | _, _, .nil => rfl
  | _, _, .cons h1 h2 h3 => by
    simp only [List.map_cons]
    rw [h2, vals_of_pairs h3]
theorem nil_flat {α β : Type} (l : List α) : (l.map fun _ => ([] : List β)).flatten = [] := by induction l with
  | nil => rfl
  | cons a r ih => simpa using ih
theorem kv_keys : ∀ {kvs : List (Key × V)} {vs : List (Key × Value)}, KV kvs vs → kvs.map (fun p => kD p.1) = vs.map (fun p => kD p.1)
  | _, _, .nil => rfl
  | _, _, .cons h1 h2 => by
    simp only [List.map_cons]
    rw [h1.1, kv_keys h2]
theorem kv_vals : ∀ {kvs : List (Key × V)} {vs : List (Key × Value)}, KV kvs vs → Vals (kvs.map (·.2)) (vs.map (·.2))
  | _, _, .nil => .nil
  | _, _, .cons h1 h2 => .cons h1.2 (kv_vals h2)
mutual
theorem Dq.reads (sb : SmB X.base) (I : Inv X pins σ H s) : ∀ (d : PyData) (v : V) (u : Value), Dq H v d → RelV v u → ∃ as, Reads s.heap u d as ∧ sysModules ∉ as
  | .none, _, _, h, r => by cases h; cases r; exact ⟨_, Reads.none, by simp⟩
  | .bool b, _, _, h, r => by cases h; cases r; exact ⟨_, Reads.bool b, by simp⟩
  | .int i, _, _, h, r => by cases h; obtain ⟨t, rfl⟩ := r; exact ⟨_, Reads.int i t, by simp⟩
  | .str x, _, _, h, r => by cases h; obtain ⟨t, rfl⟩ := r; exact ⟨_, Reads.str x t, by simp⟩
  | .list ds, _, _, h, r => by
    cases h with
    | @lst a xs _ h1 h2 =>
      cases r
      obtain ⟨its, rv, ⟨o, n, ho, hc, _, hd⟩, _⟩ := I.list (SqL.of h1)
      obtain ⟨as, hr, hn⟩ := DqA.reads sb I ds _ its h2 rv
      exact ⟨_, Reads.list ho hc hd hr, fun m => by
        rcases List.mem_cons.mp m with e | m
        · exact not_sm sb I h1 e.symm
        · exact hn m⟩
  | .tuple ds, _, _, h, r => by
    cases h with
    | @tup a xs _ h1 h2 =>
      cases r
      obtain ⟨its, rv, ⟨o, ho, hc, n, hd⟩, _⟩ := I.tuple (SqT.of h1)
      obtain ⟨as, hr, hn⟩ := DqA.reads sb I ds _ its h2 rv
      exact ⟨_, Reads.tuple ho hc hd hr, hn⟩
  | .dict ps, _, _, h, r => by
    cases h with
    | @dic a kvs _ h1 h2 h3 =>
      cases r
      have hO : ObjOk X.prog X.w H s.heap a (.dK kvs) := I.hok a _ h1
      obtain ⟨_, _, vs, rel, o, es, ep, ho, hx, hd, hk, hp, hnd⟩ := hO
      obtain ⟨bs, hr, hn⟩ := DqA.reads2 sb I ps _ (vs.map (·.2)) h3 (kv_vals rel)
      have e1 := keys_read (h := s.heap) hp
      rw [nil_flat, ← kv_keys rel, ← h2] at e1
      rw [← vals_of_pairs hp] at hr
      exact ⟨_, Reads.dict ho hx.1 hd e1 hr, fun m => by
        rcases List.mem_append.mp m with m | m
        · rcases List.mem_cons.mp m with e | m
          · exact not_sm sb I h1 e.symm
          · cases m
        · exact hn m⟩
theorem DqA.reads (sb : SmB X.base) (I : Inv X pins σ H s) : ∀ (ds : List PyData) (vs : List V) (us : List Value), DqA H vs ds → Vals vs us → ∃ as, ReadsAll s.heap us ds as ∧ sysModules ∉ as
  | [], _, _, h, r => by cases h; cases r; exact ⟨_, ReadsAll.nil, by simp⟩
  | d :: ds, _, _, h, r => by
    cases h with
    | cons h1 h2 =>
      cases r with
      | cons r1 r2 =>
        obtain ⟨as, q1, n1⟩ := Dq.reads sb I d _ _ h1 r1
        obtain ⟨bs, q2, n2⟩ := DqA.reads sb I ds _ _ h2 r2
        exact ⟨_, ReadsAll.cons q1 q2, fun m => (List.mem_append.mp m).elim n1 n2⟩
theorem DqA.reads2 (sb : SmB X.base) (I : Inv X pins σ H s) : ∀ (ps : List (PyData × PyData)) (vs : List V) (us : List Value), DqA H vs (ps.map (·.2)) → Vals vs us → ∃ as, ReadsAll s.heap us (ps.map (·.2)) as ∧ sysModules ∉ as
  | [], _, _, h, r => by cases h; cases r; exact ⟨_, ReadsAll.nil, by simp⟩
  | p :: ps, _, _, h, r => by
    cases h with
    | cons h1 h2 =>
      cases r with
      | cons r1 r2 =>
        obtain ⟨as, q1, n1⟩ := Dq.reads sb I p.2 _ _ h1 r1
        obtain ⟨bs, q2, n2⟩ := DqA.reads2 sb I ps _ _ h2 r2
        exact ⟨_, ReadsAll.cons q1 q2, fun m => (List.mem_append.mp m).elim n1 n2⟩
end
/-- data that repr shows -/
structure Da (H : Hp) (v : V) (d : PyData) : Prop where
  q : Dq H v d
  s : d.showable = true
  l : d.leavesShort 100 = true
  z : d.depth ≤ 30
  w : d.weight ≤ 100000
/-- .. with its bounds -/
structure Dz (H : Hp) (v : V) (d : PyData) (Z W : Nat) : Prop where
  q : Dq H v d
  s : d.showable = true
  l : d.leavesShort 100 = true
  z : d.depth ≤ Z
  w : d.weight ≤ W
structure DzA (H : Hp) (vs : List V) (ds : List PyData) (Z W : Nat) : Prop where
  q : DqA H vs ds
  s : PyData.showableAll ds = true
  l : PyData.leavesShortAll 100 ds = true
  z : PyData.depthAll ds ≤ Z
  w : PyData.weightAll ds ≤ W
theorem Dz.da {H : Hp} {v : V} {d : PyData} {Z W : Nat} (h : Dz H v d Z W) (hZ : Z ≤ 30) (hW : W ≤ 100000) : Da H v d := ⟨h.q, h.s, h.l, Nat.le_trans h.z hZ, Nat.le_trans h.w hW⟩
theorem Dz.ex {H H' : Hp} {v : V} {d : PyData} {Z W : Nat} (e : Ex H H') (h : Dz H v d Z W) : Dz H' v d Z W := ⟨Dq.mono e.mono d v h.q, h.s, h.l, h.z, h.w⟩
theorem Dz.le {H : Hp} {v : V} {d : PyData} {Z W Z' W' : Nat} (h : Dz H v d Z W) (hZ : Z ≤ Z') (hW : W ≤ W') : Dz H v d Z' W' := ⟨h.q, h.s, h.l, Nat.le_trans h.z hZ, Nat.le_trans h.w hW⟩
theorem DzA.nil {H : Hp} : DzA H [] [] 0 0 := ⟨.nil, rfl, rfl, Nat.le_refl _, Nat.le_refl _⟩
theorem DzA.cons {H : Hp} {v : V} {d : PyData} {vs : List V} {ds : List PyData} {Z W Z' W' : Nat} (h : Dz H v d Z W) (r : DzA H vs ds Z' W') : DzA H (v :: vs) (d :: ds) (max Z Z') (W + 1 + W') :=
  ⟨.cons h.q r.q, by simp only [PyData.showableAll, h.s, r.s]; rfl, by simp only [PyData.leavesShortAll, h.l, r.l]; rfl, by
    have h1 := h.z
    have h2 := r.z
    simp only [PyData.depthAll]; omega, by
    have h1 := h.w
    have h2 := r.w
    simp only [PyData.weightAll]; omega⟩
theorem Dz.lst {H : Hp} {a : Addr} {xs : List V} {ds : List PyData} {Z W : Nat} (g : H a = some (.lst xs)) (h : DzA H xs ds Z W) : Dz H (.ref a) (.list ds) (Z + 1) W :=
  ⟨.lst g h.q, by simp only [PyData.showable]; exact h.s, by simp only [PyData.leavesShort]; exact h.l, by have := h.z; simp only [PyData.depth]; omega, by have := h.w; simp only [PyData.weight]; omega⟩
theorem Dz.tup {H : Hp} {a : Addr} {xs : List V} {ds : List PyData} {Z W : Nat} (g : H a = some (.tup xs)) (h : DzA H xs ds Z W) : Dz H (.ref a) (.tuple ds) (Z + 1) W :=
  ⟨.tup g h.q, by simp only [PyData.showable]; exact h.s, by simp only [PyData.leavesShort]; exact h.l, by have := h.z; simp only [PyData.depth]; omega, by have := h.w; simp only [PyData.weight]; omega⟩
theorem Dz.dic0 {H : Hp} {a : Addr} (g : H a = some (.dK [])) : Dz H (.ref a) (.dict []) 1 0 := ⟨.dic (ps := []) g rfl .nil, rfl, rfl, by decide, by decide⟩
theorem Dz.dic1 {H : Hp} {a : Addr} {x : Str} {v : V} {d : PyData} {Z W : Nat} (g : H a = some (.dK [(.inr x, v)])) (hx : (PyData.str x).leavesShort 100 = true) (h : Dz H v d Z W) : Dz H (.ref a) (.dict [(.str x, d)]) (Z + 1) (x.length + W + 2) :=
  ⟨.dic (ps := [(.str x, d)]) g rfl (.cons h.q .nil), by simp only [PyData.showable, PyData.showableKv, h.s]; rfl, by simp only [PyData.leavesShort, PyData.leavesShortKv, h.l] at hx ⊢; rw [hx]; rfl, by
    have := h.z
    simp only [PyData.depth, PyData.depthKv]; omega, by
    have := h.w
    have e : x.length = x.cps.size := rfl
    simp only [PyData.weight, PyData.weightKv]; omega⟩
theorem Dz.non {H : Hp} : Dz H .non .none 0 0 := ⟨.non, rfl, rfl, by decide, by decide⟩
theorem Dz.bl {H : Hp} {b : Bool} : Dz H (.bl b) (.bool b) 0 0 := ⟨.bl b, rfl, rfl, by simp [PyData.depth], by simp [PyData.weight]⟩
theorem Dz.int {H : Hp} {i : Int} (h : i.natAbs < 10 ^ 60) : Dz H (.int i) (.int i) 0 300 := by
  have h2 : i.natAbs.log2 < 200 := by
    by_cases h0 : i.natAbs = 0
    · rw [h0]; decide
    · exact (Nat.log2_lt h0).mpr (Nat.lt_trans h (by decide))
  refine ⟨.int i, ?_, ?_, by simp [PyData.depth], ?_⟩
  · simp only [PyData.showable, decide_eq_true_eq]; omega
  · have e := int_text_length_le10 (k := 60) (by decide) h
    simp only [PyData.leavesShort, decide_eq_true_eq]
    show (Str.ofString (toString i)).length ≤ 100
    rw [PySem.ofString_length]; omega
  · simp only [PyData.weight]
    split <;> omega
theorem Dz.str {H : Hp} {s : String} : Dz H (.str (Str.ofString s)) (.str (Str.ofString s)) 0 (Str.ofString s).length := by
  refine ⟨.str _, rfl, ?_, by simp [PyData.depth], Nat.le_refl _⟩
  simp only [PyData.leavesShort, List.all_eq_true, decide_eq_true_eq]
  intro c hc
  rw [PyProof.Rows.signs_ofString] at hc
  obtain ⟨ch, _, rfl⟩ := List.mem_map.mp hc
  have := ch.valid
  have h2 : ch.toNat < 0x110000 := by
    rcases this with h | h
    · exact Nat.lt_trans h (by decide)
    · exact h.2
  exact Nat.lt_trans h2 (by decide)
def rReprQ : List V → Hp → VK → Prop := fun xs H Q => ∃ (v : V) (d : PyData), xs = [v] ∧ Da H v d ∧ Q (.str d.shown) H
theorem call_reprQ (sb : SmB X.base) (gd : X.A.guards = some []) {j : Nat} (rm : Room j X.A) : CallR X (.builtin "repr") rReprQ := by
  intro pins s σ H xs us Q I r h
  obtain ⟨v, d, rfl, hd, q⟩ := h
  cases r with
  | cons rv rn =>
    rename_i u us
    cases rn
    have hu := rm.units
    have hz := hd.z
    obtain ⟨as, rd, nm⟩ := Dq.reads sb I d v u hd.q rv
    have hl : d.shown.length ≤ sizeLine := by
      have h1 := PyData.shown_le 100 (by decide) d hd.l
      have h2 : (100 + 2) * d.weight ≤ 102 * 100000 := Nat.mul_le_mul (Nat.le_refl _) hd.w
      rw [sizeLine_eq]
      omega
    have fin : ∀ (h' : Heap) (u' tk : Tok), (∀ b o, s.heap.get? b = some o → h'.get? b = some o) → EP X pins σ Q (.str d.shown u') { s with heap := h', toks := tk } :=
      fun h' u' tk kk => ⟨.str d.shown, H, I.kept (t' := tk) kk, ⟨u', rfl⟩, q⟩
    have hs := hd.s
    have h1 := hd.q
    cases h1 with
    | non => cases rv; exact P.repr_of_none (fin s.heap _ _ fun _ _ z => z)
    | bl b => cases rv; exact P.repr_of_bool (fin s.heap _ _ fun _ _ z => z)
    | int i => obtain ⟨t, rfl⟩ := rv; exact P.repr_of_int (by simpa [PyData.showable] using hs) (fin s.heap _ _ fun _ _ z => z)
    | str y => obtain ⟨t, rfl⟩ := rv; exact P.repr_of_str (fin s.heap _ _ fun _ _ z => z) hl
    | lst h1 h2 => cases rv; exact repr_of_reads' rd hs (fun _ => nm) gd (by omega) (fun _ _ z => z) fin hl
    | tup h1 h2 => cases rv; exact repr_of_reads' rd hs (fun _ => nm) gd (by omega) (fun _ _ z => z) fin hl
    | dic h1 h2 h3 => cases rv; exact repr_of_reads' rd hs (fun _ => nm) gd (by omega) (fun _ _ z => z) fin hl
end
end GL
namespace GL
open PySem PySem.Spec PyProof.Rows L2
open L2H (RoomH roomH_of)
/-! raise of an exception that was made -/
section
variable {X : Cx} {e : Expr} {te : TE} {W : WX} {pos : Pos}
theorem pmk_val (hx : X.ex = []) (he : PE X e te) : PMk X e (fun σ H Q => te σ H fun x H1 => ∃ (a C : Addr) (d : Option Addr), x = .ref a ∧ H1 a = some (exo a C d) ∧ X.H_0 a = none ∧ Raises X (.ref C) ∧ Q (.ref C) d (delH H1 a)) := by
  intro pins s σ H Q I h
  refine wpAny_mono (he.run pins s σ H _ I h) (fun u s1 hu => ?_) fun _ _ z => z
  obtain ⟨v, H1, I1, r1, a, C, d, rfl, ha, h0, hr, q⟩ := hu
  cases r1
  obtain ⟨t1, ho⟩ := exo_at I1.hok ha
  obtain ⟨G, gs, ga, J⟩ := I1.untrack (a := a) ha (fr0_none h0) hx
  exact ⟨a, _, _, { s1 with heap := G }, delH H1 a, .ref C, d, rfl, J, gs, ga, ho, ⟨rfl, rfl⟩, rfl, rfl, delH_same, rfl, I1.bare, hr, q⟩
def tRaiseV (X : Cx) (W : WX) (te : TE) : TS := fun _ σ H => te σ H fun x H1 => ∃ (a C : Addr) (d : Option Addr), x = .ref a ∧ H1 a = some (exo a C d) ∧ X.H_0 a = none ∧ Raises X (.ref C) ∧ W (.ref C) d σ (delH H1 a)
theorem ps_raiseV (hc : X.calm = true) (hx : X.ex = []) (tk : Takes X W) (he : PE X e te) : PS X (.Raise (some e) none pos) (tRaiseV X W te) := ps_raise hc tk (pmk_val hx he)
end
/-! what __init__ does -/
/-- a fresh exception, its fields stored -/
def Eo (H : Hp) (a C : Addr) (fs : List (Str × V)) : Prop := ∃ dd, dd ≠ a ∧ H a = some (exo a C (some dd)) ∧ H dd = some (exd dd fs)
theorem Eo.ef {H : Hp} {a C : Addr} {fs : List (Str × V)} (h : Eo H a C fs) : Ef H a C fs := by obtain ⟨dd, _, h1, h2⟩ := h; exact ⟨some dd, Ed.of h1 h2⟩
theorem Eo.ex {H H' : Hp} {a C : Addr} {fs : List (Str × V)} (e : Ex H H') (h : Eo H a C fs) : Eo H' a C fs := by obtain ⟨dd, h0, h1, h2⟩ := h; exact ⟨dd, h0, e _ _ h1, e _ _ h2⟩
def spI1 (C : Addr) (f : Str) : Sp := fun vs H Q _ => ∃ a x, vs = [.ref a, x] ∧ H a = some (exo a C none) ∧ ∀ dx, H dx = none → dx ≠ a → Q .non (upd (upd H dx (exd dx [(f, x)])) a (exo a C (some dx)))
def spI2 (C : Addr) (f g : Str) : Sp := fun vs H Q _ => ∃ a x y, vs = [.ref a, x, y] ∧ H a = some (exo a C none) ∧ ∀ dx, H dx = none → dx ≠ a → Q .non (upd (upd (upd H dx (exd dx [(f, x)])) a (exo a C (some dx))) dx (exd dx [(g, y), (f, x)]))
def spC1 (C : Addr) (f : Str) : Sp := fun vs H Q _ => ∃ x, vs = [x] ∧ ∀ a H', H a = none → Ex H H' → Eo H' a C [(f, x)] → Q (.ref a) H'
def spC2 (C : Addr) (f g : Str) : Sp := fun vs H Q _ => ∃ x y, vs = [x, y] ∧ ∀ a H', H a = none → Ex H H' → Eo H' a C [(g, y), (f, x)] → Q (.ref a) H'
theorem inits1 {C : Addr} {f : Str} : Inits C (spI1 C f) (spC1 C f) := by
  rintro vs H Q a ha ⟨x, rfl, q⟩
  refine ⟨by show 1 ≤ 1000; omega, a, x, rfl, upd_same, fun dx hd hne => ⟨rfl, q a _ ha (fun b o hb => ?_) ⟨dx, hne, upd_same, ?_⟩⟩⟩
  · have n1 : b ≠ a := fun e => by rw [e, ha] at hb; cases hb
    have n2 : b ≠ dx := fun e => by rw [e] at hb; rw [upd_ne hne, hb] at hd; cases hd
    rw [upd_ne n1, upd_ne n2, upd_ne n1]; exact hb
  · rw [upd_ne hne, upd_same]
theorem inits2 {C : Addr} {f g : Str} : Inits C (spI2 C f g) (spC2 C f g) := by
  rintro vs H Q a ha ⟨x, y, rfl, q⟩
  refine ⟨by show 2 ≤ 1000; omega, a, x, y, rfl, upd_same, fun dx hd hne => ⟨rfl, q a _ ha (fun b o hb => ?_) ⟨dx, hne, ?_, upd_same⟩⟩⟩
  · have n1 : b ≠ a := fun e => by rw [e, ha] at hb; cases hb
    have n2 : b ≠ dx := fun e => by rw [e] at hb; rw [upd_ne hne, hb] at hd; cases hd
    rw [upd_ne n2, upd_ne n1, upd_ne n2, upd_ne n1]; exact hb
  · rw [upd_ne hne.symm, upd_same]
/-! defs that raise nothing, called anywhere -/
structure FnQ (pg : Program) (w : World) (K : PySem.W.Frag) (mg : Str → Option Value) (bs : Heap) (cx : CXT) (k : Nat) (f : Addr) (fd : FuncData) (ps : List Str) (sp : Sp) : Prop where
  len : ∀ vs H Q E, sp vs H Q E → vs.length = ps.length
  run : ∀ (A : Around) (out : List Env) (s : Shared) (H : Hp) (ar : Args) (us : List Value) (vs : List V) (Q : VK) (E : XK),
    RoomH k A → Env0 pg w K mg bs A out s H → BindsTo s fd ar (ps.zip us) → Vals vs us → sp vs H Q E → codeAny (model pg w) A (.call (.ref f) ar) (CR cx out pg w H s Q E) s
section
variable {pg : Program} {w : World} {K : PySem.W.Frag} {mg : Str → Option Value} {bs : Heap}
theorem FnQ.cold {cx : CXT} {k : Nat} {f : Addr} {fd : FuncData} {ps : List Str} {sp : Sp} (F : FnQ pg w K mg bs cx k f fd ps sp) : FnG pg w K mg bs cx k f fd ps sp :=
  ⟨F.len, fun A out s H ar us vs Q E _ rm => F.run A out s H ar us vs Q E (roomH_of rm)⟩
def cxQ (cx : CXT) (pg : Program) (w : World) (K : PySem.W.Frag) (mg : Str → Option Value) (bs : Heap) (N : List Str) (q : Str) (sc : Scope) (f : Addr) (cd : Value) (A : Around) (out : List Env) (s : Shared) (H : Hp) (E : XK) : Cx :=
  { cxOf cx pg w K mg bs N q sc f cd A out s H E with calm := false }
theorem inv_startQ {cx : CXT} {N ps : List Str} {qual : Str} {sc : Scope} {f : Addr} {cd : Value} {A : Around} {out : List Env} {s s1 : Shared} {H : Hp} {E : XK} {us : List Value} {vs : List V}
    (S : FnScope N ps sc) (ev : Env0 pg w K mg bs A out s H) (hl : vs.length = ps.length) (r : Vals vs us)
    (x : InCallC s s.heap.objs.size (bindL (envOfC qual sc s.heap.objs.size f cd).kindOf (ps.zip us) fun _ => none) (cellsFrom (s.heap.objs.size + 1) sc.names []) (bindC (envOfC qual sc s.heap.objs.size f cd).kindOf (ps.zip us) fun _ => none) s1) :
    Inv (cxQ cx pg w K mg bs N qual sc f cd A out s H E) [] (start N vs) H s1 := by
  have J := inv_start (CX := cx) (E := E) (A := { A with handled := none }) S rfl ⟨ev.frames, ev.mod, ev.bs, ev.bsz, ev.funs, ev.frf, ev.hok, ev.bare⟩ hl r x
  have ok := J.ok
  exact ⟨⟨ok.mod, ok.kind, ok.glob, ok.blt, ok.above, ok.inj, ok.has, ok.cab, (fun z => absurd (show false = true from z) Bool.false_ne_true), Around.frames_deeper ev.frames, ok.stk, ok.exf, ok.bs, ok.bsz, ok.noex, ok.exfs, ok.funs, ok.frf⟩,
    J.os, J.bare, J.base, J.loc, J.cell, J.free, J.freeC, J.pin, J.hok, J.len⟩
theorem Fun.okQ {cx : CXT} {x q : Str} {st : Stmt} {f : Addr} {fd : FuncData} {N ps : List Str} {k : Nat} {sp : Sp} (F : Fun K x q st f fd)
    (S : FnScope N ps (defScope st)) (len : ∀ vs H Q E, sp vs H Q E → vs.length = ps.length)
    (hb : ∀ (cd : Value) (A : Around) (out : List Env) (s : Shared) (H : Hp) (vs : List V) (Q : VK) (E : XK), RoomH k (A.deeper (envOfC q (defScope st) s.heap.objs.size f cd)) → sp vs H Q E →
      ∃ t, PSs (cxQ cx pg w K mg bs N q (defScope st) f cd A out s H E) (defBody st) t ∧ t { nx := fun _ H' => Q .non H', rt := Q } (start N vs) H) :
    FnQ pg w K mg bs cx (k + 1) f fd ps sp := by
  obtain ⟨oc, od, kV, doc, pm, an, cd, ct, osl, rfl, lk, hcd⟩ := F.ex
  refine ⟨len, fun A out s H ar us vs Q E rm ev hbi rv hsp => ?_⟩
  have hle := len _ _ _ _ hsp
  have keepB : ∀ b o, bs.get? b = some o → s.heap.get? b = some o := fun b o z => (ev.bs b o z).1
  have KX : K.In s.heap := ev.mod.kin.keeps keepB
  have lim : s.heap.NoLimit := ev.mod.nolimit.keeps keepB
  have kinds : ∀ y ∈ ps.zip us, (defScope st).names.lookup y.1 = some .local ∨
      ((defScope st).names.lookup y.1 = some .cell ∧ ((cellsFrom (s.heap.objs.size + 1) (defScope st).names []).lookup y.1).isSome = true) := by
    rintro ⟨n, v⟩ hy
    rcases S.par n (List.of_mem_zip hy).1 with z | z
    · exact .inl z
    · exact .inr ⟨z, PySem.W.cellsFrom_some _ _ _ (.inl z)⟩
  have room := rm.depth
  refine codeAny_call_function room (KX _ _ lk) rfl S.co S.gen rfl (PySem.W.codeRec_of KX hcd) (hbi _ _ _ _ ?_)
  refine wpAny_newFunctionEnv_cells S.kind kinds fun env he s1 ic => ?_
  subst he
  refine ⟨lim.keeps ic.toInCall.keep, codeAny_func ?_⟩
  obtain ⟨t, ht, hq⟩ := hb cd A out s H vs Q E (rm.deeper _) hsp
  have J := inv_startQ (cx := cx) (E := E) S ev hle rv ic
  have done : ∀ {τ : L2.St} {G : Hp} {v : V} {u : Value} {s' : Shared}, Inv (cxQ cx pg w K mg bs N q (defScope st) f cd A out s H E) [] τ G s' → RelV v u → Q v G → CE out pg w H s Q u s' :=
    fun {τ G v u s'} J r z => ⟨v, G, J.os, J.bare, J.base, J.hok, r, z⟩
  refine wpAny_mono (ht.run [] s1 (start N vs) H _ J hq) (fun fl s' hs => ?_) fun e s' hs => hs
  cases fl with
  | ret u => exact (let ⟨_, _, _, J', rv', z⟩ := hs; done J' rv' z)
  | next => exact (let ⟨_, _, J', z⟩ := hs; done (v := V.non) (u := Value.none) J' rfl z)
  | brk => exact (let ⟨_, _, _, z⟩ := hs; False.elim z)
  | cont => exact (let ⟨_, _, _, z⟩ := hs; False.elim z)
end
section
variable {X : Cx} {cx : CXT} {k : Nat} {f : Addr} {fd : FuncData} {ps : List Str} {sp : Sp} {dvs : List V} {ds : List Value} {E : XK} {x : Str} {p pos : Pos} {e : Expr} {es : List Expr} {t : TA}
theorem pg_callQ (Fi : FnQ X.prog X.w X.K X.mg X.base cx k f fd ps sp) (rm : RoomH k X.A) (hg : Gl X x)
    (hm : X.mg x = some (.ref f)) (kp : PySem.W.keepIn X.K (.ref f) = true) (hb : Binds X.K fd ps ds) (hd : Vals dvs ds) (hx : Passes cx X E) (ha : PA X (e :: es) t)
    (hdb : (x == ("__debug__" : Str)) = false := by decide) (hst : starEach (e :: es) X.env = (false, eval e X.env) :: starEach es X.env := by rfl)
    (hpl : (backTo pos (starEach es X.env)).any (·.1) = false := by rfl) : PE X (.Call (.Name x p) (e :: es) [] pos) (tCall sp dvs E t) := by
  refine ⟨fun pins s σ H Q I h => wpAny_Call_Name_kw (ld_glob I hg hm ?_ hdb)⟩
  refine PySem.W.callWith_K (h₀ := X.base) I.ok.mod.kin kp (thn (ha.run pos pins s σ H _ I h) ?_) hst hpl
  rintro us s1 ⟨vs, H1, I1, r, q⟩
  have r2 := r.append hd
  have hl : (us ++ ds).length = ps.length := r2.length.symm.trans (Fi.len _ _ _ _ q)
  refine ⟨I1.kIn, wpAny_call (codeAny_mono (Fi.run X.A X.stack s1 H1 ⟨us, []⟩ _ _ Q E rm I1.env0 (hb s1 us I1.kIn hl) r2 q) fun res s' hq => ?_)⟩
  cases res with
  | error e => exact hx pins σ H1 s1 e s' I1 hq
  | ok fl =>
    cases fl with
    | ret u => exact I1.after hq
    | next => exact hq.elim
    | brk => exact hq.elim
    | cont => exact hq.elim
end
end GL
/-! enumerate(zip(xs, ys)), unpacked by the loop. -/
namespace GL
open PySem
section
variable {prog : Program} {w : World} {A : Around} {E : Value → Shared → Prop} {s : Shared}
/-- enumerate's turn, whatever it draws from -/
theorem enum_any {e it : Addr} {i : Nat} {old : Value} {P : Value → Heap → Prop} {Q : Value → Shared → Prop} (he : IsEnum s.heap e it i old)
    (hn : ∀ R : Value → Shared → Prop, (∀ x h1, P x h1 → R x { s with heap := h1 }) → wpAny (model prog w) A (Builtin.SmallTypes.nextOf (.ref it)) R E s)
    (hp : ∀ x h1, P x h1 → IsEnum h1 e it i old)
    (hQ : ∀ x h1 h', P x h1 → IsEnumOut h' e it ((i : Int) + 1) x h1.objs.size → h'.get? h1.objs.size = some { cls := .type "tuple", data := .seq #[.int i s.toks, x] } → h'.objs.size = h1.objs.size + 1 →
      (∀ b o, b ≠ e → h1.get? b = some o → h'.get? b = some o) → Q (.ref h1.objs.size) { s with heap := h', toks := s.toks + 1 }) :
    wpAny (model prog w) A (Builtin.«enumerate.__next__» ⟨[.ref e], []⟩) (fun fin s' => ∃ v, fin = .done (.ret v) ∧ Q v s') E s := by
  obtain ⟨hp0, gs, dr, t0, os⟩ := s
  show wpAny _ _ (field (.ref e) 2 >>= _) _ _ _
  refine wpAny_bind (wpAny_field he rfl (x := .ref it) rfl (wpAny_bind (hn _ fun x h1 px => ?_)))
  have e1 : IsEnum h1 e it i old := hp x h1 px
  show wpAny _ _ (field (.ref e) 3 >>= _) _ _ ⟨h1, gs, dr, t0, os⟩
  refine wpAny_bind (wpAny_field e1 rfl (x := rawInt i) rfl ?_)
  show wpAny _ _ (field (.ref e) 4 >>= _) _ _ ⟨h1, gs, dr, t0, os⟩
  refine wpAny_bind (wpAny_field e1 rfl (x := .none) rfl ?_)
  show wpAny _ _ (mkInt i >>= _) _ _ ⟨h1, gs, dr, t0, os⟩
  refine wpAny_bind (wpAny_mkInt ?_)
  show wpAny _ _ (setField (.ref e) 3 (rawInt ((i : Int) + 1)) >>= _) _ _ ⟨h1, gs, dr, t0 + 1, os⟩
  refine wpAny_bind (wpAny_setField_rec e1 (by simp) fun h2 e2 k2 => ?_)
  replace k2 : Heap.SameBut e h1 h2 := k2
  replace e2 : IsEnum h2 e it ((i : Int) + 1) old := e2
  show wpAny _ _ (setField (.ref e) 4 .none >>= _) _ _ ⟨h2, gs, dr, t0 + 1, os⟩
  refine wpAny_bind (wpAny_setField_rec e2 (by simp) fun h3 e3 k3 => ?_)
  replace k3 : Heap.SameBut e h2 h3 := k3
  replace e3 : IsEnum h3 e it ((i : Int) + 1) old := e3
  show wpAny _ _ (newTuple [.int i t0, x] >>= _) _ _ ⟨h3, gs, dr, t0 + 1, os⟩
  refine wpAny_bind (wpAny_newTuple ?_)
  have z3 : h3.objs.size = h1.objs.size := by rw [k3.1, k2.1]
  have le : e < h1.objs.size := Heap.lt_size e1
  have e4 : IsEnum (h3.push { cls := .type "tuple", data := .seq #[.int i t0, x] }) e it ((i : Int) + 1) old := Heap.get?_push_of_some _ e3
  have t4 : (h3.push { cls := .type "tuple", data := .seq #[.int i t0, x] }).get? h1.objs.size = some { cls := .type "tuple", data := .seq #[.int i t0, x] } := by rw [← z3]; exact Heap.get?_push_size _ rfl
  have z4 : (h3.push { cls := .type "tuple", data := .seq #[.int i t0, x] }).objs.size = h1.objs.size + 1 := by rw [Heap.size_push, z3]
  have k4 : ∀ b o, b ≠ e → h1.get? b = some o → (h3.push { cls := .type "tuple", data := .seq #[.int i t0, x] }).get? b = some o := fun b o n q => Heap.get?_push_of_some _ (k3.extBut b o n (k2.extBut b o n q))
  show wpAny _ _ (Builtin.SmallTypes.ownedTupleIsFree (.ref e) >>= _) _ _ ⟨_, gs, dr, t0 + 1, os⟩
  rw [z3]
  generalize h3.push { cls := .type "tuple", data := .seq #[.int i t0, x] } = h4 at e4 t4 z4 k4
  refine wpAny_bind ?_
  unfold Builtin.SmallTypes.ownedTupleIsFree
  refine wpAny_bind (wpAny_field e4 rfl (x := .none) rfl (wpAny_pure ?_))
  simp only [if_true]
  refine wpAny_bind (wpAny_rule (wpAny_bind (wpAny_field e4 rfl (x := old) rfl ?_)))
  refine wpAny_bind (wpAny_setField_rec e4 (by simp) fun h5 e5 k5 => ?_)
  replace k5 : Heap.SameBut e h4 h5 := k5
  replace e5 : IsEnum h5 e it ((i : Int) + 1) x := e5
  show wpAny _ _ (Builtin.SmallTypes.ownedTupleHandOut (.ref e) (.ref h1.objs.size) >>= _) _ _ ⟨h5, gs, dr, t0 + 1, os⟩
  refine wpAny_bind ?_
  unfold Builtin.SmallTypes.ownedTupleHandOut
  refine wpAny_bind (wpAny_setField_rec e5 (by simp) fun h6 e6 k6 => ?_)
  replace k6 : Heap.SameBut e h5 h6 := k6
  replace e6 : IsEnumOut h6 e it ((i : Int) + 1) x h1.objs.size := e6
  refine wpAny_setField_rec e6 (by simp) fun h7 e7 k7 => ?_
  replace k7 : Heap.SameBut e h6 h7 := k7
  replace e7 : IsEnumOut h7 e it ((i : Int) + 1) x h1.objs.size := e7
  have up : ∀ b o, b ≠ e → h4.get? b = some o → h7.get? b = some o := fun b o n q => k7.extBut b o n (k6.extBut b o n (k5.extBut b o n q))
  refine wpAny_bind (wpAny_letGo (wpAny_pure ⟨_, rfl, hQ x h1 h7 px e7 (up _ _ (Nat.ne_of_gt le) t4) ?_ fun b o n q => up b o n (k4 b o n q)⟩))
  rw [k7.1, k6.1, k5.1, z4]
end
end GL
namespace GL
open PySem PySem.Spec PySem.W
section
variable {prog : Program} {w : World} {A : Around} {E : Value → Shared → Prop} {s : Shared} {z TI TO i1 i2 l1 l2 : Addr} {k1 k2 : Nat} {xs ys : Array Value} {x y a b : Value}
def ZAt (h : Heap) (z TI TO : Addr) : Prop := IsZip h z TI TO .none ∨ ∃ T f oT, IsZipHeld h z TI TO T f ∧ h.get? T = some oT
theorem nextOf_zip {Q : Value → Shared → Prop} (D : ZipApart z TI TO i1 i2 l1 l2) (hz : ZAt s.heap z TI TO) (gI : IsPair s.heap TI (.ref i1) (.ref i2)) (gO : IsPair s.heap TO a b)
    (g1 : s.heap.IsListIter i1 l1 k1) (g2 : s.heap.IsListIter i2 l2 k2) (gx : s.heap.IsList l1 xs) (gy : s.heap.IsList l2 ys) (hx : xs[k1]? = some x) (hy : ys[k2]? = some y)
    (q : ∀ h' T f, IsZipHeld h' z TI TO T f → (T = s.heap.objs.size ∨ ∃ f0, IsZipHeld s.heap z TI TO T f0) → (∃ a b, IsPair h' TO a b) → h'.IsListIter i1 l1 (k1 + 1) → h'.IsListIter i2 l2 (k2 + 1) → IsPair h' s.heap.objs.size x y →
      h'.objs.size = s.heap.objs.size + 1 → (∀ c o, c ≠ z → c ≠ TO → c ≠ i1 → c ≠ i2 → s.heap.get? c = some o → h'.get? c = some o) → Q (.ref s.heap.objs.size) { s with heap := h' }) :
    wpAny (model prog w) A (Builtin.SmallTypes.nextOf (.ref z)) Q E s := by
  rcases hz with hz | ⟨T, f, oT, hz, hT⟩
  · have ty : s.TypeIs (.ref z) "zip" := ⟨_, hz, rfl⟩
    unfold Builtin.SmallTypes.nextOf
    refine wpAny_bind (wpAny_callSpecial?_slot (name := Str.ofString "__next__") ty F.slot_zip_next (wpAny_call_entry F.slot_zip_next ty F.entry_zip_next ?_ (F.args_zip_next_1 _)))
    exact zip_next_item D hz gI gO g1 g2 gx gy hx hy fun h' b1 b2 b3 b4 b5 b6 b7 => wpAny_pure (q h' _ false b1 (.inl rfl) ⟨_, _, b2⟩ b3 b4 b5 b6 b7)
  · have ty : s.TypeIs (.ref z) "zip" := ⟨_, hz, rfl⟩
    unfold Builtin.SmallTypes.nextOf
    refine wpAny_bind (wpAny_callSpecial?_slot (name := Str.ofString "__next__") ty F.slot_zip_next (wpAny_call_entry F.slot_zip_next ty F.entry_zip_next ?_ (F.args_zip_next_1 _)))
    exact zip_next_item_held D hz hT gI g1 g2 gx gy hx hy fun h' b1 b3 b4 b5 b6 b7 => wpAny_pure (q h' T true b1 (.inr ⟨f, hz⟩) ⟨_, _, b7 _ _ D.TOz D.TOi1 D.TOi2 gO⟩ b3 b4 b5 b6 fun c o c1 c2 c3 c4 => b7 c o c1 c3 c4)
theorem zip_end_at {Q : Fin → Shared → Prop} {T : Addr} {f : Bool} {oT : Obj} (hh : A.handled = none) (D : ZipApart z TI TO i1 i2 l1 l2) (gz : IsZipHeld s.heap z TI TO T f) (gT : s.heap.get? T = some oT) (gI : IsPair s.heap TI (.ref i1) (.ref i2))
    (g1 : s.heap.IsListIter i1 l1 k1) (g2 : s.heap.IsListIter i2 l2 k2) (gx : s.heap.IsList l1 xs) (gy : s.heap.IsList l2 ys) (ge : xs[k1]? = none ∨ ys[k2]? = none)
    (q : ∀ h' c, IsZipHeld h' z TI TO T true → (∀ c o, c ≠ z → c ≠ i1 → c ≠ i2 → s.heap.get? c = some o → h'.get? c = some o) → (∃ o, h'.get? c = some o ∧ o.cls = .type "StopIteration") → E (.ref c) { s with heap := h' }) :
    wpAny (model prog w) A (Builtin.«zip.__next__» ⟨[.ref z], []⟩) Q E s := by
  show wpAny _ _ (field (.ref z) 2 >>= _) _ _ _
  refine wpAny_bind (wpAny_field gz rfl (x := .bool false) rfl ?_)
  show wpAny _ _ (field (.ref z) 3 >>= _) _ _ _
  refine wpAny_bind (wpAny_field gz rfl (x := .ref TI) rfl (wpAny_bind (wpAny_seqItems gI rfl ?_)))
  show wpAny _ _ (Builtin.SmallTypes.ownedTupleIsFree (.ref z) >>= _) _ _ _
  refine wpAny_bind (wpAny_tupleHeld_zip gz gT fun m1 zm1 km1 => ?_)
  simp only [Bool.false_eq_true, if_false]
  refine wpAny_bind ?_
  rw [← Array.forIn_toList]
  simp only [List.forIn_cons, List.forIn_nil]
  refine wpAny_bind (wpAny_bind (wpAny_holding ?_))
  show wpAny _ _ (Builtin.SmallTypes.nextOf (.ref i1) >>= _) _ _ _
  cases hx : xs[k1]? with
  | none => exact wpAny_bind (wpAny_nextOf_list_end (s := { s with heap := m1 }) hh (g1.extBut km1.extBut D.i1z) (gx.extBut km1.extBut D.l1z) hx fun m2 c km2 hc =>
      q m2 c (km2 _ _ D.i1z.symm zm1) (fun d o d1 d2 _ r => km2 _ _ d2 (km1.extBut _ _ d1 r)) hc)
  | some x =>
    have hy : ys[k2]? = none := by
      rcases ge with g | g
      · rw [hx] at g; cases g
      · exact g
    refine wpAny_bind (wpAny_nextOf_list_item (s := { s with heap := m1 }) (g1.extBut km1.extBut D.i1z) (gx.extBut km1.extBut D.l1z) hx fun m2 it2 km2 => wpAny_pure (wpAny_pure ?_))
    refine wpAny_bind (wpAny_bind (wpAny_holding ?_))
    show wpAny _ _ (Builtin.SmallTypes.nextOf (.ref i2) >>= _) _ _ _
    exact wpAny_bind (wpAny_nextOf_list_end (s := { s with heap := m2 }) hh ((g2.extBut km1.extBut D.i2z).extBut km2.extBut D.i12.symm) ((gy.extBut km1.extBut D.l2z).extBut km2.extBut D.l2i1) hy fun m3 c km3 hc =>
      q m3 c (km3 _ _ D.i2z.symm (km2.extBut _ _ D.i1z.symm zm1)) (fun d o d1 d2 d3 r => km3 _ _ d3 (km2.extBut _ _ d2 (km1.extBut _ _ d1 r))) hc)
/-- enumerate's end over a zip -/
theorem pyNext_ez_end {e : Addr} {i : Int} {old : Value} {T : Addr} {f : Bool} {oT : Obj} {Q : Option Value → Shared → Prop} (hh : A.handled = none) (he : IsEnum s.heap e z i old) (D : ZipApart z TI TO i1 i2 l1 l2) (gz : IsZipHeld s.heap z TI TO T f) (gT : s.heap.get? T = some oT) (gI : IsPair s.heap TI (.ref i1) (.ref i2))
    (g1 : s.heap.IsListIter i1 l1 k1) (g2 : s.heap.IsListIter i2 l2 k2) (gx : s.heap.IsList l1 xs) (gy : s.heap.IsList l2 ys) (hn : xs[k1]? = none ∨ ys[k2]? = none)
    (q : ∀ h', IsZipHeld h' z TI TO T true → (∀ c o, c ≠ z → c ≠ i1 → c ≠ i2 → s.heap.get? c = some o → h'.get? c = some o) → Q none { s with heap := h' }) : wpAny (model prog w) A (pyNext (.ref e)) Q E s := by
  have ty : s.TypeIs (.ref e) "enumerate" := ⟨_, he, rfl⟩
  have tz : s.TypeIs (.ref z) "zip" := ⟨_, gz, rfl⟩
  unfold pyNext
  refine wpAny_bind (wpAny_attempt (wpAny_callSpecial?_slot (name := Str.ofString "__next__") ty F.slot_enumerate_next (wpAny_call_entry F.slot_enumerate_next ty F.entry_enumerate_next ?_ (F.args_enumerate_next_1 _))))
  show wpAny _ _ (field (.ref e) 2 >>= _) _ _ _
  refine wpAny_bind (wpAny_field he rfl (x := .ref z) rfl (wpAny_bind ?_))
  unfold Builtin.SmallTypes.nextOf
  refine wpAny_bind (wpAny_callSpecial?_slot (name := Str.ofString "__next__") tz F.slot_zip_next (wpAny_call_entry F.slot_zip_next tz F.entry_zip_next ?_ (F.args_zip_next_1 _)))
  refine zip_end_at hh D gz gT gI g1 g2 gx gy hn fun h' c bz k hc => ?_
  obtain ⟨o, ho, hcl⟩ := hc
  exact wpAny_bind (wpAny_isInstance (T := "StopIteration") (b := true) ⟨o, ho, hcl⟩ isSubtype_stop (wpAny_pure (q _ bz k)))
theorem pyNext_ez {e : Addr} {i : Nat} {old : Value} {Q : Option Value → Shared → Prop} (he : IsEnum s.heap e z i old) (D : ZipApart z TI TO i1 i2 l1 l2) (ez : e ≠ z) (eO : e ≠ TO) (e1 : e ≠ i1) (e2 : e ≠ i2) (hz : ZAt s.heap z TI TO) (gI : IsPair s.heap TI (.ref i1) (.ref i2)) (gO : IsPair s.heap TO a b)
    (g1 : s.heap.IsListIter i1 l1 k1) (g2 : s.heap.IsListIter i2 l2 k2) (gx : s.heap.IsList l1 xs) (gy : s.heap.IsList l2 ys) (hx : xs[k1]? = some x) (hy : ys[k2]? = some y)
    (q : ∀ h1 h' T f, IsZipHeld h1 z TI TO T f → (T = s.heap.objs.size ∨ ∃ f0, IsZipHeld s.heap z TI TO T f0) → (∃ a b, IsPair h1 TO a b) → h1.IsListIter i1 l1 (k1 + 1) → h1.IsListIter i2 l2 (k2 + 1) → IsPair h1 s.heap.objs.size x y →
      h1.objs.size = s.heap.objs.size + 1 → (∀ c o, c ≠ z → c ≠ TO → c ≠ i1 → c ≠ i2 → s.heap.get? c = some o → h1.get? c = some o) →
      IsEnumOut h' e z ((i : Int) + 1) (.ref s.heap.objs.size) (s.heap.objs.size + 1) → h'.get? (s.heap.objs.size + 1) = some { cls := .type "tuple", data := .seq #[.int i s.toks, .ref s.heap.objs.size] } → h'.objs.size = s.heap.objs.size + 2 →
      (∀ b o, b ≠ e → h1.get? b = some o → h'.get? b = some o) → Q (some (.ref (s.heap.objs.size + 1))) { s with heap := h', toks := s.toks + 1 }) : wpAny (model prog w) A (pyNext (.ref e)) Q E s := by
  have ty : s.TypeIs (.ref e) "enumerate" := ⟨_, he, rfl⟩
  unfold pyNext
  refine wpAny_bind (wpAny_attempt (wpAny_callSpecial?_slot (name := Str.ofString "__next__") ty F.slot_enumerate_next (wpAny_call_entry F.slot_enumerate_next ty F.entry_enumerate_next ?_ (F.args_enumerate_next_1 _))))
  refine enum_any (P := fun v h1 => v = .ref s.heap.objs.size ∧ ∃ T f, IsZipHeld h1 z TI TO T f ∧ (T = s.heap.objs.size ∨ ∃ f0, IsZipHeld s.heap z TI TO T f0) ∧ (∃ a b, IsPair h1 TO a b) ∧ h1.IsListIter i1 l1 (k1 + 1) ∧ h1.IsListIter i2 l2 (k2 + 1) ∧ IsPair h1 s.heap.objs.size x y ∧
      h1.objs.size = s.heap.objs.size + 1 ∧ ∀ c o, c ≠ z → c ≠ TO → c ≠ i1 → c ≠ i2 → s.heap.get? c = some o → h1.get? c = some o) he
    (fun R hR => nextOf_zip D hz gI gO g1 g2 gx gy hx hy fun h' T f b1 b2 b3 b4 b5 b6 b7 b8 => hR _ h' ⟨rfl, T, f, b1, b2, b3, b4, b5, b6, b7, b8⟩) (fun v h1 hp => ?_) fun v h1 h' hp o1 o2 o3 o4 => ?_
  · obtain ⟨_, T, f, _, _, _, _, _, _, _, b8⟩ := hp
    exact b8 _ _ ez eO e1 e2 he
  · obtain ⟨rfl, T, f, b1, b2, b3, b4, b5, b6, b7, b8⟩ := hp
    rw [b7] at o1 o2 o3 ⊢
    exact wpAny_pure (q h1 h' T f b1 b2 b3 b4 b5 b6 b7 b8 o1 o2 o3 o4)
end
end GL
namespace GL
open PySem PySem.Spec PySem.W
theorem meets_ez (z TI TO : Addr) (f0 : Value) :
    Meets (Builtin.«enumerate.__new__» ⟨[.type "enumerate", .ref z], []⟩) (fun _ R s => IsZip s.heap z TI TO f0 ∧
      R (.ok (.ret (.ref s.heap.objs.size))) { s with heap := s.heap.push { cls := .type "enumerate", data := .fields #[.none, .bool false, .ref z, rawInt 0, .none, .none] } }) :=
  .of_wp fun prog w A R s h => by
    obtain ⟨hp, gs, dr, tk, os⟩ := s
    obtain ⟨hz, h⟩ := h
    have sb := sub_enumerate
    have it : ∀ {A : Around} {Q : Value → Shared → Prop} {E : Value → Shared → Prop}, Q (.ref z) ⟨hp, gs, dr, tk, os⟩ → wpAny (model prog w) A (pyIter (.ref z)) Q E ⟨hp, gs, dr, tk, os⟩ := fun q => wpAny_pyIter_zip hz q
    wp_walk using it
    refine wpAny_stack_any fun st => wpAny_pure ?_
    split
    · rename_i c _ _ _ _ _
      cases hc : (c == Value.type "enumerate")
      · wp_walk using it
        exact ⟨_, rfl, h⟩
      · wp_walk using it
        exact ⟨_, rfl, h⟩
    · wp_walk using it
      exact ⟨_, rfl, h⟩
section
variable {prog : Program} {w : World} {A : Around} {E : Value → Shared → Prop} {s : Shared}
theorem call_ez {z TI TO : Addr} {f0 : Value} {Q : Value → Shared → Prop} (hz : IsZip s.heap z TI TO f0)
    (h : ∀ h', IsEnum h' s.heap.objs.size z 0 .none → h'.objs.size = s.heap.objs.size + 1 → (∀ b o, s.heap.get? b = some o → h'.get? b = some o) → Q (.ref s.heap.objs.size) { s with heap := h' }) :
    wpAny (model prog w) A (call (.type "enumerate") [.ref z]) Q E s := by
  refine callType_new F.called_enumerate (by decide) (F.typeCall_enumerate_1 _) (F.newCall_enumerate_1 _) (fun obj => F.args_object_init_2 obj _) F.entry_enumerate_new (meets_ez z TI TO f0) ⟨hz, ?_⟩
  show _ ∧ _
  have g : IsEnum (s.heap.push { cls := .type "enumerate", data := .fields #[.none, .bool false, .ref z, rawInt 0, .none, .none] }) s.heap.objs.size z 0 .none := Heap.get?_push_size _ rfl
  exact ⟨⟨_, g, rfl⟩, h _ g (Heap.size_push ..) fun b o x => Heap.get?_push_of_some _ x⟩
end
end GL
namespace GL
open PySem PySem.Spec PyProof.Rows L2
def zFree (z TI TO : Addr) : HO := .ext fun h => IsZip h z TI TO .none
def zHeld (z TI TO T : Addr) : HO := .ext fun h => ∃ f, IsZipHeld h z TI TO T f
def Zst (z TI TO : Addr) (H : Hp) : Prop := H z = some (zFree z TI TO) ∨ ∃ T xs, H z = some (zHeld z TI TO T) ∧ H T = some (.tup xs)
def Itez (K : PySem.W.Frag) (a b z TI TO : Addr) : It :=
  ⟨fun i H => Zst z TI TO H ∧ ∃ (xs ys : List V) (x y : V), SqL K H a xs ∧ SqL K H b ys ∧ xs[i]? = some x ∧ ys[i]? = some y,
    fun i H v H' => ∃ P T x y zo, v = .ref P ∧ H P = none ∧ H T = none ∧ T ≠ P ∧ H' = upd (upd (upd H z zo) T (.tup [x, y])) P (.tup [.int (i : Nat), .ref T]) ∧ (∃ T ts, H' z = some (zHeld z TI TO T) ∧ H' T = some (.tup ts)) ∧ (∀ xs, SqL K H a xs → xs[i]? = some x) ∧ ∀ ys, SqL K H b ys → ys[i]? = some y,
    fun i H => (∃ T xs, H z = some (zHeld z TI TO T) ∧ H T = some (.tup xs)) ∧ ∃ xs ys : List V, SqL K H a xs ∧ SqL K H b ys ∧ (xs.length ≤ i ∨ ys.length ≤ i)⟩
theorem zst_at {X : Cx} {pins : List (Addr × Obj)} {σ : L2.St} {H : Hp} {s : Shared} {z TI TO : Addr} (I : Inv X pins σ H s) (h : Zst z TI TO H) : ZAt s.heap z TI TO := by
  rcases h with h | ⟨T, xs, h, hT⟩
  · exact .inl (I.hok z _ h).1
  · obtain ⟨f, q⟩ := (I.hok z _ h).1
    have hO : ObjOk X.prog X.w H s.heap T (.tup xs) := I.hok T _ hT
    obtain ⟨_, its, rv, o, h1, _⟩ := hO
    exact .inr ⟨T, f, o, q, h1⟩
theorem turn_ez {P : Program} {w : World} {K : PySem.W.Frag} {elts : List Expr} {kk : Nat} {tpos : Pos} {a b e z TI TO i1 i2 : Addr} (D : ZipApart z TI TO i1 i2 a b) (ez : e ≠ z) (eI : e ≠ TI) (eO : e ≠ TO) (e1 : e ≠ i1) (e2 : e ≠ i2) :
    Turn P w K (.Tuple elts kk tpos) (Itez K a b z TI TO) [e, TI, TO, i1, i2] e (fun i h => (∃ old, IsEnum h e z ((i : Nat) : Int) old) ∧ IsPair h TI (.ref i1) (.ref i2) ∧ (∃ x y, IsPair h TO x y) ∧ h.IsListIter i1 a i ∧ h.IsListIter i2 b i) where
  mem := by simp
  obj := fun i h st c hc => by
    obtain ⟨⟨old, he⟩, hI, ⟨x, y, hO⟩, ⟨o1, g1, _, d1⟩, ⟨o2, g2, _, d2⟩⟩ := st
    have h5 : c = e ∨ c = TI ∨ c = TO ∨ c = i1 ∨ c = i2 := by simpa using hc
    rcases h5 with rfl | rfl | rfl | rfl | rfl
    · exact ⟨_, he, fun v q => nomatch q⟩
    · exact ⟨_, hI, fun v q => nomatch q⟩
    · exact ⟨_, hO, fun v q => nomatch q⟩
    · exact ⟨o1, g1, fun v q => by rw [d1] at q; cases q⟩
    · exact ⟨o2, g2, fun v q => by rw [d2] at q; cases q⟩
  keep := fun i h h' st k => by
    obtain ⟨⟨old, he⟩, hI, ⟨x, y, hO⟩, h1, h2⟩ := st
    exact ⟨⟨old, k e (by simp) _ he⟩, k TI (by simp) _ hI, ⟨x, y, k TO (by simp) _ hO⟩, h1.at fun o q => k i1 (by simp) o q, h2.at fun o q => k i2 (by simp) o q⟩
  item := by
    intro X hP hw hK hc i pins s σ H E I hf st hg
    subst hP hw hK
    obtain ⟨⟨old, he⟩, hI, ⟨x0, y0, hO⟩, h1, h2⟩ := st
    obtain ⟨hz, xs, ys, x, y, qx, qy, hx, hy⟩ := hg
    obtain ⟨its, rv, p1, _⟩ := I.list qx
    obtain ⟨its2, rv2, p2, _⟩ := I.list qy
    obtain ⟨u, hu, ru⟩ := rv.get hx
    obtain ⟨u2, hu2, ru2⟩ := rv2.get hy
    have hZ := zst_at I hz
    have zl : z < s.heap.objs.size := by
      rcases hZ with q | ⟨_, _, _, q, _⟩
      · exact Heap.lt_size q
      · exact Heap.lt_size q
    refine pyNext_ez he D ez eO e1 e2 hZ hI hO h1 h2 p1.isList p2.isList (x := u) (y := u2) (by simpa using hu) (by simpa using hu2) fun g1 g2 T f b1 b2 b3 b4 b5 b6 b7 b8 o1 o2 o3 o4 => ?_
    refine ⟨_, rfl, wpAny_letOwnedTupleGo_enum (s := { s with heap := g2, toks := s.toks + 1 }) o1 fun g3 e3 sb => ?_⟩
    have el : e < s.heap.objs.size := Heap.lt_size he
    have up : ∀ c o, c ≠ e → g1.get? c = some o → g3.get? c = some o := fun c o n q => (sb.2 c n).trans (o4 c o n q)
    have n1 : H s.heap.objs.size = none := I.hok.fresh (Nat.le_refl _)
    have n2 : H (s.heap.objs.size + 1) = none := I.hok.fresh (Nat.le_succ _)
    have ne12 : s.heap.objs.size ≠ s.heap.objs.size + 1 := Nat.ne_of_lt (Nat.lt_succ_self _)
    have old3 : ∀ c o, c ∉ [e, TI, TO, i1, i2] → c ≠ z → s.heap.get? c = some o → g3.get? c = some o := fun c o hc nz q => up c o (fun z' => hc (by simp [z'])) (b8 c o nz (fun z' => hc (by simp [z'])) (fun z' => hc (by simp [z'])) (fun z' => hc (by simp [z'])) q)
    have lt_of : ∀ c, c ∈ [e, TI, TO, i1, i2] → c < s.heap.objs.size := fun c hc => by
      have h5 : c = e ∨ c = TI ∨ c = TO ∨ c = i1 ∨ c = i2 := by simpa using hc
      rcases h5 with rfl | rfl | rfl | rfl | rfl
      · exact el
      · exact Heap.lt_size hI
      · exact Heap.lt_size hO
      · obtain ⟨_, q, _⟩ := h1; exact Heap.lt_size q
      · obtain ⟨_, q, _⟩ := h2; exact Heap.lt_size q
    have zs : ∃ ob, H z = some ob := by rcases hz with q | ⟨_, _, q, _⟩ <;> exact ⟨_, q⟩
    obtain ⟨zob, hzob⟩ := zs
    have T3 : g3.get? s.heap.objs.size = some { cls := .type "tuple", data := .seq #[u, u2] } := up _ _ (Nat.ne_of_gt el) b6
    have P3 : g3.get? (s.heap.objs.size + 1) = some { cls := .type "tuple", data := .seq #[.int i s.toks, .ref s.heap.objs.size] } := (sb.2 _ (Nat.ne_of_gt (Nat.lt_succ_of_lt el))).trans o2
    have z3 : IsZipHeld g3 z TI TO T f := up _ _ ez.symm b1
    let H' : Hp := upd (upd (upd H z (zHeld z TI TO T)) s.heap.objs.size (.tup [x, y])) (s.heap.objs.size + 1) (.tup [.int (i : Nat), .ref s.heap.objs.size])
    have nzT : z ≠ s.heap.objs.size := Nat.ne_of_lt zl
    have nzP : z ≠ s.heap.objs.size + 1 := Nat.ne_of_lt (Nat.lt_succ_of_lt zl)
    have hz' : H' z = some (zHeld z TI TO T) := by show upd (upd (upd H z _) _ _) _ _ z = _; rw [upd_ne nzP, upd_ne nzT, upd_same]
    have hT' : H' s.heap.objs.size = some (.tup [x, y]) := by show upd (upd (upd H z _) _ _) _ _ _ = _; rw [upd_ne ne12, upd_same]
    have hP' : H' (s.heap.objs.size + 1) = some (.tup [.int (i : Nat), .ref s.heap.objs.size]) := upd_same
    have ho' : ∀ c, c ≠ z → c ≠ s.heap.objs.size → c ≠ s.heap.objs.size + 1 → H' c = H c := fun c a1 a2 a3 => by show upd (upd (upd H z _) _ _) _ _ c = _; rw [upd_ne a3, upd_ne a2, upd_ne a1]
    have zext : ∀ {o : HO}, H z = some o → ∃ φ, o = .ext φ := fun {o} q => by
      rcases hz with q' | ⟨_, _, q', _⟩ <;> (rw [q] at q'; cases q'; exact ⟨_, rfl⟩)
    have keepT : ∀ c xs, H c = some (.tup xs) → H' c = some (.tup xs) := fun c xs q => by
      refine (ho' c (fun z' => ?_) (fun z' => ?_) fun z' => ?_).trans q
      · rw [z'] at q; obtain ⟨φ, r⟩ := zext q; cases r
      · rw [z', n1] at q; cases q
      · rw [z', n2] at q; cases q
    have Z' : ∃ T ts, H' z = some (zHeld z TI TO T) ∧ H' T = some (.tup ts) := by
      refine ⟨T, ?_⟩
      rcases b2 with rfl | ⟨f0, b2⟩
      · exact ⟨_, hz', hT'⟩
      · rcases hz with q | ⟨T0, xs0, q, qT⟩
        · have r : IsZip s.heap z TI TO .none := (I.hok z _ q).1
          have r2 := r.symm.trans b2
          simp [rawInt] at r2
        · obtain ⟨f1, r⟩ := (I.hok z _ q).1
          have r2 := r.symm.trans b2
          have e0 : T0 = T := by
            simp [rawInt] at r2
            exact Int.ofNat.inj r2.1
          subst e0
          exact ⟨xs0, hz', keepT _ _ qT⟩
    have hok3 : HOk X.prog X.w H' g3 := fun c o q => by
      by_cases cz : c = z
      · subst cz
        rw [hz'] at q
        cases q
        exact ⟨⟨f, z3⟩, ⟨_, z3⟩, fun h1 h2 ⟨f1, r⟩ k => ⟨f1, k _ r⟩⟩
      by_cases cT : c = s.heap.objs.size
      · subst cT
        rw [hT'] at q
        cases q
        exact ⟨by show 2 ≤ sizeLine; decide, [u, u2], .cons ru (.cons ru2 .nil), ⟨_, T3, rfl, _, rfl⟩⟩
      by_cases cP : c = s.heap.objs.size + 1
      · subst cP
        rw [hP'] at q
        cases q
        exact ⟨by show 2 ≤ sizeLine; decide, [.int i s.toks, .ref s.heap.objs.size], .cons ⟨_, rfl⟩ (.cons rfl .nil), ⟨_, P3, rfl, _, rfl⟩⟩
      rw [ho' c cz cT cP] at q
      have ncf : ∀ d o', H d = some o' → d ∉ [e, TI, TO, i1, i2] := fun d o' r m => by rw [(hf d m).1] at r; cases r
      refine (I.hok c o q).stay (fun d v hd r => ?_) (fun d r => ?_) (fun d xs r => keepT d xs r)
      · rcases hd with rfl | hd
        · exact old3 _ _ (ncf _ _ q) cz r
        · refine old3 _ _ (ncf _ _ hd) (fun z' => ?_) r
          rw [z'] at hd; obtain ⟨φ, r2⟩ := zext hd; cases r2
      · refine (ho' d (fun z' => ?_) (fun z' => ?_) fun z' => ?_).trans r
        · rw [z'] at r; obtain ⟨φ, r2⟩ := zext r; cases r2
        · rw [z', n1] at r; cases r
        · rw [z', n2] at r; cases r
    have J : Inv X pins σ H' { s with heap := g3, toks := s.toks + 1 } := by
      refine I.step (g' := s.gens) (d' := s.drawn) (ch := [e, TI, TO, i1, i2]) (fun c hc => ⟨(hf c hc).2.2.2.1, (hf c hc).2.1, (hf c hc).2.2.2.2.1, (hf c hc).2.2.2.2.2⟩)
        (fun c o _ _ hc q n => old3 c o hc (fun z' => by rw [z', hzob] at n; cases n) q) (fun c o _ _ hc q n => ⟨o.slots, old3 c o hc (fun z' => by rw [z', hzob] at n; cases n) q⟩)
        (fun c o hc q n => ?_) (fun c o hc q => ?_) (fun c xs q => keepT c xs q) (fun c o u q => ?_) (fun c ps q => ⟨#[], ?_⟩) (fun m hm => ?_) hok3 I.bare
      · have cl := Heap.lt_size q
        rw [ho' c (fun z' => by rw [z', hzob] at n; cases n) (Nat.ne_of_lt cl) (Nat.ne_of_lt (Nat.lt_succ_of_lt cl))]; exact n
      · by_cases cz : c = z
        · subst cz; exact ⟨_, z3⟩
        · exact ⟨o, old3 c o hc cz q⟩
      · refine (ho' c (fun z' => ?_) (fun z' => ?_) fun z' => ?_).trans q
        · rw [z'] at q; obtain ⟨φ, r⟩ := zext q; cases r
        · rw [z', n1] at q; cases q
        · rw [z', n2] at q; cases q
      · have e' : H' c = H c := ho' c (fun z' => by rw [z'] at q; obtain ⟨φ, r⟩ := zext q; cases r) (fun z' => by rw [z', n1] at q; cases q) (fun z' => by rw [z', n2] at q; cases q)
        rw [e', q]; simp
      · obtain ⟨o, es, ep, ho, r⟩ := hm
        exact ⟨o, es, ep, old3 _ o (fun z' => (hf _ z').2.1 rfl) (fun z' => by have q := I.free; rw [z', hzob] at q; cases q) ho, r⟩
    refine ⟨.ref (s.heap.objs.size + 1), H', J, rfl, ⟨_, s.heap.objs.size, x, y, _, rfl, n2, n1, ne12, rfl, Z', fun l r => by rw [I.list_inj r qx]; exact hx, fun l r => by rw [I.list_inj r qy]; exact hy⟩, ⟨⟨.ref s.heap.objs.size, ?_⟩, ?_, ?_, ?_, ?_⟩, fun c hc => ?_⟩
    · have e1 : ((i + 1 : Nat) : Int) = (i : Int) + 1 := by omega
      rw [e1]; exact e3
    · exact up _ _ eI.symm (b8 _ _ D.TIz D.TITO D.TIi1 D.TIi2 hI)
    · obtain ⟨a', b', q⟩ := b3
      exact ⟨a', b', up _ _ eO.symm q⟩
    · exact b4.at fun o q => up _ o e1.symm q
    · exact b5.at fun o q => up _ o e2.symm q
    · have cl := lt_of c hc
      rw [ho' c (fun z' => by have q := (hf c hc).1; rw [z', hzob] at q; cases q) (Nat.ne_of_lt cl) (Nat.ne_of_lt (Nat.lt_succ_of_lt cl))]
      exact (hf c hc).1
  done := by
    intro X hP hw hK hc i pins s σ H E I hf st hg
    subst hP hw hK
    obtain ⟨⟨old, he⟩, hI, ⟨x0, y0, hO⟩, h1, h2⟩ := st
    obtain ⟨⟨T, ts, hz, hT⟩, xs, ys, qx, qy, hend⟩ := hg
    obtain ⟨its, rv, p1, _⟩ := I.list qx
    obtain ⟨its2, rv2, p2, _⟩ := I.list qy
    have l1 := rv.length
    have l2 := rv2.length
    have hn : its.toArray[i]? = none ∨ its2.toArray[i]? = none := by
      rcases hend with q | q
      · exact .inl (by simp; omega)
      · exact .inr (by simp; omega)
    obtain ⟨f, gz⟩ := (I.hok z _ hz).1
    have hO2 : ObjOk X.prog X.w H s.heap T (.tup ts) := I.hok T _ hT
    obtain ⟨_, _, _, oT, gT, _⟩ := hO2
    have hd : X.A.handled = none := I.ok.hd hc
    refine pyNext_ez_end hd he D gz gT hI h1 h2 p1.isList p2.isList hn fun g bz k => ⟨rfl, ?_⟩
    have ncf : ∀ d o', H d = some o' → d ∉ [e, TI, TO, i1, i2] := fun d o' r m => by rw [(hf d m).1] at r; cases r
    have k' : ∀ c o, c ∉ [e, TI, TO, i1, i2] → c ≠ z → s.heap.get? c = some o → g.get? c = some o := fun c o hc nz r => k c o nz (fun z' => hc (by simp [z'])) (fun z' => hc (by simp [z'])) r
    refine I.step (g' := s.gens) (d' := s.drawn) (t' := s.toks) (ch := [e, TI, TO, i1, i2]) (fun c hc => ⟨(hf c hc).2.2.2.1, (hf c hc).2.1, (hf c hc).2.2.2.2.1, (hf c hc).2.2.2.2.2⟩)
      (fun c o _ _ hc q n => k' c o hc (fun z' => by rw [z', hz] at n; cases n) q) (fun c o _ _ hc q n => ⟨o.slots, k' c o hc (fun z' => by rw [z', hz] at n; cases n) q⟩)
      (fun c o hc q n => n) (fun c o hc q => ?_) (fun c xs q => q) (fun c o u q => q) (fun c ps q => ⟨#[], by rw [q]; simp⟩) (fun m hm => ?_) (fun c o q => ?_) I.bare
    · by_cases cz : c = z
      · subst cz; exact ⟨_, bz⟩
      · exact ⟨o, k' c o hc cz q⟩
    · obtain ⟨o, es, ep, ho, r⟩ := hm
      exact ⟨o, es, ep, k' _ o (fun z' => (hf _ z').2.1 rfl) (fun z' => by have q := I.free; rw [z', hz] at q; cases q) ho, r⟩
    · by_cases cz : c = z
      · subst cz
        rw [hz] at q
        cases q
        exact ⟨⟨true, bz⟩, ⟨_, bz⟩, fun h1 h2 ⟨f1, r⟩ k => ⟨f1, k _ r⟩⟩
      · refine (I.hok c o q).stay (fun d v hd r => ?_) (fun d r => r) (fun d xs r => r)
        rcases hd with rfl | hd
        · exact k' _ _ (ncf _ _ q) cz r
        · refine k' _ _ (ncf _ _ hd) (fun z' => ?_) r
          rw [z', hz] at hd; cases hd
  self := fun A i s Q E st h => let ⟨⟨_, he⟩, _⟩ := st; wpAny_pyIter_enum he h
end GL
namespace GL
open PySem PySem.Spec PyProof.Rows L2
def iEZ (K : PySem.W.Frag) (ta : TA) : TI := fun σ H R => ta σ H fun vs H1 => ∃ a b xs ys, vs = [.ref a, .ref b] ∧ SqL K H1 a xs ∧ SqL K H1 b ys ∧ ∀ z TI TO, H1 z = none → R (Itez K a b z TI TO) (upd H1 z (zFree z TI TO))
theorem pi_ez {X : Cx} {e e2 : Expr} {ta : TA} {p p2 pos pos2 tpos : Pos} {elts : List Expr} {kk : Nat} (hg : Gl X "enumerate") (hm : X.mg "enumerate" = none) (hg2 : Gl X "zip") (hm2 : X.mg "zip" = none) (ha : PA X [e, e2] ta)
    (hs : starEach [e, e2] X.env = (false, eval e X.env) :: starEach [e2] X.env := by rfl) (hpl : (backTo pos2 (starEach [e2] X.env)).any (·.1) = false := by rfl)
    (hs1 : starEach [.Call (.Name "zip" p2) [e, e2] [] pos2] X.env = [(false, eval (.Call (.Name "zip" p2) [e, e2] [] pos2) X.env)] := by rfl) :
    PI X (.Tuple elts kk tpos) (.Call (.Name "enumerate" p) [.Call (.Name "zip" p2) [e, e2] [] pos2] [] pos) (iEZ X.K ta) := by
  refine ⟨fun pins s σ H R I h => ?_⟩
  refine Call_ (ld_blt I hg hm boot_enumerate (PyProof.Rows.callWith_type1 ?_ hs1 rfl))
  rw [hs1]
  show wpAny _ _ (spliced ((false, _) :: [])) _ _ s
  refine Calls.spliced_cons ?_
  show wpAny _ _ (eval _ X.env) _ _ s
  refine (Call_ (ld_blt I hg2 hm2 PyProof.Rows.boot_zip (PyProof.Rows.callWith_type1 (thn (ha.run pos2 pins s σ H _ I h) fun us s1 ⟨vs, H1, I1, r1, q1⟩ => ?_) hs hpl)))
  obtain ⟨a, b, xs, ys, rfl, hqx, hqy, q⟩ := q1
  cases r1 with
  | cons r rr =>
    cases rr with
    | cons r' rr =>
      cases rr
      cases r
      cases r'
      obtain ⟨its, rv, p1, _⟩ := I1.list hqx
      obtain ⟨its2, rv2, p2', _⟩ := I1.list hqy
      have la : a < s1.heap.objs.size := p1.lt
      have lb : b < s1.heap.objs.size := p2'.lt
      refine call_zip_2 p1.isList p2'.isList fun h' hz hTI hTO h1 h2 hsz hk => ?_
      refine Calls.spliced_nil ?_
      refine call_ez (s := { s1 with heap := h' }) hz fun h2' he hsz2 hk2 => wpAny_pyIter_enum he ?_
      have kk2 : ∀ c o, s1.heap.get? c = some o → h2'.get? c = some o := fun c o r => hk2 c o (hk c o r)
      have hz2 : IsZip h2' (s1.heap.objs.size + 4) (s1.heap.objs.size + 2) (s1.heap.objs.size + 3) .none := hk2 _ _ hz
      have zn : H1 (s1.heap.objs.size + 4) = none := I1.hok.fresh (Nat.le_add_right _ _)
      have J : Inv X pins σ (upd H1 (s1.heap.objs.size + 4) (zFree (s1.heap.objs.size + 4) (s1.heap.objs.size + 2) (s1.heap.objs.size + 3))) { s1 with heap := h2' } :=
        I1.laid (t' := s1.toks) (a := s1.heap.objs.size + 4) kk2 (Nat.le_add_right _ _) ⟨hz2, ⟨_, hz2⟩, fun g1 g2 r k => k _ r⟩
      have es : ({ s1 with heap := h' } : Shared).heap.objs.size = s1.heap.objs.size + 5 := hsz
      rw [es] at he ⊢
      have ne5 : ∀ j, j < 5 → s1.heap.objs.size + 5 ≠ s1.heap.objs.size + j := fun j hj => by
        generalize s1.heap.objs.size = n0
        omega
      have D := PySem.W.ktu_apart s1.heap.objs.size a b la lb
      refine ⟨s1.heap.objs.size + 5, [s1.heap.objs.size + 5, s1.heap.objs.size + 2, s1.heap.objs.size + 3, s1.heap.objs.size, s1.heap.objs.size + 1], _, _, _, rfl, J, turn_ez D (ne5 4 (by decide)) (ne5 2 (by decide)) (ne5 3 (by decide)) (ne5 0 (by decide)) (ne5 1 (by decide)),
        ⟨⟨.none, he⟩, hk2 _ _ hTI, ⟨_, _, hk2 _ _ hTO⟩, h1.at fun o r => hk2 _ o r, h2.at fun o r => hk2 _ o r⟩, fun c hc => ?_, q _ _ _ zn⟩
      have h5 : c = s1.heap.objs.size + 5 ∨ c = s1.heap.objs.size + 2 ∨ c = s1.heap.objs.size + 3 ∨ c = s1.heap.objs.size ∨ c = s1.heap.objs.size + 1 := by simpa using hc
      have ne4 : ∀ j, j ≠ 4 → s1.heap.objs.size + j ≠ s1.heap.objs.size + 4 := fun j hj => by
        generalize s1.heap.objs.size = n0
        omega
      have hle : s1.heap.objs.size ≤ c ∧ c ≠ s1.heap.objs.size + 4 := by
        rcases h5 with rfl | rfl | rfl | rfl | rfl
        · exact ⟨Nat.le_add_right _ _, ne4 5 (by decide)⟩
        · exact ⟨Nat.le_add_right _ _, ne4 2 (by decide)⟩
        · exact ⟨Nat.le_add_right _ _, ne4 3 (by decide)⟩
        · exact ⟨Nat.le_refl _, ne4 0 (by decide)⟩
        · exact ⟨Nat.le_add_right _ _, ne4 1 (by decide)⟩
      refine I1.fpOk hle.1 ?_
      rw [upd_ne hle.2]
      exact I1.hok.fresh hle.1
end GL
namespace GL
open PySem PySem.Spec PyProof.Rows L2
def clsB (K : PySem.W.Frag) (C : Addr) : Bool :=
  decide (PySem.W.findIn K (.ref C) "__setattr__" = some (some (.builtin "object.__setattr__"))) && decide (PySem.W.subIn K (.ref C) (.type "BaseException") = some true) &&
  decide (PySem.W.typeIn K (.ref C) = some (.type "type")) && PySem.W.keepIn K (.ref C) && decide (PySem.W.findIn K (.ref C) "__getattribute__" = some (some (.builtin "BaseException.__getattribute__"))) &&
  decide (PySem.W.findIn K (.ref C) "__getattr__" = some none) && PySem.W.hasDictIn K C && decide (PySem.W.findIn K (.ref C) "__class__" = some (some (.builtin "object.__class__"))) &&
  decide (PySem.W.mroIn K C (.type "object") = some true) && decide (PySem.W.specialIn K (.builtin "object.__class__") "__get__" = some (some (.builtin "getset_descriptor.__get__"))) && decide (PySem.W.takesIn K (.builtin "object.__class__") = some true)
theorem clsX_of {K : PySem.W.Frag} {C : Addr} {nm q : Str} {N : Addr} {bs bm : List Value} {sn : List Str} {sub : List Value} {ab : Bool} {col : Option Bool} {dd : Option Addr} {k0 k1 k2 k3 k5 : Option Value}
    (l : K.lookup C = some (excClassObj nm q C N bs bm true sn sub ab col dd k0 k1 k2 k3 k5 "ValueError.__new__")) (r : PySem.HandSPX.refsVE bm = true) (h : clsB K C = true) : ClsX K C := by
  unfold clsB at h
  simp only [Bool.and_eq_true, decide_eq_true_eq] at h
  obtain ⟨⟨⟨⟨⟨⟨⟨⟨⟨⟨h1, h2⟩, h3⟩, h4⟩, h5⟩, h6⟩, h7⟩, h8⟩, h9⟩, h10⟩, h11⟩ := h
  exact ⟨⟨⟨_, _, _, _, _, _, _, _, _, _, _, _, _, _, _, l, r⟩, h1, h2, h3, h4⟩, h5, h6, h7, h8, h9, h10, h11⟩
def matB (K : PySem.W.Frag) (cs : Nat → Addr) (n : Nat) (t : Nat → Nat → Bool) : Bool := (List.range n).all fun i => (List.range n).all fun j => decide (PySem.W.kitOne K (.ref (cs i)) (.ref (cs j)) = some (t i j))
theorem mat_ok {K : PySem.W.Frag} {cs : Nat → Addr} {n : Nat} {t : Nat → Nat → Bool} (h : matB K cs n t = true) (i j : Nat) (hi : i < n) (hj : j < n) : PySem.W.kitOne K (.ref (cs i)) (.ref (cs j)) = some (t i j) := by
  have h1 := List.all_eq_true.mp h i (List.mem_range.mpr hi)
  exact of_decide_eq_true (List.all_eq_true.mp h1 j (List.mem_range.mpr hj))
def bltB (K : PySem.W.Frag) (cs : Nat → Addr) (n : Nat) (v : Value) : Bool := (List.range n).all fun i => decide (PySem.W.kitOne K (.ref (cs i)) v = some true)
theorem blt_ok {K : PySem.W.Frag} {cs : Nat → Addr} {n : Nat} {v : Value} (h : bltB K cs n v = true) (i : Nat) (hi : i < n) : PySem.W.kitOne K (.ref (cs i)) v = some true := of_decide_eq_true (List.all_eq_true.mp h i (List.mem_range.mpr hi))
def noB (K : PySem.W.Frag) (cs : Nat → Addr) (n : Nat) (vs : List Value) : Bool := (List.range n).all fun i => decide (PySem.W.kitAny K (.ref (cs i)) vs = some false)
theorem no_ok {K : PySem.W.Frag} {cs : Nat → Addr} {n : Nat} {vs : List Value} (h : noB K cs n vs = true) (i : Nat) (hi : i < n) : PySem.W.kitAny K (.ref (cs i)) vs = some false := of_decide_eq_true (List.all_eq_true.mp h i (List.mem_range.mpr hi))
def gcI {α : Type} (us ws : List α) : List α := ws
def gcI2 {α : Type} (us ws : List α) : List α := match ws with
  | [w0, w1] => [w1, w0]
  | _ => []
theorem hrc {zs : List V} {ws : List Value} (h : zs.length = 1) (r : Vals zs ws) : Vals (gcI [] zs) (gcI [] ws) := r
theorem hrc2 {zs : List V} {ws : List Value} (h : zs.length = 2) (r : Vals zs ws) : Vals (gcI2 [] zs) (gcI2 [] ws) := match zs, ws, r, h with
  | [_, _], [_, _], .cons r0 (.cons r1 .nil), _ => .cons r1 (.cons r0 .nil)
/-- !=: a list and the empty list; or data -/
def rNeX (K : PySem.W.Frag) : R2 := fun x y H Q => (∃ (a b : Addr) (xs : List V), x = .ref a ∧ y = .ref b ∧ H a = some (.lst xs) ∧ H b = some (.lst []) ∧ xs = [] ∧ Q (.bl false) H) ∨ rNeD K x y H Q
theorem op_neX {X : Cx} (hu : X.A.units + 64 < cLine) : OpR X (compareOp .NotEq) (rNeX X.K) := by
  intro pins s σ H x y v u Q I rx ry h
  rcases h with ⟨a, b, xs, rfl, rfl, ha, hb, rfl, q⟩ | h
  · exact op_neD hu pins s σ H _ _ v u Q I rx ry ⟨.list [], .list [], .lst (SqL.of ha) .nil, .lst (SqL.of hb) .nil, rfl, rfl, q⟩
  · exact op_neD hu pins s σ H x y v u Q I rx ry h
end GL
/-! loops over enumerate(zip(..)); comprehensions that keep nothing. -/
namespace GL
open PySem PySem.Spec PyProof.Rows L2
theorem for_ez {K : PySem.W.Frag} {a b z TI TO : Addr} {xs ys : List V} {n : Nat} {g : TG} {tb : TS} {D : Ends} {σ : L2.St} {H : Hp} (hx : xs.length = n) (hy : ys.length = n) (n0 : 0 < n) (Pv : Nat → L2.St → Hp → Prop) (h0 : Pv 0 σ H)
    (hG : ∀ i σ H, Pv i σ H → SqL K H a xs ∧ SqL K H b ys ∧ Zst z TI TO H ∧ (0 < i → ∃ T ts, H z = some (zHeld z TI TO T) ∧ H T = some (.tup ts)))
    (hs : ∀ i σ H P T x y zo H', i < n → Pv i σ H → xs[i]? = some x → ys[i]? = some y → H P = none → H T = none → T ≠ P → H' = upd (upd (upd H z zo) T (.tup [x, y])) P (.tup [.int (i : Nat), .ref T]) → (∃ T ts, H' z = some (zHeld z TI TO T) ∧ H' T = some (.tup ts)) →
      g (.ref P) σ H' fun σ2 H2 => tb { D with nx := Pv (i + 1), ct := Pv (i + 1), bk := D.nx } σ2 H2) (hd : ∀ σ H, Pv n σ H → D.nx σ H) :
    ∃ W : Nat → Nat → L2.St → Hp → Prop, (∃ m, W 0 m σ H) ∧ ∀ i m σ H, W i m σ H →
      ((Itez K a b z TI TO).stop i H ∧ D.nx σ H) ∨ ((Itez K a b z TI TO).go i H ∧ ∃ N : L2.St → Hp → Prop, (∀ σ' H', N σ' H' → ∃ m', m' < m ∧ W (i + 1) m' σ' H') ∧ ∀ x H', (Itez K a b z TI TO).yld i H x H' → g x σ H' fun σ2 H2 => tb { D with nx := N, ct := N, bk := D.nx } σ2 H2) := by
  refine ⟨fun i m σ H => m = n - i ∧ i ≤ n ∧ Pv i σ H, ⟨n, by simp, Nat.zero_le _, h0⟩, ?_⟩
  rintro i m σ H ⟨rfl, hi, p⟩
  obtain ⟨q1, q2, q3, q4⟩ := hG i σ H p
  by_cases hlt : i < n
  · have e1 : i < xs.length := by omega
    have e2 : i < ys.length := by omega
    refine .inr ⟨⟨q3, xs, ys, xs[i], ys[i], q1, q2, by simp [e1], by simp [e2]⟩, Pv (i + 1), fun σ' H' p' => ⟨n - (i + 1), by omega, rfl, hlt, p'⟩, fun v H' y => ?_⟩
    obtain ⟨P, T, x, y, zo, rfl, h1, h2, h3, h4, h5, h6, h7⟩ := y
    exact hs i σ H P T x y zo H' hlt p (h6 xs q1) (h7 ys q2) h1 h2 h3 h4 h5
  · have e : i = n := by omega
    subst e
    exact .inl ⟨⟨q4 n0, xs, ys, q1, q2, .inl (by omega)⟩, hd σ H p⟩
/-- nothing is kept of the comprehension -/
theorem lc_none {p : Addr} {σ : L2.St} {H : Hp} {te : TE} {wi : TI} {tt : TT} {j : Nat} {Q : VK} (Pr : List V → Hp → Prop)
    (src : ∀ R : It → Hp → Prop, (∀ J H1 xs, Ex H H1 → Pr xs H1 → Walk J xs.length (fun H2 => Kp p H1 H2) (YAt xs) → R J H1) → wi σ H R)
    (ht : ∀ xs H1, Ex H H1 → Pr xs H1 → ∀ x, x ∈ xs → ∀ H2, Ex H1 H2 → ∀ Q1 : Bool → Hp → Prop, (∀ H3, Ex H2 H3 → Q1 false H3) → tt ((σ.set j none).set j (some x)) H2 Q1)
    (q : ∀ D H2, H D = none → H2 D = some (.lst []) → Ex H H2 → Q (.ref D) H2) : tLc wi (gName j) tt te [j] σ H Q := by
  refine src _ fun J H1 xs e1 pr w D hD => ?_
  refine lc_it w (fun i H2 => H2 D = some (.lst []) ∧ Ex H1 H2) ⟨upd_same, Ex.nw hD⟩ (fun i H2 _ g => Ex.kp g.2) ?_ fun H2 g => ?_
  · rintro i x H2 H3 hi ⟨g1, g2⟩ ⟨rfl, hx⟩
    have hm : x ∈ xs := List.mem_of_getElem? hx
    refine ⟨?_, ?_⟩
    · show ((σ.set j none).set j (some x)).set j none = σ.set j none
      rw [List.set_set, List.set_set]
    · exact ht xs H1 e1 pr x hm H3 g2 _ fun H4 e4 => iteF ⟨e4 _ _ g1, g2.tr e4⟩
  · exact q D H2 (e1.no hD) g.1 (e1.tr g.2)
/-! rows of made exceptions: of the classes js, all with the one field -/
def Es (cs : Nat → Addr) (f : Str) (one : V) (H : Hp) : List V → List Nat → Prop := Paired fun v j => ∃ a, v = .ref a ∧ Ef H a (cs j) [(f, one)]
theorem Es.ex {cs : Nat → Addr} {f : Str} {one : V} {H H' : Hp} (e : Ex H H') : ∀ {vs : List V} {js : List Nat}, Es cs f one H vs js → Es cs f one H' vs js
  | _, _, .nil => .nil
  | _, _, .cons ⟨a, ea, h⟩ r => .cons ⟨a, ea, h.ex e⟩ (Es.ex e r)
theorem Es.get {cs : Nat → Addr} {f : Str} {one : V} {H : Hp} : ∀ {vs : List V} {js : List Nat}, Es cs f one H vs js → ∀ (i : Nat) (x : V), vs[i]? = some x → ∃ j a, js[i]? = some j ∧ x = .ref a ∧ Ef H a (cs j) [(f, one)]
  | _, _, .nil, i, x, h => by cases h
  | _, _, .cons ⟨a, ea, h⟩ r, 0, x, hx => by cases hx; exact ⟨_, a, rfl, ea, h⟩
  | _, _, .cons _ r, i + 1, x, hx => by
    obtain ⟨j, a, h1, h2, h3⟩ := Es.get r i x hx
    exact ⟨j, a, h1, h2, h3⟩
theorem Es.app {cs : Nat → Addr} {f : Str} {one : V} {H : Hp} : ∀ {vs ws : List V} {js ks : List Nat}, Es cs f one H vs js → Es cs f one H ws ks → Es cs f one H (vs ++ ws) (js ++ ks)
  | _, _, _, _, .nil, h => h
  | _, _, _, _, .cons h r, h' => .cons h (Es.app r h')
def ErsE (cs : Nat → Addr) (f : Str) (one : V) (σ : L2.St) (js : List Nat) (ta : TA) : Prop := ∀ (H : Hp) (Q : List V → Hp → Prop), (∀ vs H', Ex H H' → Es cs f one H' vs js → Q vs H') → ta σ H Q
section
variable {cs : Nat → Addr} {f : Str} {one : V} {σ : L2.St} {js : List Nat} {ta : TA} {i j : Nat}
theorem ErsE.nil : ErsE cs f one σ [] tNil := fun H Q k => k [] H (Ex.rfl' H) .nil
theorem ErsE.pos (hi : σ[i]? = some (some one)) (r : ErsE cs f one σ js ta) : ErsE cs f one σ (j :: js) (tCons (tCall (spC1 (cs j) f) [] (fun _ _ _ => False) (tCons (tVar i) tNil)) ta) := fun H Q k =>
  ⟨_, hi, one, rfl, fun a H1 _ e1 o1 => r H1 _ fun vs H2 e2 es => k _ H2 (e1.tr e2) (.cons ⟨a, rfl, o1.ef.ex e2⟩ es)⟩
theorem ErsE.kw (hi : σ[i]? = some (some one)) (r : ErsE cs f one σ js ta) : ErsE cs f one σ (j :: js) (tCons (tKw 0 1 (spC1 (cs j) f) gcI (fun _ _ _ => False) tNil (tCons (tVar i) tNil)) ta) := fun H Q k =>
  ⟨_, hi, rfl, rfl, one, rfl, fun a H1 _ e1 o1 => r H1 _ fun vs H2 e2 es => k _ H2 (e1.tr e2) (.cons ⟨a, rfl, o1.ef.ex e2⟩ es)⟩
/-- .. in a list -/
theorem ErsE.lst {Q : VK} {H : Hp} (h : ErsE cs f one σ js ta) (hl : js.length ≤ 1000) (q : ∀ D vs H', H D = none → Ex H H' → H' D = some (.lst vs) → Es cs f one H' vs js → Q (.ref D) H') : tLst ta σ H Q := by
  refine h H _ fun vs H1 e1 es => ⟨?_, fun D hD => ?_⟩
  · have : vs.length = js.length := Paired.length es
    exact sz_le (by omega)
  · have e2 := Ex.nw (o := .lst vs) hD
    exact q D vs _ (e1.no hD) (e1.tr e2) upd_same (es.ex e2)
end
end GL
/-! A lambda, with a default or none, handed to a def that asks it. -/
namespace GL
open PySem PySem.Spec PyProof.Rows L2 LamX
/-- the values of the defaults, as the function's object tells them -/
def DfO (h : Heap) (dV : Value) (ds : List Value) : Prop := (ds = [] ∧ dV = .none) ∨ ∃ t, ds ≠ [] ∧ dV = .ref t ∧ h.get? t = some (PySem.W.kdv_tup ds)
abbrev lamFd (X : Cx) (params : Arguments) (body : Expr) (scope : Scope) (dV doc pm : Value) (c' : Addr) (ctv : Value) : FuncData :=
  PySem.W.kdv_fn "<lambda>" (X.env.qual ++ "<lambda>") params (.expr body) scope (cloFrom X.env.cells scope.names []) dV doc pm (.ref c') ctv
abbrev lamOb (X : Cx) (params : Arguments) (body : Expr) (scope : Scope) (dV doc pm : Value) (c' : Addr) (ctv : Value) : Obj := { cls := .type "function", data := .func (lamFd X params body scope dV doc pm c' ctv) }
/-- all stands; tables may have grown -/
def ExtK (H H' : Hp) : Prop := ExtN H H' ∧ ∀ b ps, H b = some (.tbl ps) → ∃ qs, H' b = some (.tbl qs)
theorem ExtK.refl (H : Hp) : ExtK H H := ⟨ExtN.refl H, fun _ ps h => ⟨ps, h⟩⟩
section
variable {X : Cx} {pins : List (Addr × Obj)} {σ : L2.St} {H : Hp} {s : Shared}
/-- the function is made, its defaults known -/
theorem lam_tail {T : List (Addr × Str)} {c P : Addr} {params : Arguments} {body : Expr} {scope : Scope} {pos : Pos} {dV : Value} {E : Value → Shared → Prop} {Q : Value → Shared → Prop} (I : Inv X pins σ H s) (tb : TabB X.base X.mg c P) (hcode : X.env.code = .ref c)
    (hm : (P, X.env.qual ++ "<lambda>") ∈ T) (hu : ∀ p ∈ T, p.1 = P → p.2 = X.env.qual ++ "<lambda>") (hT : Tabs T H) (hfree : ∀ y ∈ scope.names, y.2 = .free → ∃ c, X.env.cells.lookup y.1 = some c)
    (h : ∀ (f c' : Addr) (pm ctv doc : Value) (H1 : Hp) (s1 : Shared), Inv X pins σ H1 s1 → ExtK H H1 → Tabs T H1 → s.heap.objs.size ≤ f → (∀ b o, H b = none → s.heap.get? b = some o → s1.heap.get? b = some o ∧ H1 b = none) →
      s1.heap.get? f = some (lamOb X params body scope dV doc pm c' ctv) → H1 f = none → f ∉ frs X.stack → H1 c' = some (CodeO c' (X.env.qual ++ "<lambda>")) → Q (.ref f) s1) :
    wpAny (model X.prog X.w) X.A (makeTail "<lambda>" (X.env.qual ++ "<lambda>") params (.expr body) scope X.env dV .none none pos pos.line) Q E s := by
  obtain ⟨ps, hP, ht, ha⟩ := hT _ hm
  have bP : s.heap.BuiltinsAt X.mg P := tb.bm.keeps I.bk
  have hPs : s.heap.get? P = some { cls := .none, data := .fields ps } := I.hok P _ hP
  have gm := I.mod.glob.keeps I.bk
  have ch := tb.code.keeps I.bk
  have nofr : ∀ f, s.heap.objs.size ≤ f → f ∉ frs X.stack := fun f hf z => by
    rcases List.mem_cons.mp (I.stkSub _ z) with e | e
    · have h1 := I.lt
      rw [← e] at h1
      exact absurd (Nat.lt_of_lt_of_le h1 hf) (Nat.lt_irrefl _)
    · exact I.nofs hf e
  cases hc : codeAmong pos ps.toList with
  | none =>
    refine PySem.W.kdv_makeTail (mg := X.mg) (c := c) (P := P) (ps := ps) (closure_ok hfree) I.ok.glob gm hcode ch hPs ht hc tb.gP bP fun c' ctv doc h' tk hx hge hlt hrec htb => ?_
    obtain ⟨c2, oc, vs, t, e2, hoc, hd, hv⟩ := hrec
    cases e2
    have hsz : s.heap.objs.size ≤ h'.objs.size := Nat.le_trans hge (Nat.le_of_lt hlt)
    have nC : H c' = none := I.hok.fresh hge
    have J := inv_table (t' := tk) (more := #[rawInt pos.line, rawInt pos.col, .ref c']) (h' := h'.push (lamOb X params body scope dV doc ((X.mg "__name__").getD .none) c' ctv)) I hP
      (fun b o hb e => Heap.get?_push_of_some _ (hx b o hb e)) (Heap.get?_push_of_some _ htb) hge ⟨oc, vs, t, Heap.get?_push_of_some _ hoc, hd, hv⟩
    have hE : ExtN H (upd (upd H P (.tbl (ps ++ #[rawInt pos.line, rawInt pos.col, .ref c']))) c' (CodeO c' (X.env.qual ++ "<lambda>"))) := fun b o e n => by
      have n1 : b ≠ c' := ne_of_none e nC
      have n2 : b ≠ P := fun z => n ps (Option.some.inj (e.symm.trans (by rw [z]; exact hP)))
      rw [upd_ne n1, upd_ne n2]
      exact e
    have hK : ExtK H (upd (upd H P (.tbl (ps ++ #[rawInt pos.line, rawInt pos.col, .ref c']))) c' (CodeO c' (X.env.qual ++ "<lambda>"))) := ⟨hE, fun b qs e => by
      have n1 : b ≠ c' := ne_of_none e nC
      by_cases n2 : b = P
      · rw [n2, upd_ne (by rw [← n2]; exact n1), upd_same]; exact ⟨_, rfl⟩
      · rw [upd_ne n1, upd_ne n2]; exact ⟨_, e⟩⟩
    have eL : (ps ++ #[rawInt pos.line, rawInt pos.col, .ref c']).toList = ps.toList ++ [rawInt pos.line, rawInt pos.col, .ref c'] := by simp
    refine h h'.objs.size c' ((X.mg "__name__").getD .none) ctv doc _ _ J hK (fun p hp => ?_) hsz (fun b o n e => ⟨Heap.get?_push_of_some _ (hx b o (fun z => by rw [z, hP] at n; cases n) e), ?_⟩) (Heap.get?_push_size _ rfl) ?_ (nofr _ hsz) upd_same
    · by_cases hb : p.1 = P
      · rw [hu p hp hb, hb]
        refine ⟨_, by rw [upd_ne (ne_of_none hP nC), upd_same], by rw [eL]; exact PySem.TriplesOk_snoc _ _ _ _ ht, fun p2 cv hcv => ?_⟩
        rw [eL] at hcv
        rcases among_app _ ht hcv with z | z
        · obtain ⟨c0, e1, e2⟩ := ha p2 cv z
          exact ⟨c0, e1, hE _ _ e2 codeO_ne⟩
        · exact ⟨c', z, upd_same⟩
      · obtain ⟨qs, a1, a2, a3⟩ := hT p hp
        refine ⟨qs, by rw [upd_ne (ne_of_none a1 nC), upd_ne hb]; exact a1, a2, fun p2 cv hcv => ?_⟩
        obtain ⟨c0, e1, e2⟩ := a3 p2 cv hcv
        exact ⟨c0, e1, hE _ _ e2 codeO_ne⟩
    · have n1 : b ≠ c' := fun z => by
        have l := Heap.lt_size e
        rw [z] at l
        exact absurd (Nat.lt_of_lt_of_le l hge) (Nat.lt_irrefl _)
      have n2 : b ≠ P := fun z => by rw [z, hP] at n; cases n
      rw [upd_ne n1, upd_ne n2]
      exact n
    · have n1 : h'.objs.size ≠ c' := Nat.ne_of_gt hlt
      have n2 : h'.objs.size ≠ P := Nat.ne_of_gt (Nat.lt_of_lt_of_le (Heap.lt_size hPs) hsz)
      rw [upd_ne n1, upd_ne n2]
      exact I.hok.fresh hsz
  | some cv =>
    obtain ⟨c', e, hco⟩ := ha pos cv hc
    subst e
    refine PySem.W.kdv_makeTailHit (mg := X.mg) (c := c) (P := P) (ps := ps) (closure_ok hfree) I.ok.glob gm hcode ch hPs ht hc bP fun ctv doc h' tk hx hsz => ?_
    have J : Inv X pins σ H { s with heap := h'.push (lamOb X params body scope dV doc ((X.mg "__name__").getD .none) c' ctv), toks := tk } := I.kept fun b o e => Heap.get?_push_of_some _ (hx b o e)
    exact h h'.objs.size c' ((X.mg "__name__").getD .none) ctv doc H _ J (ExtK.refl H) hT hsz (fun b o n e => ⟨Heap.get?_push_of_some _ (hx b o e), n⟩) (Heap.get?_push_size _ rfl) (I.hok.fresh hsz) (nofr _ hsz) hco
/-- .. and before that the defaults: none, or one number -/
def Dft (params : Arguments) (ks : List Int) : Prop := params.kw_defaults = [] ∧ params.kwonlyargs = [] ∧ ((ks = [] ∧ params.defaults = []) ∨ ∃ i j p, ks = [i] ∧ params.defaults = [.Constant (.int i) j p])
theorem lam_make3 {T : List (Addr × Str)} {c P : Addr} {params : Arguments} {body : Expr} {scope : Scope} {pos : Pos} {ks : List Int} {Q : Value → Shared → Prop} (I : Inv X pins σ H s) (tb : TabB X.base X.mg c P) (hcode : X.env.code = .ref c)
    (hm : (P, X.env.qual ++ "<lambda>") ∈ T) (hu : ∀ p ∈ T, p.1 = P → p.2 = X.env.qual ++ "<lambda>") (hT : Tabs T H) (hdf : Dft params ks) (hfree : ∀ y ∈ scope.names, y.2 = .free → ∃ c, X.env.cells.lookup y.1 = some c)
    (h : ∀ (f c' : Addr) (dV pm ctv doc : Value) (ds : List Value) (H1 : Hp) (s1 : Shared), Inv X pins σ H1 s1 → ExtK H H1 → Tabs T H1 → ds.length = ks.length → DfO s1.heap dV ds → (∀ t, dV = .ref t → H1 t = none ∧ t ∉ frs X.stack) →
      s1.heap.get? f = some (lamOb X params body scope dV doc pm c' ctv) → H1 f = none → f ∉ frs X.stack → H1 c' = some (CodeO c' (X.env.qual ++ "<lambda>")) → Q (.ref f) s1) :
    wpAny (model X.prog X.w) X.A (eval (.Lambda params body scope pos) X.env) Q X.xe s := by
  obtain ⟨h1, h2, h3⟩ := hdf
  rcases h3 with ⟨rfl, h3⟩ | ⟨i, j, p, rfl, h3⟩
  · refine PySem.W.kla_eval (by
      obtain ⟨_, _, _, _, _, _, _⟩ := params
      cases h1; cases h3; rfl) ?_
    rw [makeFunction_eq]
    simp only [List.zip_nil_right, List.filterMap_nil, List.isEmpty_nil, if_true, pure_bind]
    exact lam_tail I tb hcode hm hu hT hfree fun f c' pm ctv doc H1 s1 J e1 t1 _ _ g1 g2 g3 g4 => h f c' .none pm ctv doc [] H1 s1 J e1 t1 rfl (.inl ⟨rfl, rfl⟩) (fun t z => by cases z) g1 g2 g3 g4
  · refine PySem.W.kdv_lam (by rw [h3]; rfl) h1 ?_
    rw [h3]
    refine PySem.W.kdv_all1 (thn (pe_int.run pins s σ H (fun v H1 => H1 = H) I rfl) fun v s1 hv => ?_)
    obtain ⟨x, H1, I1, rx, eH⟩ := hv
    subst eH
    refine PySem.W.kdv_all0 ?_
    rw [makeFunction_eq]
    simp only [List.zip_nil_right, List.filterMap_nil, List.isEmpty_nil, if_true, pure_bind, List.isEmpty_cons, Bool.false_eq_true, if_false]
    refine wpAny_bind (wpAny_newTextTuple ?_)
    have J1 : Inv X pins σ H1 { s1 with heap := s1.heap.push { cls := .type "tuple", data := .seq [v].toArray } } := I1.kept (t' := s1.toks) fun b o e => Heap.get?_push_of_some _ e
    have fr0 : s1.heap.objs.size ∉ frs X.stack := fun z => by
      rcases List.mem_cons.mp (I1.stkSub _ z) with e | e
      · have h1 := I1.lt
        rw [← e] at h1
        exact absurd h1 (Nat.lt_irrefl _)
      · exact I1.nofs (Nat.le_refl _) e
    refine lam_tail J1 tb hcode hm hu hT hfree fun f c' pm ctv doc H2 s2 J e1 t1 _ kp g1 g2 g3 g4 => ?_
    have kt := kp s1.heap.objs.size (PySem.W.kdv_tup [v]) (I1.hok.fresh (Nat.le_refl _)) (Heap.get?_push_size _ rfl)
    exact h f c' (.ref s1.heap.objs.size) pm ctv doc [v] H2 s2 J e1 t1 rfl (.inr ⟨_, by simp, rfl, kt.1⟩) (fun t z => by cases z; exact ⟨kt.2, fr0⟩) g1 g2 g3 g4
end
end GL
namespace GL
open PySem PySem.Spec PyProof.Rows L2 LamX
/-- the lambda's names: its parameters ls, captured ones, globals -/
structure LamT (N : List Str) (sc scope : Scope) (ls : List Str) : Prop where
  kd : scope.kind = .function
  noCo : scope.isCoroutine = false
  noGen : scope.isGenerator = false
  noCell : ∀ y ∈ scope.names, y.2 ≠ .cell
  own : ∀ y ∈ scope.names, y.2 = .local → y.1 ∉ N
  par : ∀ y ∈ ls, scope.names.lookup y = some .local
  fre : ∀ y ∈ scope.names, y.2 = .free → sc.names.lookup y.1 = some .cell ∨ sc.names.lookup y.1 = some .free
def lamTB (N : List Str) (sc scope : Scope) (ls : List Str) : Bool :=
  decide (scope.kind = .function) && !scope.isCoroutine && !scope.isGenerator && (scope.names.all fun y => !decide (y.2 = .cell) && (!decide (y.2 = .local) || !N.contains y.1) && (!decide (y.2 = .free) || decide (sc.names.lookup y.1 = some .cell) || decide (sc.names.lookup y.1 = some .free))) &&
    ls.all fun y => decide (scope.names.lookup y = some .local)
theorem lamT_by {N : List Str} {sc scope : Scope} {ls : List Str} (h : lamTB N sc scope ls = true) : LamT N sc scope ls := by
  unfold lamTB at h
  simp only [Bool.and_eq_true, Bool.or_eq_true, Bool.not_eq_true', decide_eq_true_eq, decide_eq_false_iff_not, List.all_eq_true] at h
  obtain ⟨⟨⟨⟨a1, a2⟩, a3⟩, a4⟩, a5⟩ := h
  refine ⟨a1, a2, a3, fun y hy => (a4 y hy).1.1, fun y hy e m => ?_, a5, fun y hy e => ?_⟩
  · rcases (a4 y hy).1.2 with z | z
    · exact z e
    · rw [List.contains_iff_mem.mpr m] at z
      cases z
  · rcases (a4 y hy).2 with (z | z) | z
    · exact absurd e z
    · exact .inl z
    · exact .inr z
section
variable {X : Cx} {pins : List (Addr × Obj)} {σ : L2.St} {H HZ : Hp} {s s1 : Shared}
theorem LamT.caught {scope : Scope} {ls : List Str} {N : List Str} (L : LamT N X.env.scope scope ls) (ok : X.Ok) : ∀ y ∈ scope.names, y.2 = .free → ∃ c, X.env.cells.lookup y.1 = some c := fun y hy e =>
  (L.fre y hy e).elim (fun k => ok.has _ (.inl k)) fun k => ok.has _ (.inr k)
/-- entered -/
theorem lam_in {A : Around} {outer : List Env} {E : XK} {scope : Scope} {f c' : Addr} {hN : Heap} {tk : Nat} {bs : List (Str × Value)} {ls : List Str} (I : Inv X pins σ H s) (L : LamT X.N X.env.scope scope ls) (e0 : Env0 X.prog X.w X.K X.mg X.base A outer s1 HZ) (hd : A.handled = none)
    (un : Un (frs X.stack) [] H HZ s.heap s1.heap) (hns : hN.Ns s1.heap.objs.size fun y => bs.reverse.lookup y) (kp : ∀ b o, s1.heap.get? b = some o → hN.get? b = some o) :
    Inv (lamCx X A outer s1 HZ E scope f c') [] σ HZ { s1 with heap := hN, toks := tk } := by
  have fr := L.caught I.ok
  have cells : ∀ {y c}, (cloFrom X.env.cells scope.names []).lookup y = some c → X.env.cells.lookup y = some c := fun {y c} e => by
    rcases cloFrom_mem (PySem.mem_of_lookup e) with hm | ⟨q1, q2⟩
    · cases hm
    · obtain ⟨c1, hc1⟩ := fr _ q1 rfl
      have hc2 : X.env.cells.lookup y = some c1 := hc1
      have eq : c = c1 := by
        rw [q2, hc2] <;> rfl
      rw [eq]
      exact hc2
  have seen : ∀ {y}, scope.names.lookup y = some .free → ∃ c, (cloFrom X.env.cells scope.names []).lookup y = some c := fun {y} hl =>
    mem_lookup (cloFrom_has (cells := X.env.cells) (acc := []) (show (y, NameKind.free) ∈ scope.names from PySem.mem_of_lookup hl))
  have keepC : ∀ {c : Addr} {v : Option Value}, H c = none → s.heap.IsCell c v → hN.IsCell c v := fun {c v} n ⟨o, ho, hdt⟩ => by
    obtain ⟨sl, q⟩ := un.any ho n (by simp)
    exact ⟨_, kp _ _ q, hdt⟩
  have noX : ∀ b : Addr, b ∉ (lamCx X A outer s1 HZ E scope f c').ex := fun b z => absurd (show b ∈ ([] : List Addr) from z) (by simp)
  refine ⟨⟨e0.mod, L.kd, rfl, rfl, Nat.le_refl _, fun y z c e1 e2 => I.ok.inj y z c (cells e1) (cells e2), fun y hy => ?_, fun y c z _ => ?_, fun _ => hd, Around.frames_deeper e0.frames, .inr ⟨rfl, rfl⟩, fun b z => absurd z (noX b), e0.bs, e0.bsz, fun b _ _ => noX b, fun b z => absurd z (noX b), e0.funs, e0.frf⟩,
    rfl, e0.bare, Un.kept kp, ⟨_, hns, fun i y v e1 e2 e3 => ?_⟩, fun y c e => ?_, e0.hok.fresh (Nat.le_refl _), fun y c e => ?_, fun q hq => absurd (show q ∈ ([] : List (Addr × Obj)) ++ [] from hq) (by simp), e0.hok.kept kp, I.len⟩
  · rcases (show scope.names.lookup y = some .cell ∨ scope.names.lookup y = some .free from hy) with k | k
    · exact absurd rfl (L.noCell _ (PySem.mem_of_lookup k))
    · exact seen k
  · cases (show false = true from z)
  · rcases (show Vis scope y from e3) with k | k | k
    · exact absurd (List.mem_of_getElem? (show X.N[i]? = some y from e1)) (L.own _ (PySem.mem_of_lookup k) rfl)
    · exact absurd rfl (L.noCell _ (PySem.mem_of_lookup k))
    · obtain ⟨m, hn, hl⟩ := I.loc
      have vis : Vis X.env.scope y := (L.fre _ (PySem.mem_of_lookup k) rfl).elim (fun k => .inr (.inl k)) (fun k => .inr (.inr k))
      obtain ⟨u, r, q⟩ := hl i y v e1 e2 vis
      obtain ⟨c2, at2⟩ := seen k
      refine ⟨u, r, .inr ⟨.inr k, c2, at2, ?_⟩⟩
      have at1 := cells at2
      rcases q with ⟨kl, _⟩ | ⟨_, c3, e4, z⟩
      · have kl : X.env.scope.names.lookup y = some .local := kl
        rcases L.fre _ (PySem.mem_of_lookup k) rfl with k2 | k2 <;> rw [show X.env.scope.names.lookup y = _ from k2] at kl <;> cases kl
      · rw [at1] at e4
        cases e4
        exact keepC (I.freeC y _ at1) z
  · obtain ⟨u, z⟩ := I.cell y c (cells e)
    exact ⟨u, keepC (I.freeC y c (cells e)) z⟩
  · obtain ⟨v, o, ho, hdt⟩ := I.cell y c (cells e)
    exact un.free c o ho (I.freeC y c (cells e)) (by simp)
/-- the parameters, bound to their defaults -/
def BindD (ls : List Str) (n : Nat) (params : Arguments) (body : Expr) (scope : Scope) : Prop := ∀ (q : Str) (cl : List (Str × Addr)) (dV doc pm cv ctv : Value) (s : Shared) (ds : List Value), DfO s.heap dV ds → ds.length = n →
  BindsTo s (PySem.W.kdv_fn "<lambda>" q params (.expr body) scope cl dV doc pm cv ctv) ⟨[], []⟩ (ls.zip ds)
/-- a(), in the def that got the lambda -/
theorem pe_ask {CXg : CXT} {Eg : XK} {Ng : List Str} {qg : Str} {sg : Scope} {g f c' : Addr} {cdg dV doc pm ctv : Value} {ds : List Value} {ls : List Str} {params : Arguments} {body : Expr} {scope : Scope} {n k i : Nat} {a : Str} {pn : List (Addr × Obj)} {xe : Value → Shared → Prop} {W : WX} {t : XK → TE} {p1 p2 : Pos}
    (I : Inv X pins σ H s) (L : LamT X.N X.env.scope scope ls) (hf : s.heap.get? f = some (lamOb X params body scope dV doc pm c' ctv)) (hfn : H f = none) (hfr : f ∉ frs X.stack) (hD : DfO s.heap dV ds) (hDn : ∀ t, dV = .ref t → H t = none ∧ t ∉ frs X.stack)
    (hbd : BindD ls n params body scope) (hdl : ds.length = n) (tk : Takes ((cxOf CXg X.prog X.w X.K X.mg X.base Ng qg sg g cdg X.A X.stack s H Eg).tr pn xe) W) (gd : X.A.guards = some []) (hr : Room (k + 1) (X.A.deeper (envOfC qg sg s.heap.objs.size g cdg)))
    (hbody : ∀ (A : Around) (outer : List Env) (s : Shared) (H : Hp) (E : XK), A.guards = some [] → Room k (A.deeper (lamEnv X scope s.heap.objs.size f c')) → PE (lamCx X A outer s H E scope f c') body (t E))
    (hN : Ng[i]? = some a) (hv : Vis sg a) (hd : (a == ("__debug__" : Str)) = false := by decide) (hcd : (a == ("__classdict__" : Str)) = false := by decide) :
    PE ((cxOf CXg X.prog X.w X.K X.mg X.base Ng qg sg g cdg X.A X.stack s H Eg).tr pn xe) (.Call (.Name a p1) [] [] p2)
      (fun τ HZ Q => ∃ E : XK, (∀ cls d G, E cls d G → W cls d τ G) ∧ τ[i]? = some (some (.ref f)) ∧ HZ c' = some (CodeO c' (X.env.qual ++ "<lambda>")) ∧ t E σ HZ Q) := by
  refine ⟨fun pinsZ sZ τ HZ Q IZ h => ?_⟩
  obtain ⟨E, hW, q1, q2, q3⟩ := h
  refine wpAny_Call_Name_kw (thn ((pe_var (pos := p1) (i := i) hN hv hd hcd).run pinsZ sZ τ HZ (fun v G => v = .ref f ∧ G = HZ) IZ ⟨.ref f, q1, rfl, rfl⟩) fun u s2 ⟨v, G, I2, r1, e1⟩ => ?_)
  obtain ⟨ev, eG⟩ := e1
  subst ev
  subst eG
  obtain rfl : u = Value.ref f := r1
  have un : Un (frs X.stack) [] H G s.heap s2.heap := I2.base
  have of2 : s2.heap.get? f = some (lamOb X params body scope dV doc pm c' ctv) := un.keep f _ hf hfn hfr (by simp)
  have D2 : DfO s2.heap dV ds := by
    rcases hD with z | ⟨t, nd, e, z⟩
    · exact .inl z
    · obtain ⟨n1, n2⟩ := hDn t e
      exact .inr ⟨t, nd, e, un.keep t _ z n1 n2 (by simp)⟩
  refine PySem.W.callWith_F0 ⟨_, _, _, _, of2⟩ ?_
  obtain ⟨⟨oc, vs, t, hoc, hdc, hvc⟩, _, _⟩ := I2.hok c' _ q2
  have rc : codeAny (model X.prog X.w) (X.A.deeper (envOfC qg sg s.heap.objs.size g cdg)) (.call (.ref f) ⟨[], []⟩) (CR (L2.CX X.prog X.w) (envOfC qg sg s.heap.objs.size g cdg :: X.stack) X.prog X.w G s2 Q E) s2 := by
    refine PySem.W.kla_callFunE hr.depth of2 rfl L.noCo L.noGen rfl ⟨c', oc, vs, t, rfl, hoc, hdc, hvc⟩ (hbd _ _ _ _ _ _ _ s2 ds D2 hdl _ _ _ _ ?_)
    refine wpAny_newFunctionEnv (fun y hy => L.noCell y hy) (fun ⟨y, u⟩ hy => L.par y (List.of_mem_zip hy).1) (fun hN hns hsb => ⟨I2.nolimit.fresh _ hsb, ?_⟩) L.kd
    have kp : ∀ b o, s2.heap.get? b = some o → hN.get? b = some o := fun b o e => hsb.extBut b o (Nat.ne_of_lt (Heap.lt_size e)) (Heap.get?_push_of_some _ e)
    have J : Inv (lamCx X (X.A.deeper (envOfC qg sg s.heap.objs.size g cdg)) (envOfC qg sg s.heap.objs.size g cdg :: X.stack) s2 G E scope f c') [] σ G { s2 with heap := hN, toks := s2.toks + (ls.zip ds).length } := lam_in I L I2.env0 hr.hd un hns kp
    refine PySem.W.kla_codeExpr (wpAny_mono ((hbody (X.A.deeper (envOfC qg sg s.heap.objs.size g cdg)) _ s2 G E gd (hr.deeper _)).run [] _ _ G Q J q3) (fun v s3 hq => ?_) fun e s3 hq => hq)
    obtain ⟨u, G3, J3, rv, q⟩ := hq
    exact ⟨u, G3, J3.os, J3.bare, J3.base, J3.hok, rv, q⟩
  refine wpAny_call (codeAny_mono rc fun r s3 hq => ?_)
  cases r with
  | error e => exact tk e s3 (XE.of_call I2 hW hq)
  | ok fl =>
    cases fl with
    | ret u => exact I2.after hq
    | next => exact False.elim hq
    | brk => exact False.elim hq
    | cont => exact False.elim hq
end
/-- the reading of a() -/
def tAsk (W : WX) (f c' : Addr) (q : Str) (tl : XK → Hp → VK → Prop) : TE := fun τ G Q => ∃ E : XK, (∀ cls d G', E cls d G' → W cls d τ G') ∧ τ[0]? = some (some (.ref f)) ∧ G c' = some (CodeO c' q) ∧ tl E G Q
/-- the def that asks what it got: TT, what it makes of the lambda's reading -/
def Gives (X : Cx) (Ng : List Str) (x : Str) (sg : Scope) (g : Addr) (cdg : Value) (bg : List Stmt) (a q : Str) (TT : (XK → Hp → VK → Prop) → List V → Hp → VK → Prop) : Prop :=
  ∀ (f c' : Addr) (s : Shared) (H : Hp) (Q : VK) (vs : List V) (tl : XK → Hp → VK → Prop),
    (∀ (W : WX) (pn : List (Addr × Obj)) (xe : Value → Shared → Prop) (p1 p2 : Pos), Takes ((cxOf CX0 X.prog X.w X.K X.mg X.base Ng x sg g cdg X.A X.stack s H (fun _ _ _ => False)).tr pn xe) W →
      PE ((cxOf CX0 X.prog X.w X.K X.mg X.base Ng x sg g cdg X.A X.stack s H (fun _ _ _ => False)).tr pn xe) (.Call (.Name a p1) [] [] p2) (tAsk W f c' q tl)) →
    H c' = some (CodeO c' q) → TT tl vs H Q →
    ∃ t, PSs (cxOf CX0 X.prog X.w X.K X.mg X.base Ng x sg g cdg X.A X.stack s H (fun _ _ _ => False)).nox bg t ∧ t { nx := fun _ G => Q .non G, rt := Q } (L2.start Ng (.ref f :: vs)) H
def tLamG (T : List (Addr × Str)) (m : Nat) (TT : (XK → Hp → VK → Prop) → List V → Hp → VK → Prop) (t : XK → TE) (tes : TA) : TE := fun σ H Q => Tabs T H ∧ ∀ H1, ExtK H H1 → Tabs T H1 → tes σ H1 fun vs H2 => Ex H1 H2 ∧ vs.length = m ∧ TT (fun E G Q' => t E σ G Q') vs H2 Q
section
variable {X : Cx}
/-- x(lambda ..: body, e, ..) -/
theorem pe_lamG {T : List (Addr × Str)} {TT : (XK → Hp → VK → Prop) → List V → Hp → VK → Prop} {x a : Str} {g c P : Addr} {k : Nat} {fdg : FuncData} {st : Stmt} {Ng pr ls : List Str} {ks : List Int}
    {params : Arguments} {body : Expr} {scope : Scope} {t : XK → TE} {es : List Expr} {tes : TA} {p lpos pos : Pos} (gd : X.A.guards = some []) (hr : Room (k + 2) X.A) (hg : Gl X x) (hm : X.mg x = some (.ref g)) (F : Fun X.K x x st g fdg) (hb : Binds X.K fdg (a :: pr) []) (Sg : FnScope Ng (a :: pr) (defScope st)) (hNg : Ng[0]? = some a) (hva : Vis (defScope st) a)
    (hG : ∀ cdv, Gives X Ng x (defScope st) g cdv (defBody st) a (X.env.qual ++ "<lambda>") TT)
    (tb : TabB X.base X.mg c P) (hcode : X.env.code = .ref c) (hmT : (P, X.env.qual ++ "<lambda>") ∈ T) (hu : ∀ p ∈ T, p.1 = P → p.2 = X.env.qual ++ "<lambda>") (L : LamT X.N X.env.scope scope ls) (hdf : Dft params ks) (hbd : BindD ls ks.length params body scope)
    (hbody : ∀ (A : Around) (outer : List Env) (s : Shared) (H : Hp) (E : XK) (f c' : Addr), A.guards = some [] → Room k (A.deeper (lamEnv X scope s.heap.objs.size f c')) → PE (lamCx X A outer s H E scope f c') body (t E)) (ha : PA X es tes)
    (hdb : (x == ("__debug__" : Str)) = false := by decide) (hd : (a == ("__debug__" : Str)) = false := by decide) (hcd : (a == ("__classdict__" : Str)) = false := by decide) (hpl : (backTo pos (starEach es X.env)).any (·.1) = false := by rfl) :
    PE X (.Call (.Name x p) (.Lambda params body scope lpos :: es) [] pos) (tLamG T pr.length TT t tes) := by
  refine ⟨fun pins s σ H Q I h => ?_⟩
  obtain ⟨hT, h⟩ := h
  obtain ⟨oc, od, kV, docg, pmg, an, cdg, ctg, osl, rfl, lk, hcg⟩ := F.ex
  refine wpAny_Call_Name_kw (ld_glob I hg hm ?_ hdb)
  refine PySem.W.callWith_K (h₀ := X.base) I.ok.mod.kin F.kp ?_ (by rfl) hpl
  show wpAny _ _ (spliced ((false, eval (.Lambda params body scope lpos) X.env) :: backTo pos (starEach es X.env))) _ _ s
  refine Calls.spliced_cons (lam_make3 I tb hcode hmT hu hT hdf (L.caught I.ok) fun f c' dV pm ctv doc ds H1 s1 J1 eN T1 hdl hD hDn hf hfn hfr hco => ?_)
  have lf : f ≠ X.env.locals := fun z => by
    obtain ⟨m, ⟨o, es', ep, e1, e2, _⟩, _⟩ := J1.loc
    rw [z, e1] at hf
    cases hf
    cases e2
  have fsS : ∀ b, b ∉ frs X.stack → b ∉ X.fs := fun b n z => by
    rcases J1.ok.stk with e | ⟨e, _⟩
    · exact n (by rw [e]; exact z)
    · exact n (by rw [e]; exact List.mem_filterMap.mpr (let ⟨q, m, r⟩ := List.mem_filterMap.mp z; ⟨q, List.mem_cons_of_mem _ m, r⟩))
  obtain ⟨pd, hpd1, hpd2⟩ : ∃ pd : List (Addr × Obj), (∀ q ∈ pd, s1.heap.get? q.1 = some q.2 ∧ H1 q.1 = none ∧ q.1 ≠ X.env.locals ∧ q.1 ∉ X.fs ∧ ∀ v, q.2.data ≠ .cell v) ∧ (∀ G : Heap, (∀ q ∈ pd, G.get? q.1 = some q.2) → DfO G dV ds) ∧ (∀ t, dV = .ref t → ∃ o, (t, o) ∈ pd) := by
    rcases hD with ⟨e1, e2⟩ | ⟨t, nd, e, z⟩
    · exact ⟨[], fun q hq => by simp at hq, fun G _ => .inl ⟨e1, e2⟩, fun t e => by rw [e2] at e; cases e⟩
    · obtain ⟨n1, n2⟩ := hDn t e
      refine ⟨[(t, PySem.W.kdv_tup ds)], fun q hq => ?_, fun G hq => .inr ⟨t, nd, e, hq _ (List.mem_singleton.mpr rfl)⟩, fun t' e' => ⟨_, by rw [e] at e'; cases e'; exact List.mem_singleton.mpr rfl⟩⟩
      have eq : q = (t, PySem.W.kdv_tup ds) := by simpa using hq
      rw [eq]
      refine ⟨z, n1, fun y => ?_, fsS t n2, fun v y => by cases y⟩
      obtain ⟨m, ⟨o, es', ep, e1, e2, _⟩, _⟩ := J1.loc
      have y : t = X.env.locals := y
      rw [y, e1] at z
      cases z
      cases e2
  have hp2 : ∀ q ∈ X.pn ++ ((f, lamOb X params body scope dV doc pm c' ctv) :: (pd ++ pins)), s1.heap.get? q.1 = some q.2 ∧ H1 q.1 = none ∧ q.1 ≠ X.env.locals ∧ q.1 ∉ X.fs ∧ ∀ v, q.2.data ≠ .cell v := by
    intro q hq
    rcases List.mem_append.mp hq with m | m
    · exact J1.pin q (List.mem_append_left _ m)
    · rcases List.mem_cons.mp m with m | m
      · rw [m]
        exact ⟨hf, hfn, lf, fsS f hfr, fun v z => by cases z⟩
      · rcases List.mem_append.mp m with m | m
        · exact hpd1 q m
        · exact J1.pin q (List.mem_append_right _ m)
  have J2 : Inv X ((f, lamOb X params body scope dV doc pm c' ctv) :: (pd ++ pins)) σ H1 s1 := { J1 with pin := hp2 }
  refine thn (ha.run pos _ s1 σ H1 _ J2 (h H1 eN T1)) ?_
  rintro us s2 ⟨vs, H2, I2, rv, e12, hlen, q⟩
  have hp3 : ∀ q ∈ X.pn ++ pins, s2.heap.get? q.1 = some q.2 ∧ H2 q.1 = none ∧ q.1 ≠ X.env.locals ∧ q.1 ∉ X.fs ∧ ∀ v, q.2.data ≠ .cell v := by
    intro q hq
    rcases List.mem_append.mp hq with m | m
    · exact I2.pin q (List.mem_append_left _ m)
    · exact I2.pin q (List.mem_append_right _ (List.mem_cons_of_mem _ (List.mem_append_right _ m)))
  have I2' : Inv X pins σ H2 s2 := { I2 with pin := hp3 }
  have pf := I2.pin (f, lamOb X params body scope dV doc pm c' ctv) (List.mem_append_right _ List.mem_cons_self)
  have D2 : DfO s2.heap dV ds := hpd2.1 s2.heap fun q hq => (I2.pin q (List.mem_append_right _ (List.mem_cons_of_mem _ (List.mem_append_left _ hq)))).1
  have hDn2 : ∀ t, dV = .ref t → H2 t = none ∧ t ∉ frs X.stack := fun t e => by
    obtain ⟨o, m⟩ := hpd2.2 t e
    exact ⟨(I2.pin (t, o) (List.mem_append_right _ (List.mem_cons_of_mem _ (List.mem_append_left _ m)))).2.1, (hDn t e).2⟩
  refine ⟨I2'.kIn, ?_⟩
  have lv := rv.length
  have rc : codeAny (model X.prog X.w) X.A (.call (.ref g) ⟨.ref f :: us, []⟩) (CR CX0 X.stack X.prog X.w H2 s2 Q (fun _ _ _ => False)) s2 := by
    refine run_ofS (k := k + 1) (N := Ng) (ps := a :: pr) (us := .ref f :: us) (vs := .ref f :: vs) lk hcg Sg hr I2'.env0 (by have z := hb s2 (.ref f :: us) I2'.kIn (by simp [← lv, hlen]); rwa [List.append_nil] at z) (.cons rfl rv) (by simp [hlen]) fun hr2 => ?_
    obtain ⟨t2, ht2, hq2⟩ := hG cdg f c' s2 H2 Q vs (fun E G Q' => t E σ G Q') (fun W pn xe p1 p2 tk => pe_ask (i := 0) I2' L pf.1 pf.2.1 hfr D2 hDn2 hbd hdl tk gd hr2 (fun A outer s H E gd2 hr3 => hbody A outer s H E f c' gd2 hr3) hNg hva hd hcd) (e12 _ _ hco) q
    exact ⟨t2, ht2.nox, hq2⟩
  refine wpAny_call (codeAny_mono rc fun r s3 hq => ?_)
  cases r with
  | error e => exact (show False from hq).elim
  | ok fl =>
    cases fl with
    | ret u => exact I2'.after hq
    | next => exact False.elim hq
    | brk => exact False.elim hq
    | cont => exact False.elim hq
end
end GL
/-! Defs that make lambdas: their code object known; the law's end with their tables. -/
namespace GL
open PySem PySem.Spec PyProof.Rows L2 LamX
/-- cd is the code of the def at f -/
def CodeF (K : PySem.W.Frag) (f : Addr) (cd : Value) : Prop := ∃ o fd, K.lookup f = some o ∧ o.data = .func fd ∧ fd.code = cd
/-- the table of the def at f -/
def tabAt (K : PySem.W.Frag) (f : Addr) : Option Addr := match K.lookup f with
  | some o => match o.data with
    | .func fd => match fd.code with
      | .ref c => match K.lookup c with
        | some oc => match oc.data with
          | .fields vs => match (vs[11]? : Option Value) with
            | some (.ref P) => some P
            | _ => none
          | _ => none
        | none => none
      | _ => none
    | _ => none
  | none => none
def tabsB (K : PySem.W.Frag) (fs : List Addr) : Bool := let ps := fs.map (tabAt K); ps.all (fun q => match q with
  | some P => (K.lookup P).isNone
  | none => false) && decide ps.Nodup
/-- of the table at P -/
def TabF (K : PySem.W.Frag) (bs : Heap) (mg : Str → Option Value) (f P : Addr) : Prop := ∃ c, CodeF K f (.ref c) ∧ TabB bs mg c P
theorem TabF.code {K : PySem.W.Frag} {bs : Heap} {mg : Str → Option Value} {f P : Addr} {cd : Value} (t : TabF K bs mg f P) (h : CodeF K f cd) : ∃ c, cd = .ref c ∧ TabB bs mg c P := by
  obtain ⟨c, ⟨o, fd, e1, e2, e3⟩, tb⟩ := t
  obtain ⟨o', fd', g1, g2, g3⟩ := h
  rw [e1] at g1
  cases g1
  rw [e2] at g2
  cases g2
  exact ⟨c, by rw [← g3, e3], tb⟩
section
variable {pg : Program} {w : World} {K : PySem.W.Frag} {mg : Str → Option Value} {bs : Heap}
/-- a def by its body, its code known -/
theorem Fun.okGC {cx : CXT} {x q : Str} {st : Stmt} {f : Addr} {fd : FuncData} {N ps : List Str} {k : Nat} {sp : Sp} (F : Fun K x q st f fd)
    (S : FnScope N ps (defScope st)) (len : ∀ vs H Q E, sp vs H Q E → vs.length = ps.length)
    (hb : ∀ (cd : Value) (A : Around) (out : List Env) (s : Shared) (H : Hp) (vs : List V) (Q : VK) (E : XK), A.guards = some [] → CodeF K f cd →
      Room k (A.deeper (envOfC q (defScope st) s.heap.objs.size f cd)) → sp vs H Q E →
      ∃ t, PSs (cxOf cx pg w K mg bs N q (defScope st) f cd A out s H E) (defBody st) t ∧ t { nx := fun _ H' => Q .non H', rt := Q } (start N vs) H) :
    FnG pg w K mg bs cx (k + 1) f fd ps sp := by
  obtain ⟨oc, od, kV, doc, pm, an, cd, ct, osl, rfl, lk, hcd⟩ := F.ex
  refine ⟨len, fun A out s H ar us vs Q E hg rm ev hbi rv hsp => ?_⟩
  have hle := len _ _ _ _ hsp
  have keepB : ∀ b o, bs.get? b = some o → s.heap.get? b = some o := fun b o z => (ev.bs b o z).1
  have KX : K.In s.heap := ev.mod.kin.keeps keepB
  have lim : s.heap.NoLimit := ev.mod.nolimit.keeps keepB
  have kinds : ∀ y ∈ ps.zip us, (defScope st).names.lookup y.1 = some .local ∨
      ((defScope st).names.lookup y.1 = some .cell ∧ ((cellsFrom (s.heap.objs.size + 1) (defScope st).names []).lookup y.1).isSome = true) := by
    rintro ⟨n, v⟩ hy
    rcases S.par n (List.of_mem_zip hy).1 with z | z
    · exact .inl z
    · exact .inr ⟨z, PySem.W.cellsFrom_some _ _ _ (.inl z)⟩
  have room := rm.depth
  refine codeAny_call_function room (KX _ _ lk) rfl S.co S.gen rfl (PySem.W.codeRec_of KX hcd) (hbi _ _ _ _ ?_)
  refine wpAny_newFunctionEnv_cells S.kind kinds fun env he s1 ic => ?_
  subst he
  refine ⟨lim.keeps ic.toInCall.keep, codeAny_func ?_⟩
  obtain ⟨t, ht, hq⟩ := hb cd A out s H vs Q E hg ⟨_, _, lk, rfl, rfl⟩ (rm.deeper _) hsp
  have J := inv_start (CX := cx) (E := E) S rm.hd ev hle rv ic
  refine wpAny_mono (ht.run [] s1 (start N vs) H _ J hq) (fun fl s' hs => ?_) fun e s' hs => hs
  cases fl with
  | ret u => exact (let ⟨_, _, _, J', rv', z⟩ := hs; to_end J' rv' z)
  | next => exact (let ⟨_, _, J', z⟩ := hs; to_end (v := V.non) (u := Value.none) J' rfl z)
  | brk => exact (let ⟨_, _, _, z⟩ := hs; False.elim z)
  | cont => exact (let ⟨_, _, _, z⟩ := hs; False.elim z)
end
/-! ### the end -/
section
theorem law_inT {pg : Program} {w : World} {K : PySem.W.Frag} {mg mb : Str → Option Value} {cx : CXT} {k : Nat} {fa a : Addr} {fd : FuncData} {x : Str} {sp : Sp} {s : Shared} {tf : List (Addr × Addr × Addr)}
    {vs : List Value} {H : Hp} (KX : K.In s.heap) (hns : s.heap.Ns mainGlobals mg) (hb : s.heap.Ns builtinsNs mb)
    (hbb : ∀ y : Str, y ≠ "__name__" → mb y = bootBuiltins y) (lim : s.heap.NoLimit) (hg : s.gens = #[])
    (ha : s.heap.get? a = some { cls := .type "list", data := .seq vs.toArray }) (rm : Room k callerA)
    (hbm : ∃ (bm : Addr) (ob : Obj), mg "__builtins__" = some (.ref bm) ∧ bm ≠ builtinsNs ∧ s.heap.get? bm = some ob ∧ ob.cls = .type "module" ∧ ob.dict = some builtinsNs ∧ ob.data = .plain)
    (hT : ∀ p ∈ tf, s.heap.get? p.2.2 = some { cls := .none, data := .fields #[] }) (nT : ∀ p ∈ tf, K.lookup p.2.2 = none) (hC : ∀ p ∈ tf, CodeF K p.1 (.ref p.2.1) ∧ PySem.W.CodeHd s.heap p.2.1 p.2.2)
    (sm : ∃ o es ep, s.heap.get? sysModules = some o ∧ o.data = .dict es ep) (F : ∀ bs : Heap, K.In bs → bs.Ns mainGlobals mg → SmB bs → (∀ p ∈ tf, TabF K bs mg p.1 p.2.2) → FnG pg w K mg bs cx k fa fd [x] sp) (hbi : ∀ (s : Shared) (u : Value), BindsTo s fd ⟨[u], []⟩ [(x, u)])
    (hO : ∀ b, H b = none ∨ (∃ p ∈ tf, p.2.2 = b ∧ H b = some (.tbl #[])) ∨ ∃ o xs, H b = some (.frz o (.lst xs))) (hok : HOk pg w H s.heap) (only : ∀ b, H b ≠ none → b = a ∨ ∃ p ∈ tf, p.2.2 = b) (hK : H a ≠ none → K.lookup a = none)
    (hH : ∀ p ∈ tf, H p.2.2 = some (.tbl #[])) (hsp : sp [.ref a] H (fun v _ => v = .bl true) fun _ _ _ => False) (hcx : ∀ H e s', cx [] H s (fun _ _ _ => False) e s' → False) :
    codeAny (model pg w) callerA (.call (.ref fa) ⟨[.ref a], []⟩)
      (fun r s' => r = .ok (.ret (.bool true)) ∧ OldK s.heap s'.heap ∧ s'.os = s.os ∧ AllBare s'.gens) s := by
  have off : ∀ {b : Addr} {o : Obj}, s.heap.get? b = some o → (∀ us n, o.data ≠ .seq us n) → o.data ≠ .fields #[] → H b = none := by
    intro b o e n1 n2
    cases q : H b with
    | none => rfl
    | some u =>
      rcases only b (by rw [q]; simp) with z | ⟨p, hp, z⟩
      · rw [z, ha] at e
        cases e
        exact (n1 _ _ rfl).elim
      · have e2 := hT p hp
        rw [z, e] at e2
        cases e2
        exact (n2 rfl).elim
  have noDict : ∀ {b : Addr} {o : Obj} {es : Array DictEntry} {ep : Nat}, s.heap.get? b = some o → o.data = .dict es ep → H b = none := fun e d =>
    off e (fun us n z => by rw [d] at z; cases z) fun z => by rw [d] at z; cases z
  have ns_of : ∀ {b : Addr} {m : Str → Option Value}, s.heap.Ns b m → (hidT s.heap H).Ns b m := fun ⟨o, es, ep, e, d, r⟩ => ⟨o, es, ep, hidT_get e (noDict e d), d, r⟩
  have KB : K.In (hidT s.heap H) := fun b o e => hidT_get (KX b o e) (by
    by_cases z : H b = none
    · exact z
    · rcases only b z with q | ⟨p, hp, q⟩
      · rw [q] at z e
        rw [hK z] at e
        cases e
      · have n := nT p hp
        rw [q, e] at n
        cases n)
  have md : Mod K mg (hidT s.heap H) := ⟨KB, ns_of hns, ⟨mb, ns_of hb, hbb⟩, lim.imp fun _ z => ⟨ns_of z.1, z.2⟩⟩
  have tbs : ∀ p ∈ tf, TabF K (hidT s.heap H) mg p.1 p.2.2 := fun p hp => by
    obtain ⟨cf, C⟩ := hC p hp
    refine ⟨p.2.1, cf, ?_, ?_, fun z => ?_⟩
    · obtain ⟨o, us, file, tf, flags, tg, inF, text, tt, e1, r1, r2, r3, r4, r5, r6, r7, r8, hne⟩ := C
      exact ⟨o, us, file, tf, flags, tg, inF, text, tt, hidT_get e1 (off e1 (fun vs n z => by rw [r2] at z; cases z) fun z => by rw [r2] at z; cases z; simp at r3), r1, r2, r3, r4, r5, r6, r7, r8, hne⟩
    · obtain ⟨bm, ob, b1, b2, b3, b4, b5, b6⟩ := hbm
      have nG : bm ≠ mainGlobals := fun q => by
        obtain ⟨o, es, ep, e, hd, _⟩ := hns
        rw [q, e] at b3
        cases b3
        rw [hd] at b6
        cases b6
      have nP : bm ≠ p.2.2 := fun q => by
        rw [q, hT p hp] at b3
        cases b3
        cases b6
      exact ⟨bm, ob, b1, b2, nG, nP, hidT_get b3 (off b3 (fun vs n z => by rw [b6] at z; cases z) fun z => by rw [b6] at z; cases z), b4, b5, b6⟩
    · obtain ⟨o, es, ep, e, hd, _⟩ := hns
      rw [z, hT p hp] at e
      cases e
      cases hd
  have ev : Env0 pg w K mg (hidT s.heap H) callerA [] s H :=
    ⟨rfl, md, fun _ _ e => of_hidT e, Nat.le_of_eq (hidT_size _ _), trivial, (fun b z => absurd (show b ∈ ([] : List Addr) from z) (by simp)), hok, .of_eq hg⟩
  refine codeAny_mono ((F _ KB (ns_of hns) (let ⟨o, es, ep, e1, e2⟩ := sm; ⟨o, hidT_get e1 (noDict e1 e2)⟩) tbs).run callerA [] s H ⟨[.ref a], []⟩ [.ref a] [.ref a] _ _ rfl rm ev (hbi s (.ref a)) (.cons rfl .nil) hsp) ?_
  rintro (e | fl) s' z
  · exact (hcx H e s' z).elim
  · cases fl with
    | ret u =>
      obtain ⟨v, H', os, bare, un, hok', ru, rfl⟩ := z
      cases ru
      have stay : ∀ b o, (∀ p ∈ tf, p.2.2 ≠ b) → s.heap.get? b = some o → s'.heap.get? b = some o := fun b o nb e => by
        rcases hO b with q | ⟨p, hp, q, _⟩ | ⟨ob, xs, q⟩
        · exact un.keep b o e q (by intro y; cases y) (by intro y; cases y)
        · exact absurd q (nb p hp)
        · have e1 := (hok b _ q).1
          have e2 := (hok' b _ (un.frzs b ob _ q)).1
          exact e2.trans (e1.symm.trans e)
      have grown : ∀ p ∈ tf, ∃ more : Array Value, s'.heap.get? p.2.2 = some { cls := .none, data := .fields more } := fun p hp => by
        obtain ⟨more, z⟩ := un.tbls p.2.2 #[] (hH p hp)
        exact ⟨_, hok' p.2.2 _ z⟩
      refine ⟨rfl, ⟨fun b o e => ?_, fun b o e => ?_⟩, os, bare⟩
      · by_cases hb : ∃ p ∈ tf, p.2.2 = b
        · obtain ⟨p, hp, ep⟩ := hb
          obtain ⟨more, hm⟩ := grown p hp
          rw [← ep] at e ⊢
          rw [hT p hp] at e
          cases e
          exact .inr (.inl ⟨((hC p hp).2.tab (hT p hp)).isCodeTable, rfl, #[], more, rfl, by rw [Array.empty_append]; exact hm⟩)
        · exact .inl (stay b o (fun p hp q => hb ⟨p, hp, q⟩) e)
      · by_cases hb : ∃ p ∈ tf, p.2.2 = b
        · obtain ⟨p, hp, ep⟩ := hb
          obtain ⟨more, hm⟩ := grown p hp
          rw [← ep]
          exact ⟨_, hm⟩
        · exact ⟨o, stay b o (fun p hp q => hb ⟨p, hp, q⟩) e⟩
    | next => exact z.elim
    | brk => exact z.elim
    | cont => exact z.elim
theorem tabs_out {K : PySem.W.Frag} {fs : List Addr} (h : tabsB K fs = true) : ∀ f ∈ fs, ∃ P, tabAt K f = some P ∧ K.lookup P = none := fun f hf => by
  unfold tabsB at h
  simp only [Bool.and_eq_true, List.all_eq_true, List.mem_map] at h
  have q := h.1 (tabAt K f) ⟨f, hf, rfl⟩
  cases e : tabAt K f with
  | none => rw [e] at q; cases q
  | some P => rw [e] at q; exact ⟨P, rfl, Option.isNone_iff_eq_none.mp q⟩
theorem tabs_ne {K : PySem.W.Frag} {f g P Q : Addr} {fs : List Addr} (h : tabsB K (f :: g :: fs) = true) (h1 : tabAt K f = some P) (h2 : tabAt K g = some Q) : P ≠ Q := fun e => by
  unfold tabsB at h
  simp only [Bool.and_eq_true, decide_eq_true_eq, List.map_cons, List.nodup_cons, List.mem_cons] at h
  exact h.2.1 (.inl (by rw [h1, h2, e]))
/-- what is known of the law's promise at the head's heap -/
def LawT (l : PySem.W.OpenLaw) (w : World) (K : PySem.W.Frag) (cx : CXT) (k n : Nat) (x : Str) (mg : Str → Option Value) (fa : Addr) (rs : List DefRec) : Prop :=
  ∃ (fd : FuncData) (fts : List Addr) (sp : Sp), tabsB K fts = true ∧ (∀ f ∈ fts, ∃ d ∈ rs, mg d.name = some (.ref f)) ∧ (∀ (s : Shared) (u : Value), BindsTo s fd ⟨[u], []⟩ [(x, u)]) ∧
    (∀ (H : Hp) (a : Addr) (ns : List Int), ns.length ≤ n → (∀ f ∈ fts, ∀ P, tabAt K f = some P → H P = some (.tbl #[])) → SqL K H a (ns.map V.int) → sp [.ref a] H (fun v _ => v = .bl true) fun _ _ _ => False) ∧
    ∀ bs : Heap, K.In bs → bs.Ns mainGlobals mg → SmB bs → (∀ f ∈ fts, ∀ P, tabAt K f = some P → TabF K bs mg f P) → FnG l.prog w K mg bs cx k fa fd [x] sp
theorem walkT {l : PySem.W.OpenLaw} {n k : Nat} {q : Program} {loose : List Str} {XP : (Str → Option Value) → Heap → Prop} {YP : World → Heap → Prop} {d : DefRec}
    {K : Params → PySem.W.Frag} {cx : CXT} {x : Str} (hi : importsNone q = true) (hn : l.most = some n) (hn2 : n ≤ sizeLine) (hdf : d.params.defaults = []) (rm : Room k callerA)
    (hY : ∀ (w : World) (h : Heap), YP w h → (K w.params).In h)
    (F : ∀ (w : World) (mg : Str → Option Value) (fa : Addr) (h : Heap), (K w.params).In h → h.Ns mainGlobals mg → mg d.name = some (.ref fa) → LawT l w (K w.params) cx k n x mg fa (recsOf q))
    (hcx : ∀ (H : Hp) (s : Shared) (e : Value) (s' : Shared), cx [] H s (fun _ _ _ => False) e s' → False) :
    PySem.W.WalkO q loose XP YP l.row.toRowW d [] (fun f vs => PySem.call f vs) := by
  refine Att.attach_call hn hdf ?_
  intro w _ s mg mb fa o pm cd doc a vs ns G Y ho hd hcd hmg hob hin hle hg
  have KX := hY w _ Y
  have sm : ∃ o es ep, s.heap.get? sysModules = some o ∧ o.data = .dict es ep := by
    obtain ⟨mm, ⟨o, es, ep, e1, e2, _⟩, _⟩ := (G.T.seer hi).mods
    exact ⟨o, es, ep, e1, e2⟩
  obtain ⟨fd, fts, sp, tB, hd2, hb, hsp, hF⟩ := F w mg fa _ KX G.T.g hmg
  have rv := vals_ints hin
  have lv := hin.length
  -- the tables
  obtain ⟨tf, htf, htf2⟩ : ∃ tf : List (Addr × Addr × Addr), (∀ p ∈ tf, p.1 ∈ fts ∧ tabAt (K w.params) p.1 = some p.2.2 ∧ (K w.params).lookup p.2.2 = none ∧ s.heap.get? p.2.2 = some { cls := .none, data := .fields #[] } ∧ CodeF (K w.params) p.1 (.ref p.2.1) ∧ PySem.W.CodeHd s.heap p.2.1 p.2.2) ∧ ∀ f ∈ fts, ∃ p ∈ tf, p.1 = f := by
    have one : ∀ f ∈ fts, ∃ p : Addr × Addr × Addr, p.1 = f ∧ tabAt (K w.params) p.1 = some p.2.2 ∧ (K w.params).lookup p.2.2 = none ∧ s.heap.get? p.2.2 = some { cls := .none, data := .fields #[] } ∧ CodeF (K w.params) p.1 (.ref p.2.1) ∧ PySem.W.CodeHd s.heap p.2.1 p.2.2 := fun f hf => by
      obtain ⟨P, hP, nP⟩ := tabs_out tB f hf
      obtain ⟨dd, hdm, hdn⟩ := hd2 f hf
      obtain ⟨a', o', fd', c, P', h1, h2, h3, h4, h5, h6⟩ := G.T.tab dd hdm
      rw [hdn] at h1
      cases h1
      have C := PySem.W.CodeHd.of h5 h6
      have hPt := h6
      unfold tabAt at hP
      split at hP
      · rename_i oK kf
        have e1 := KX _ _ kf
        rw [h2] at e1
        cases e1
        rw [h3] at hP
        simp only [h4] at hP
        split at hP
        · rename_i oc kc
          have e2 := KX _ _ kc
          obtain ⟨o2, us, file, tf, flags, tg, inF, text, tt, g1, g2, g3, g4, _⟩ := id C
          rw [g1] at e2
          cases e2
          rw [g3] at hP
          simp only [g4] at hP
          cases hP
          refine ⟨(f, c, P), rfl, ?_, nP, ?_, ⟨_, _, kf, h3, h4⟩, C⟩
          · show tabAt _ f = some P
            unfold tabAt
            simp only [kf, h3, h4, kc, g3, g4]
          · exact hPt.2
        · cases hP
      · cases hP
    clear hsp hF hd2 tB
    induction fts with
    | nil => exact ⟨[], ⟨fun p hp => (List.not_mem_nil hp).elim, fun f hf => (List.not_mem_nil hf).elim⟩⟩
    | cons f r ih =>
      obtain ⟨p, hp1, hp2⟩ := one f List.mem_cons_self
      obtain ⟨tf, t1, t2⟩ := ih fun g hg => one g (List.mem_cons_of_mem _ hg)
      refine ⟨p :: tf, fun z hz => ?_, fun g hg => ?_⟩
      · rcases List.mem_cons.mp hz with e | m
        · rw [e]
          exact ⟨by rw [hp1]; exact List.mem_cons_self, hp2⟩
        · exact ⟨List.mem_cons_of_mem _ (t1 z m).1, (t1 z m).2⟩
      · rcases List.mem_cons.mp hg with e | m
        · exact ⟨p, List.mem_cons_self, by rw [hp1, e]⟩
        · obtain ⟨z, z1, z2⟩ := t2 g m
          exact ⟨z, List.mem_cons_of_mem _ z1, z2⟩
  have bmn := G.T.bmain
  have hTb : ∀ p ∈ tf, s.heap.get? p.2.2 = some { cls := .none, data := .fields #[] } := fun p hp => (htf p hp).2.2.2.1
  have sm2 := sm
  have tabsF : ∀ bs : Heap, (∀ p ∈ tf, TabF (K w.params) bs mg p.1 p.2.2) → ∀ f ∈ fts, ∀ P, tabAt (K w.params) f = some P → TabF (K w.params) bs mg f P := fun bs h f hf P hP => by
    obtain ⟨p, hp, e⟩ := htf2 f hf
    have z := h p hp
    have t := (htf p hp).2.1
    rw [e] at z t
    rw [hP] at t
    cases t
    exact z
  have Fall : ∀ bs : Heap, (K w.params).In bs → bs.Ns mainGlobals mg → SmB bs → (∀ p ∈ tf, TabF (K w.params) bs mg p.1 p.2.2) → FnG l.prog w (K w.params) mg bs cx k fa fd [x] sp := fun bs h1 h2 h3 h4 => hF bs h1 h2 h3 (tabsF bs h4)
  have inT : ∀ b, (∃ p ∈ tf, p.2.2 = b) → s.heap.get? b = some { cls := .none, data := .fields #[] } := fun b ⟨p, hp, e⟩ => by rw [← e]; exact hTb p hp
  have aT : ¬ ∃ p ∈ tf, p.2.2 = a := fun z => by
    have q := inT a z
    rw [hob] at q
    have z' : Data.seq vs.toArray _ = Data.fields #[] := congrArg Obj.data (Option.some.inj q)
    cases z'
  have hfin : ∀ H : Hp, (∀ p ∈ tf, H p.2.2 = some (.tbl #[])) → ∀ f ∈ fts, ∀ P, tabAt (K w.params) f = some P → H P = some (.tbl #[]) := fun H h f hf P hP => by
    obtain ⟨p, hp, e⟩ := htf2 f hf
    have t := (htf p hp).2.1
    rw [e, hP] at t
    cases t
    exact h p hp
  have deci : ∀ b, Decidable (∃ p ∈ tf, p.2.2 = b) := fun b => Classical.propDecidable _
  cases hk : (K w.params).lookup a with
  | some o' =>
    have e := KX a o' hk
    rw [hob] at e
    cases e
    have hp : ∀ p ∈ tf, (if ∃ q ∈ tf, q.2.2 = p.2.2 then some (HO.tbl #[]) else none) = some (HO.tbl #[]) := fun p hp => if_pos ⟨p, hp, rfl⟩
    have S : SqL (K w.params) (fun b => if ∃ q ∈ tf, q.2.2 = b then some (HO.tbl #[]) else none) a (ns.map V.int) :=
      .inr ⟨_, vs.toArray, _, hk, rfl, rfl, rfl, by rw [List.size_toArray, lv]; exact Nat.le_trans hle hn2, by simpa using rv⟩
    refine law_inT (tf := tf) (H := fun b => if ∃ q ∈ tf, q.2.2 = b then some (HO.tbl #[]) else none) KX G.T.g G.T.b G.T.builtins G.T.nolimit hg hob rm bmn hTb (fun p hp => (htf p hp).2.2.1) (fun p hp => (htf p hp).2.2.2.2) sm Fall hb (fun b => ?_) (fun b u z => ?_) (fun b z => ?_) (fun z => absurd (if_neg aT) z) hp
      (hsp _ a ns hle (hfin _ hp) S) fun H e s' => hcx H s e s'
    · by_cases hb : ∃ q ∈ tf, q.2.2 = b
      · obtain ⟨p, hp, e⟩ := id hb
        exact .inr (.inl ⟨p, hp, e, if_pos hb⟩)
      · exact .inl (if_neg hb)
    · by_cases hb : ∃ q ∈ tf, q.2.2 = b
      · have z' := (if_pos hb).symm.trans z
        cases z'
        exact inT b hb
      · have z' := (if_neg hb).symm.trans z
        cases z'
    · by_cases hb : ∃ q ∈ tf, q.2.2 = b
      · exact .inr hb
      · exact absurd (if_neg hb) z
  | none =>
    obtain ⟨H, eH⟩ : ∃ H : Hp, H = fun b => if b = a then some (.frz { cls := .type "list", data := .seq vs.toArray } (.lst (ns.map V.int))) else if ∃ q ∈ tf, q.2.2 = b then some (HO.tbl #[]) else none := ⟨_, rfl⟩
    have Ha : H a = some (.frz { cls := .type "list", data := .seq vs.toArray } (.lst (ns.map V.int))) := by rw [eH]; exact if_pos rfl
    have Ht : ∀ b, (∃ q ∈ tf, q.2.2 = b) → H b = some (.tbl #[]) := fun b hb => by
      rw [eH]
      show (if b = a then _ else if ∃ q ∈ tf, q.2.2 = b then _ else _) = _
      rw [if_neg (fun e => aT (by rw [← e]; exact hb)), if_pos hb]
    have Hn : ∀ b, b ≠ a → ¬ (∃ q ∈ tf, q.2.2 = b) → H b = none := fun b h1 h2 => by
      rw [eH]
      show (if b = a then _ else if ∃ q ∈ tf, q.2.2 = b then _ else _) = _
      rw [if_neg h1, if_neg h2]
    clear eH
    have hp : ∀ p ∈ tf, H p.2.2 = some (.tbl #[]) := fun p hp => Ht _ ⟨p, hp, rfl⟩
    have cs3 : ∀ b, b = a ∨ (∃ q ∈ tf, q.2.2 = b) ∨ H b = none := fun b => by
      by_cases h1 : b = a
      · exact .inl h1
      · by_cases h2 : ∃ q ∈ tf, q.2.2 = b
        · exact .inr (.inl h2)
        · exact .inr (.inr (Hn b h1 h2))
    refine law_inT (tf := tf) (H := H) KX G.T.g G.T.b G.T.builtins G.T.nolimit hg hob rm bmn hTb (fun p hp => (htf p hp).2.2.1) (fun p hp => (htf p hp).2.2.2.2) sm Fall hb (fun b => ?_) (fun b u z => ?_) (fun b z => ?_) (fun _ => hk) hp
      (hsp _ a ns hle (hfin _ hp) (.inl (.inr ⟨_, Ha⟩))) fun H e s' => hcx H s e s'
    · rcases cs3 b with e | e | e
      · rw [e]
        exact .inr (.inr ⟨_, _, Ha⟩)
      · obtain ⟨p, hp, e2⟩ := id e
        exact .inr (.inl ⟨p, hp, e2, Ht b e⟩)
      · exact .inl e
    · rcases cs3 b with e | e | e
      · subst e
        rw [Ha] at z
        cases z
        exact ⟨hob, by rw [List.length_map]; exact Nat.le_trans hle hn2, vs, _, rv, hob⟩
      · rw [Ht b e] at z
        cases z
        exact inT b e
      · rw [e] at z
        cases z
    · rcases cs3 b with e | e | e
      · exact .inl e
      · exact .inr e
      · exact absurd e z
end
end GL
/-! list(text); isinstance of data or of an own exception; the parameters of a lambda; tables behind calls. -/
namespace GL
open PySem PySem.Spec PyProof.Rows L2 LamX
def sgn (c : Nat) : V := .str ⟨#[c]⟩
def rLstT : List V → Hp → VK → Prop := fun xs H Q => ∃ z : Str, xs = [.str z] ∧ z.length ≤ 100000 ∧ ∀ q, H q = none → Q (.ref q) (upd H q (.lst (z.cps.toList.map sgn)))
theorem call_list_txt {X : Cx} (hc : X.calm = true) : CallR X (.type "list") rLstT := by
  intro pins s σ H xs us Q I r h
  obtain ⟨z, rfl, hz, q⟩ := h
  obtain ⟨u, rfl, ru⟩ := vals1 r
  obtain ⟨t, rfl⟩ := ru
  have hl : z.cps.size ≤ sizeLine := sz_le (show z.length ≤ 1000000 by omega)
  refine PySem.call_list_str (I.ok.hd hc) z t (fun h' tk acc c' hk e hi => ?_) hl
  refine ⟨.ref s.heap.objs.size, upd H s.heap.objs.size (.lst (z.cps.toList.map sgn)), I.laid hk (Nat.le_refl _) ⟨by rw [List.length_map, Array.length_toList]; exact hl, acc.toList, c', ?_, by rw [Array.toArray_toList]; exact e⟩, rfl, q _ (I.hok.fresh (Nat.le_refl _))⟩
  refine vals_of_idx _ _ (by rw [List.length_map, Array.length_toList, Array.length_toList]; exact hi.1) fun j u hj => ?_
  obtain ⟨c, t', hcj, rfl⟩ := hi.2 j u (by rw [← Array.getElem?_toList]; exact hj)
  exact ⟨sgn c, by simp [hcj], ⟨_, rfl⟩⟩
/-- isinstance(x, C): an own exception, or data -/
def rIsE (K : PySem.W.Frag) : List V → Hp → VK → Prop := fun xs H Q => rIsi K xs H Q ∨ rIsX K xs H Q
theorem call_isE {X : Cx} : CallR X (.builtin "isinstance") (rIsE X.K) := by
  intro pins s σ H xs us Q I r h
  rcases h with h | h
  · exact call_isi pins s σ H xs us Q I r h
  · exact call_isX pins s σ H xs us Q I r h
theorem isE_go {K : PySem.W.Frag} {p : Addr} {H : Hp} {v : V} {c : String} {Q : VK} (h : Kd p H v) (hc : c ∈ ["int", "bool", "str", "list", "tuple", "dict"]) (q : Q (.bl (isT (tyN H v) c)) H) : rIsE K [v, .ty c] H Q := .inl (isi_go h hc q)
theorem bindD0 {params : Arguments} {body : Expr} {scope : Scope} (h : ∀ (q : Str) (cl : List (Str × Addr)) (doc pm cv ctv : Value), bindArgs (PySem.W.kdv_fn "<lambda>" q params (.expr body) scope cl .none doc pm cv ctv) ⟨[], []⟩ = pure []) : BindD [] 0 params body scope := by
  intro q cl dV doc pm cv ctv s ds hD hl
  have e : ds = [] := List.length_eq_zero_iff.mp hl
  subst e
  rcases hD with ⟨_, rfl⟩ | ⟨t, nd, _⟩
  · exact .of_eq (h q cl doc pm cv ctv)
  · exact absurd rfl nd
theorem bindD1 {params : Arguments} {body : Expr} {scope : Scope} {x : Str} (h : ∀ (q : Str) (cl : List (Str × Addr)) (dV doc pm cv ctv : Value), ∃ k : Option (Array Value) → Sem (List (Str × Value)), bindArgs (PySem.W.kdv_fn "<lambda>" q params (.expr body) scope cl dV doc pm cv ctv) ⟨[], []⟩ = (seqItems? dV >>= k) ∧ ∀ v, k (some #[v]) = pure [(x, v)]) : BindD [x] 1 params body scope := by
  intro q cl dV doc pm cv ctv s ds hD hl
  match ds, hl with
  | [v], _ =>
    rcases hD with ⟨z, _⟩ | ⟨t, _, rfl, hg⟩
    · cases z
    · obtain ⟨k, h1, h2⟩ := h q cl (.ref t) doc pm cv ctv
      exact .of_defaults rfl hg rfl h1 (h2 v)
/-- all but p and the tables stays -/
def Kt (p : Addr) (H H' : Hp) : Prop := ∀ b o, b ≠ p → (∀ ps, o ≠ .tbl ps) → H b = some o → H' b = some o
theorem Kt.of {p : Addr} {H H' : Hp} (k : Kp p H H') : Kt p H H' := fun b o n _ h => k b o n h
theorem Kt.ex {p : Addr} {H H' : Hp} (k : Ex H H') : Kt p H H' := fun b o n _ h => k b o h
theorem Kt.nw {p : Addr} {H H' : Hp} (k : ExtN H H') : Kt p H H' := fun b o _ t h => k b o h t
theorem Kt.tr {p : Addr} {H H1 H2 : Hp} (a : Kt p H H1) (b : Kt p H1 H2) : Kt p H H2 := fun x o n t h => b x o n t (a x o n t h)
/-- p is no table and no code -/
theorem TabS.kp {H H' : Hp} {P p : Addr} {q : Str} {xs : List V} (hp : H p = some (.lst xs)) (t : TabS H P q) (k : Kp p H H') : TabS H' P q := by
  obtain ⟨ps, h1, h2, h3⟩ := t
  refine ⟨ps, k _ _ (fun e => by rw [e, hp] at h1; cases h1) h1, h2, fun pos cv hc => ?_⟩
  obtain ⟨c, e1, e2⟩ := h3 pos cv hc
  exact ⟨c, e1, k _ _ (fun e => by rw [e, hp] at e2; unfold CodeO at e2; cases e2) e2⟩
theorem Tabs.kp {T : List (Addr × Str)} {H H' : Hp} {p : Addr} {xs : List V} (hp : H p = some (.lst xs)) (t : Tabs T H) (k : Kp p H H') : Tabs T H' := fun z hz => TabS.kp hp (t z hz) k
theorem Rk.lst {H : Hp} {p c : Addr} {n : Nat} (r : Rk H p c n) : ∃ xs, H p = some (.lst xs) := let ⟨_, _, _, h, _⟩ := r.ex; ⟨_, h⟩
theorem Tabs.rk {T : List (Addr × Str)} {H H' : Hp} {p c : Addr} {n : Nat} (r : Rk H p c n) (t : Tabs T H) (k : Kp p H H') : Tabs T H' := let ⟨_, h⟩ := r.lst; Tabs.kp h t k
/-- .. when a lambda was made -/
theorem Rk.en {H H' : Hp} {p c : Addr} {n : Nat} (r : Rk H p c n) (e : ExtN H H') : Rk H' p c n := by
  obtain ⟨ns, t, l, h1, h2, h3⟩ := r.ex
  exact ⟨⟨ns, t, l, e _ _ h1 (fun _ z => by cases z), e _ _ h2 (fun _ z => by cases z), h3⟩⟩
theorem Kd.en {p : Addr} {H H' : Hp} (k : ExtN H H') {v : V} (h : Kd p H v) : Kd p H' v := by
  induction h with
  | non => exact .non
  | bl b => exact .bl b
  | int i => exact .int i
  | str z => exact .str z
  | lst n e z _ ih => exact .lst n (k _ _ e (fun _ z => by cases z)) z ih
  | tup n e z _ ih => exact .tup n (k _ _ e (fun _ z => by cases z)) z ih
  | dK n e => exact .dK n (k _ _ e (fun _ z => by cases z))
theorem rec_of {rs : List DefRec} {nm : Str} {mg : Str → Option Value} {f : Addr} (h : (rs.any fun e => e.name == nm) = true) (hm : mg nm = some (.ref f)) : ∃ d ∈ rs, mg d.name = some (.ref f) := by
  obtain ⟨d, h1, h2⟩ := List.any_eq_true.mp h
  exact ⟨d, h1, by rw [show d.name = nm from beq_iff_eq.mp h2]; exact hm⟩
/-- the name of a lambda of the def q -/
abbrev lamQ (q : Str) : Str := (q ++ ".<locals>.") ++ "<lambda>"
end GL
/-! Instances of own classes: ==, != by an own __eq__, str by an own __str__. -/
namespace GL
open PySem PySem.W PySem.Spec PySem.Calls PyProof.Rows
section
variable {prog : Program} {w : World} {A : Around} {E : Value → Shared → Prop} {s : Shared} {K : PySem.W.Frag} {x y C f : Addr} {ox : Obj} {od : Option Obj}
theorem bound_blt {M : Model} {name : Str} {id : String} {args : List Value} {Q : Option Value → Shared → Prop} (X : K.In s.heap) (I : InstAt s.heap x ox C od) (hs : findIn K (.ref C) name = some (some (.builtin id)))
    (hb : ∀ self, bindSpecial (.builtin id) self = pure (.builtin id, [self])) (h : wpAny M A (call (.builtin id) (.ref x :: args)) (fun v => Q (some v)) E s) : wpAny M A (callSpecialIfBound? (.ref x) name args) Q E s := by
  simp only [callSpecialIfBound?, bindSpecialIfBound?]
  refine wpAny_holding (wpAny_bind (wpAny_bind (wpAny_bind (I.type.here ((looks_findIn X hs).here ?_)))))
  refine wpAny_bind (wpAny_askSetting (wpAny_ite ?_))
  have fin : wpAny M A (call (.builtin id) ([.ref x] ++ args) >>= fun v => pure (some v)) Q E s := wpAny_bind (wpAny_mono h (fun v s1 h1 => wpAny_pure h1) fun _ _ h1 => h1)
  split
  · exact wpAny_bind ((Looks.of_pure (hb _)).here (wpAny_pure (by exact fin)))
  · exact wpAny_tryCatch (wpAny_bind ((Looks.of_pure (hb _)).here (wpAny_pure (by exact fin))))
open Builtin in
theorem ne_own {Q : Value → Shared → Prop} (hu : A.units + 1 < cLine) (hu1 : A.in1.units < cLine) (X : K.In s.heap) (I : InstAt s.heap x ox C od) (hb : Looks (model prog w) s.heap (typeOf (.ref y)) (.ref C)) (hn : findIn K (.ref C) "__ne__" = some (some (.builtin "object.__ne__"))) (hm : mroIn K C (.type "object") = some true)
    (hs : findIn K (.ref C) "__eq__" = some (some (.ref f))) (hf : isFn K (.ref f) = true)
    (h : wpAny (model prog w) A.in1 (call (.ref f) [.ref x, .ref y]) (fun v s1 => ∃ b, v = .bool b ∧ Q (.bool (!b)) s1) E s) : wpAny (model prog w) A (compareOp .NotEq (.ref x) (.ref y)) Q E s := by
  have body : wpAny (model prog w) A.in1 (Builtin.«object.__ne__» ⟨[.ref x, .ref y], []⟩) (fun fin s1 => ∃ b, fin = .done (.ret (.bool (!b))) ∧ Q (.bool (!b)) s1) E s := by
    unfold Builtin.«object.__ne__»
    refine wpAny_bind (m := slotArgs "__ne__" 1 _) (wpAny_pure ?_)
    refine wpAny_bind (m := cRoomFor _ _) (wpAny_cRoomFor hu1 ?_)
    refine wpAny_bind (m := callSpecialIfBound? (.ref x) (Str.ofString "__eq__") _) (ifBound_K X I hs hf (wpAny_mono h (fun r s1 hq => ?_) fun _ _ z => z))
    obtain ⟨b, rfl, q⟩ := hq
    refine wpAny_bind (m := truthy (.bool b)) (wpAny_truthy_bool ?_)
    exact wpAny_pure ⟨b, rfl, q⟩
  have ent : wpAny (model prog w) A (call (.builtin "object.__ne__") [.ref x, .ref y]) (fun v s1 => ∃ b, v = .bool (!b) ∧ Q (.bool (!b)) s1) E s := by
    refine wpAny_call (codeAny_call_builtin (by decide +kernel) F.cmpEntry_ne (check_slot (i := "object.__ne__") (owner := "object") (n := "__ne__") (by decide +kernel) (by decide +kernel) (I.type.andThen (looks_mroIn X hm)) (F.cmpArgs_ne _ _) ?_))
    refine wpAny_mono body (fun r s1 hq => ?_) fun _ _ z => z
    obtain ⟨b, rfl, q⟩ := hq
    exact ⟨b, rfl, q⟩
  refine cmp_ofNotEq ?_
  unfold richCompare
  simp only [oneThing_ref]
  refine wpAny_holding (wpAny_bind (wpAny_cRoomFor (Nat.lt_of_succ_lt hu) ?_))
  rw [cmpInfo_NotEq]
  dsimp only
  refine wpAny_bind (I.type.here (wpAny_bind (hb.here ?_)))
  rw [show (Value.ref C != Value.ref C) = false from by simp]
  simp only [Bool.false_eq_true, if_false]
  refine wpAny_bind (wpAny_pure ?_)
  simp only [Bool.false_eq_true, if_false]
  have one : wpAny (model prog w) A (tryCompare (.ref x) "__ne__" (.ref y)) (fun r s1 => ∃ b, r = some (.bool (!b)) ∧ Q (.bool (!b)) s1) E s := by
    unfold tryCompare
    refine wpAny_bind (bound_blt X I hn (fun _ => rfl) (wpAny_mono ent (fun v s1 hv => ?_) fun _ _ z => z))
    obtain ⟨b, rfl, q⟩ := hv
    exact wpAny_pure ⟨b, rfl, q⟩
  refine wpAny_bind (wpAny_mono one (fun r s1 hq => ?_) fun _ _ z => z)
  obtain ⟨b, rfl, q⟩ := hq
  first | exact wpAny_pure q | exact wpAny_pure (wpAny_pure q)
end
end GL
namespace GL
open PySem PySem.Spec PyProof.Rows L2
section
variable {X : Cx} {cx : CXT} {k : Nat} {f C : Addr} {fd : FuncData} {ps : List Str} {sp : Sp} {dvs : List V} {ds : List Value} {E : XK} {x : Str} {p pos : Pos} {e : Expr} {es : List Expr} {t : TA}
/-- C(..) of an own class -/
theorem run_makeG {pins : List (Addr × Obj)} {σ : L2.St} {H : Hp} {s : Shared} {Q : VK} {us : List Value} {vs : List V} (M : Mk X.K C f) (F : FnG X.prog X.w X.K X.mg X.base cx k f fd ps sp) (gd : X.A.guards = some []) (hr : Room (k + 1) X.A) (hb : Binds X.K fd ps ds) (hd : Vals dvs ds)
    (hx : Passes cx X E) (I : Inv X pins σ H s) (r : Vals vs us)
    (h : ∀ x dx, H x = none → H dx = none → dx ≠ x → sp (.ref x :: (vs ++ dvs)) (upd (upd H dx (.own x)) x (.ins C dx [])) (fun v H2 => v = .non ∧ Q (.ref x) H2) E) :
    wpAny (model X.prog X.w) X.A (call (.ref C) us) (EP X pins σ Q) X.xe s := by
  have hq := h (s.heap.objs.size + 1) s.heap.objs.size (I.hok.fresh (Nat.le_succ _)) (I.hok.fresh (Nat.le_refl _)) (Nat.ne_of_lt (Nat.lt_succ_self _))
  have J := Inv.made (C := C) I
  have rr : Vals (V.ref (s.heap.objs.size + 1) :: (vs ++ dvs)) (Value.ref (s.heap.objs.size + 1) :: (us ++ ds)) := .cons rfl (r.append hd)
  have hl : (Value.ref (s.heap.objs.size + 1) :: us ++ ds).length = ps.length := by
    have z := rr.length
    rw [F.len _ _ _ _ hq] at z
    exact z.symm
  have rc := F.run (X.A.under (Code.builtin "type.__call__" ⟨Value.ref C :: us, []⟩)) X.stack _ _ ⟨Value.ref (s.heap.objs.size + 1) :: us, []⟩ (Value.ref (s.heap.objs.size + 1) :: (us ++ ds)) _ _ E gd (hr.make C us []) (J.env0.make C us []) (hb _ (Value.ref (s.heap.objs.size + 1) :: us) J.kIn hl) rr hq
  refine wpAny_call (make_map (f := f) I.kIn M.makes M.init (beq_iff_eq.mp M.fn) (codeAny_mono rc fun q s1 hq1 => ?_))
  cases q with
  | error er => exact hx pins σ _ _ er s1 J hq1
  | ok fl =>
    cases fl with
    | ret u =>
      obtain ⟨v, H', J3, rv, ev, q3⟩ := J.after hq1
      subst ev
      exact ⟨rv, ⟨V.ref (s.heap.objs.size + 1), H', J3, rfl, q3⟩⟩
    | next => exact hq1.elim
    | brk => exact hq1.elim
    | cont => exact hq1.elim
theorem pe_makeG (M : Mk X.K C f) (F : FnG X.prog X.w X.K X.mg X.base cx k f fd ps sp) (gd : X.A.guards = some []) (hr : Room (k + 1) X.A) (hg : Gl X x) (hm : X.mg x = some (.ref C)) (hb : Binds X.K fd ps ds) (hd : Vals dvs ds) (hx : Passes cx X E)
    (ha : PA X (e :: es) t) (hdb : (x == ("__debug__" : Str)) = false := by decide) (he : starEach (e :: es) X.env = (false, eval e X.env) :: starEach es X.env := by rfl) (hpl : (backTo pos (starEach es X.env)).any (·.1) = false := by rfl) :
    PE X (.Call (.Name x p) (e :: es) [] pos) (tMake C sp dvs E t) := by
  refine ⟨fun pins s σ H Q I h => wpAny_Call_Name_kw (ld_glob I hg hm ?_ hdb)⟩
  exact PySem.W.callWith_K (h₀ := X.base) I.ok.mod.kin M.kp (thn (ha.run pos pins s σ H _ I h) fun us s1 ⟨vs, H1, I1, r, q⟩ => ⟨I1.kIn, run_makeG M F gd hr hb hd hx I1 r q⟩) he hpl
/-- a method of one argument more, called by the machine -/
theorem meth2 {A : Around} {pins : List (Addr × Obj)} {σ : L2.St} {H : Hp} {s : Shared} {Q : VK} {us : List Value} {vs : List V} (F : FnG X.prog X.w X.K X.mg X.base cx k f fd ps sp) (hA : A.guards = some []) (hr : Room k A) (fr : A.frames = X.A.frames) (hb : Binds X.K fd ps []) (hx : Passes cx X E)
    (I : Inv X pins σ H s) (r : Vals vs us) (h : sp vs H Q E) : wpAny (model X.prog X.w) A (call (.ref f) us) (EP X pins σ Q) X.xe s := by
  have e0 : Env0 X.prog X.w X.K X.mg X.base A X.stack s H := by
    have z := I.env0
    exact ⟨by rw [fr]; exact z.frames, z.mod, z.bs, z.bsz, z.funs, z.frf, z.hok, z.bare⟩
  have hl : us.length = ps.length := r.length.symm.trans (F.len _ _ _ _ h)
  refine wpAny_call (codeAny_mono (F.run A X.stack s H ⟨us, []⟩ us vs Q E hA hr e0 (by have z := hb s us I.kIn (by rw [List.append_nil]; exact hl); rwa [List.append_nil] at z) r h) fun q s1 hq => ?_)
  cases q with
  | error er => exact hx pins σ H s er s1 I hq
  | ok fl =>
    cases fl with
    | ret w => exact I.after hq
    | next => exact hq.elim
    | brk => exact hq.elim
    | cont => exact hq.elim
/-- x == y, x != y by the own __eq__ of the class C -/
def rOwn (C : Addr) (sp : Sp) (E : XK) (neg : Bool) : R2 := fun x y H Q => ∃ a b dx dy fs gs, x = .ref a ∧ y = .ref b ∧ H a = some (.ins C dx fs) ∧ H b = some (.ins C dy gs) ∧ sp [x, y] H (fun v H' => ∃ k, v = .bl k ∧ Q (.bl (k != neg)) H') E
structure OwnE (K : PySem.W.Frag) (C f : Addr) : Prop where
  eq : PySem.W.findIn K (.ref C) "__eq__" = some (some (.ref f))
  fn : PySem.W.isFn K (.ref f) = true
  ne : PySem.W.findIn K (.ref C) "__ne__" = some (some (.builtin "object.__ne__"))
  ob : PySem.W.mroIn K C (.type "object") = some true
theorem op_eqO (O : OwnE X.K C f) (F : FnG X.prog X.w X.K X.mg X.base cx k f fd ps sp) (gd : X.A.guards = some []) (hr : Room k X.A) (hb : Binds X.K fd ps []) (hx : Passes cx X E) : OpR X (compareOp .Eq) (rOwn C sp E false) := by
  intro pins s σ H x y v u Q I rx ry h
  obtain ⟨a, b, dx, dy, fs, gs, rfl, rfl, ha, hb', hsp⟩ := h
  cases rx
  cases ry
  obtain ⟨mA, J, _⟩ := ins_get I.hok ha
  obtain ⟨mB, J', _⟩ := ins_get I.hok hb'
  obtain ⟨od, J, _⟩ := J.look
  obtain ⟨od', J', _⟩ := J'.look
  obtain ⟨m, hF⟩ := I.fr
  show wpAny (model X.prog X.w) X.A (richCompare .Eq (.ref a) (.ref b)) (EP X pins σ Q) X.xe s
  refine PySem.W.cmp_K (op := .Eq) (tb := .ref C) hr.units0 hF I.ok.mod.kin J J'.type (by simp [PySem.W.notFirst]) O.eq O.fn ?_
  refine wpAny_mono (meth2 (vs := [.ref a, .ref b]) F gd hr rfl hb hx I (.cons rfl (.cons rfl .nil)) hsp) (fun r s1 hq => ?_) fun _ _ z => z
  obtain ⟨z, H', I', rz, kk, rfl, q⟩ := hq
  cases rz
  exact ⟨.bl (kk != false), H', I', by cases kk <;> rfl, q⟩
theorem op_neO (O : OwnE X.K C f) (F : FnG X.prog X.w X.K X.mg X.base cx k f fd ps sp) (gd : X.A.guards = some []) (hr : Room (k + 1) X.A) (hb : Binds X.K fd ps []) (hx : Passes cx X E) : OpR X (compareOp .NotEq) (rOwn C sp E true) := by
  intro pins s σ H x y v u Q I rx ry h
  obtain ⟨a, b, dx, dy, fs, gs, rfl, rfl, ha, hb', hsp⟩ := h
  cases rx
  cases ry
  obtain ⟨mA, J, _⟩ := ins_get I.hok ha
  obtain ⟨mB, J', _⟩ := ins_get I.hok hb'
  obtain ⟨od, J, _⟩ := J.look
  obtain ⟨od', J', _⟩ := J'.look
  have un := hr.units
  refine GL.ne_own (by omega) (hr.in1.units0) I.kIn J J'.type O.ne O.ob O.eq O.fn ?_
  refine wpAny_mono (meth2 (vs := [.ref a, .ref b]) F gd hr.in1 rfl hb hx I (.cons rfl (.cons rfl .nil)) hsp) (fun r s1 hq => ?_) fun _ _ z => z
  obtain ⟨z, H', I', rz, kk, rfl, q⟩ := hq
  cases rz
  exact ⟨kk, rfl, .bl (kk != true), H', I', by cases kk <;> rfl, q⟩
/-- str(x) by the own __str__ -/
def rStrO (C : Addr) (sp : Sp) (E : XK) : List V → Hp → VK → Prop := fun xs H Q => ∃ a dx fs, xs = [.ref a] ∧ H a = some (.ins C dx fs) ∧ sp [.ref a] H (fun v H' => ∃ z, v = .str z ∧ Q v H') E
theorem call_strO (hs : PySem.W.findIn X.K (.ref C) "__str__" = some (some (.ref f))) (hf : PySem.W.isFn X.K (.ref f) = true) (F : FnG X.prog X.w X.K X.mg X.base cx k f fd ps sp) (gd : X.A.guards = some []) (hr : Room (k + 2) X.A) (hb : Binds X.K fd ps []) (hx : Passes cx X E) : CallR X (.type "str") (rStrO C sp E) := by
  intro pins s σ H xs us Q I r h
  obtain ⟨a, dx, fs, rfl, ha, hsp⟩ := h
  obtain ⟨u, rfl, ru⟩ := vals1 r
  cases ru
  obtain ⟨mA, J, _⟩ := ins_get I.hok ha
  obtain ⟨od, J, _⟩ := J.look
  refine PySem.W.kso_call (hr.in1.in1.units0) I.kIn J hs hf ?_
  refine wpAny_mono (meth2 (vs := [.ref a]) F gd hr.in1.in1 rfl hb hx I (.cons rfl .nil) hsp) (fun r s1 hq => ?_) fun _ _ z => z
  obtain ⟨z, H', I', rz, y, rfl, q⟩ := hq
  obtain ⟨t, rfl⟩ := rz
  exact ⟨.str y, H', I', ⟨t, rfl⟩, q⟩
end
end GL
/-! What is never run; walks over nothing. -/
namespace GL
open PySem PySem.Spec PyProof.Rows L2
section
variable {X : Cx}
def tNo : TE := fun _ _ _ => False
def tNoS : TS := fun _ _ _ => False
def tNoT : TT := fun _ _ _ => False
def gNo : TG := fun _ _ _ _ => False
def iNo : TI := fun _ _ _ => False
theorem pe_dead {e : Expr} : PE X e tNo := ⟨fun _ _ _ _ _ _ h => h.elim⟩
theorem ps_dead {st : Stmt} : PS X st tNoS := ⟨fun _ _ _ _ _ _ h => h.elim⟩
theorem pss_dead {st : List Stmt} : PSs X st tNoS := ⟨fun _ _ _ _ _ _ h => h.elim⟩
theorem pts_dead {es : List Expr} : PTs X es tNoT := ⟨fun _ _ _ _ _ _ h => h.elim⟩
theorem pg_dead {e : Expr} : PG X e gNo := ⟨fun _ _ _ _ _ _ _ _ _ h => h.elim⟩
theorem pi_dead {tg e : Expr} : PI X tg e iNo := ⟨fun _ _ _ _ _ _ h => h.elim⟩
end
section
variable {p : Addr} {wi wi1 : TI} {g g1 : TG} {tt tt1 : TT} {te tk tv : TE} {vs vs1 : List Nat} {σ : L2.St} {H : Hp} {Q : VK} {K : PySem.W.Frag}
theorem lcE (src : Src p wi σ H []) (q : ∀ D H2, H D = none → H2 D = some (.lst []) → Ex H H2 → Q (.ref D) H2) : tLc wi g tt te vs σ H Q := src _ fun J H1 e1 w D hD =>
  lc_it w (fun i H2 => H2 = upd H1 D (.lst [])) rfl (fun i H2 _ e => by rw [e]; exact Ex.kp (Ex.nw hD)) (fun i x H2 H3 hi => absurd hi (Nat.not_lt_zero _)) fun H2 e => by rw [e]; exact q D _ (e1.no hD) upd_same (e1.tr (Ex.nw hD))
theorem lc2E (src : Src p wi σ H []) (q : ∀ D H2, H D = none → H2 D = some (.lst []) → Ex H H2 → Q (.ref D) H2) : tLc2 wi g tt wi1 g1 tt1 te vs vs1 σ H Q := src _ fun J H1 e1 w D hD =>
  ⟨fun i m H2 => i = 0 ∧ H2 = upd H1 D (.lst []), ⟨0, rfl, rfl⟩, fun i m H2 ⟨ei, e⟩ => .inl (by
    subst ei; subst e
    exact ⟨w.stops _ (Ex.kp (Ex.nw hD)), q D _ (e1.no hD) upd_same (e1.tr (Ex.nw hD))⟩)⟩
theorem dcE (src : Src p wi σ H []) (q : ∀ D H2, H D = none → H2 D = some (.dK []) → Ex H H2 → Q (.ref D) H2) : tDc wi g tt tk tv vs σ H Q := src _ fun J H1 e1 w D hD =>
  ⟨fun i m H2 => i = 0 ∧ H2 = upd H1 D (.dK []), ⟨0, rfl, rfl⟩, fun i m H2 ⟨ei, e⟩ => .inl (by
    subst ei; subst e
    exact ⟨w.stops _ (Ex.kp (Ex.nw hD)), q D _ (e1.no hD) upd_same (e1.tr (Ex.nw hD))⟩)⟩
theorem forE {tb : TS} {D : Ends} (src : Src p wi σ H []) (q : ∀ H1, Ex H H1 → D.nx σ H1) : tFor wi g tb D σ H := src _ fun J H1 e1 w =>
  for_it w (fun i τ H2 => τ = σ ∧ H2 = H1) ⟨rfl, rfl⟩ (fun i τ H2 _ e => by rw [e.2]; exact Kp.rfl' _) (fun i x τ H2 H3 hi => absurd hi (Nat.not_lt_zero _)) fun τ H2 e => by rw [e.1, e.2]; exact q H1 e1
/-- the empty tuple, the empty list, held by a name -/
theorem srcT {i : Nat} {a : Addr} (hi : σ[i]? = some (some (.ref a))) (ha : H a = some (.tup [])) : Src (a + 1) (iTup K (tVar i)) σ H [] := Src.nameT hi (Nat.ne_of_lt (Nat.lt_succ_self a)) ha
theorem srcL {i : Nat} {a : Addr} (hi : σ[i]? = some (some (.ref a))) (ha : H a = some (.lst [])) : Src (a + 1) (iList K (tVar i)) σ H [] := Src.nameL hi (Nat.ne_of_lt (Nat.lt_succ_self a)) ha
/-- .. told by an expression -/
def SrcE (wi : TI) (σ : L2.St) (H : Hp) : Prop := ∀ R : It → Hp → Prop, (∀ (J : It) (H1 : Hp), Ex H H1 → (∀ H2, Ex H1 H2 → J.stop 0 H2) → R J H1) → wi σ H R
theorem srcE_L (h : ∀ Q : VK, (∀ a H1, Ex H H1 → H1 a = some (.lst []) → Q (.ref a) H1) → te σ H Q) : SrcE (iList K te) σ H := fun R q => h _ fun a H1 e ha => ⟨a, rfl, ⟨[], SqL.of ha⟩, q _ H1 e fun H2 e2 => (walk_list (K := K) (a := a) (xs := [])).stops H2 (SqL.of (e2 _ _ ha))⟩
theorem srcE_T (h : ∀ Q : VK, (∀ a H1, Ex H H1 → H1 a = some (.tup []) → Q (.ref a) H1) → te σ H Q) : SrcE (iTup K te) σ H := fun R q => h _ fun a H1 e ha => ⟨a, rfl, ⟨[], SqT.of ha⟩, q _ H1 e fun H2 e2 => (walk_tup (K := K) (a := a) (xs := [])).stops H2 (SqT.of (e2 _ _ ha))⟩
theorem srcE_z {ta : TA} (h : ∀ Q : List V → Hp → Prop, (∀ a b H1, Ex H H1 → H1 a = some (.lst []) → H1 b = some (.lst []) → Q [.ref a, .ref b] H1) → ta σ H Q) : SrcE (iZip K ta) σ H := fun R q => h _ fun a b H1 e ha hb =>
  ⟨a, b, [], [], rfl, SqL.of ha, SqL.of hb, q _ H1 e fun H2 e2 => (walk_zip (K := K) (a := a) (b := b) (xs := []) (ys := []) (n := 0) rfl).stops H2 ⟨SqL.of (e2 _ _ ha), SqL.of (e2 _ _ hb)⟩⟩
theorem lcE' (src : SrcE wi σ H) (q : ∀ D H2, H D = none → H2 D = some (.lst []) → Ex H H2 → Q (.ref D) H2) : tLc wi g tt te vs σ H Q := src _ fun J H1 e1 st D hD =>
  ⟨fun i m H2 => i = 0 ∧ H2 = upd H1 D (.lst []), ⟨0, rfl, rfl⟩, fun i m H2 ⟨ei, e⟩ => .inl (by
    subst ei; subst e
    exact ⟨st _ (Ex.nw hD), q D _ (e1.no hD) upd_same (e1.tr (Ex.nw hD))⟩)⟩
theorem lc2E' (src : SrcE wi σ H) (q : ∀ D H2, H D = none → H2 D = some (.lst []) → Ex H H2 → Q (.ref D) H2) : tLc2 wi g tt wi1 g1 tt1 te vs vs1 σ H Q := src _ fun J H1 e1 st D hD =>
  ⟨fun i m H2 => i = 0 ∧ H2 = upd H1 D (.lst []), ⟨0, rfl, rfl⟩, fun i m H2 ⟨ei, e⟩ => .inl (by
    subst ei; subst e
    exact ⟨st _ (Ex.nw hD), q D _ (e1.no hD) upd_same (e1.tr (Ex.nw hD))⟩)⟩
theorem dcE' (src : SrcE wi σ H) (q : ∀ D H2, H D = none → H2 D = some (.dK []) → Ex H H2 → Q (.ref D) H2) : tDc wi g tt tk tv vs σ H Q := src _ fun J H1 e1 st D hD =>
  ⟨fun i m H2 => i = 0 ∧ H2 = upd H1 D (.dK []), ⟨0, rfl, rfl⟩, fun i m H2 ⟨ei, e⟩ => .inl (by
    subst ei; subst e
    exact ⟨st _ (Ex.nw hD), q D _ (e1.no hD) upd_same (e1.tr (Ex.nw hD))⟩)⟩
theorem forE' {tb : TS} {D : Ends} (src : SrcE wi σ H) (q : ∀ H1, Ex H H1 → D.nx σ H1) : tFor wi g tb D σ H := src _ fun J H1 e1 st =>
  ⟨fun i m τ H2 => i = 0 ∧ τ = σ ∧ H2 = H1, ⟨0, rfl, rfl, rfl⟩, fun i m τ H2 ⟨ei, et, e⟩ => .inl (by
    subst ei; subst et; subst e
    exact ⟨st _ (Ex.rfl' _), q _ e1⟩)⟩
end
end GL
/-! What the written part says of an own class. -/
namespace GL
open PySem PySem.Spec PyProof.Rows L2
structure InsC (K : PySem.W.Frag) (C : Addr) : Prop where
  cl : Cls K C
  ha : PySem.W.findIn K (.ref C) "__class__" = some (some (.builtin "object.__class__"))
  hn : PySem.W.specialIn K (.builtin "object.__class__") "__get__" = some (some (.builtin "getset_descriptor.__get__"))
  htk : PySem.W.takesIn K (.builtin "object.__class__") = some true
  hm : PySem.W.mroIn K C (.type "object") = some true
theorem InsC.ty {K : PySem.W.Frag} {H : Hp} {a C dx : Addr} {fs : List (Str × V)} (t : InsC K C) (e : H a = some (.ins C dx fs)) : TyX K H (.ref a) (.ref C) := .base (.ins e t.cl t.ha t.hn t.htk t.hm)
theorem isO_go {K : PySem.W.Frag} {H : Hp} {a C dx : Addr} {fs : List (Str × V)} {b : Bool} {u : Value} {c : V} {Q : VK} (t : InsC K C) (e : H a = some (.ins C dx fs)) (hc : ClsV c u) (hk : PySem.W.kitOne K (.ref C) u = some b) (q : Q (.bl b) H) : rIsE K [.ref a, c] H Q :=
  .inl ⟨.ref a, c, _, u, b, rfl, hc, t.ty e, hk, q⟩
def insB (K : PySem.W.Frag) (C : Addr) : Bool := PySem.W.plainGet K C Str.empty && PySem.W.hasDictIn K C && PySem.W.plainOver K C && decide (PySem.W.findIn K (.ref C) "__setattr__" = some (some (.builtin "object.__setattr__"))) &&
  decide (PySem.W.findIn K (.ref C) "__class__" = some (some (.builtin "object.__class__"))) && decide (PySem.W.specialIn K (.builtin "object.__class__") "__get__" = some (some (.builtin "getset_descriptor.__get__"))) &&
  decide (PySem.W.takesIn K (.builtin "object.__class__") = some true) && decide (PySem.W.mroIn K C (.type "object") = some true)
theorem ins_of {K : PySem.W.Frag} {C : Addr} (h : insB K C = true) : InsC K C := by
  unfold insB at h
  simp only [Bool.and_eq_true, decide_eq_true_eq] at h
  obtain ⟨⟨⟨⟨⟨⟨⟨h1, h2⟩, h3⟩, h4⟩, h5⟩, h6⟩, h7⟩, h8⟩ := h
  exact ⟨⟨h1, h2, h3, h4⟩, h5, h6, h7, h8⟩
def mkB (K : PySem.W.Frag) (C : Addr) : Bool := PySem.W.makesIn K C && PySem.W.keepIn K (.ref C)
theorem mk_of {K : PySem.W.Frag} {C f : Addr} (h : mkB K C = true) (h1 : PySem.W.findIn K (.ref C) "__init__" = some (some (.ref f))) (h2 : PySem.W.isFn K (.ref f) = true) : Mk K C f := by
  unfold mkB at h
  simp only [Bool.and_eq_true] at h
  exact ⟨h.1, h1, h2, h.2⟩
def noA (K : PySem.W.Frag) (C : Addr) (fs : List Str) : Bool := fs.all fun f => decide (PySem.W.findIn K (.ref C) f = some none)
theorem noA_of {K : PySem.W.Frag} {C : Addr} {fs : List Str} {f : Str} (h : noA K C fs = true) (hf : f ∈ fs) : NoAttr K C f := by
  have q : PySem.W.findIn K (.ref C) f = some none := of_decide_eq_true (List.all_eq_true.mp h f hf)
  exact q
def ownB (K : PySem.W.Frag) (C f : Addr) : Bool := PySem.W.isFn K (.ref f) && decide (PySem.W.findIn K (.ref C) "__ne__" = some (some (.builtin "object.__ne__"))) && decide (PySem.W.mroIn K C (.type "object") = some true)
theorem own_of {K : PySem.W.Frag} {C f : Addr} (h : ownB K C f = true) (h1 : PySem.W.findIn K (.ref C) "__eq__" = some (some (.ref f))) : OwnE K C f := by
  unfold ownB at h
  simp only [Bool.and_eq_true, decide_eq_true_eq] at h
  exact ⟨h1, h.1.1, h.1.2, h.2⟩
end GL
/-! try with a clause that is meant ahead of others. -/
namespace GL
open PySem PySem.Spec PyProof.Rows L2
section
variable {X : Cx} {x n : Str} {c : Value} {i : Nat} {body suite : List Stmt} {b₀ : Stmt} {np pos pos' : Pos} {tb : WX → TS} {ts : TS}
/-- a clause that is meant, whatever stands behind it -/
theorem catch_mid {post : List ExceptHandler} {pins : List (Addr × Obj)} {σ : L2.St} {H : Hp} {sI s' : Shared} {B : Heap} {a : Addr} {cls : Value} {d : Option Addr} {D : Ends} (hN : X.N.Nodup) (hi : X.N[i]? = some n) (hln : X.env.kindOf n = some .local) (hc : Names X x c)
    (hsu : ∀ (a : Addr) (pn : List (Addr × Obj)), PSs (X.suite a pn) (b₀ :: suite) ts) (J : Inv X pins σ H sI) (nb : ∀ b o, sI.heap.get? b = some o → b ∉ frs X.stack → B.get? b = some o) (up : sI.heap.UpToSlots s'.heap) (fl : HandSPX.FlyingZ B X.stack a (Zc cls d) s'.heap)
    (na : H a = none) (os : s'.os = sI.os) (ag : AllBare s'.gens) (nL : a ≠ X.env.locals) (nF : a ∉ X.fs) (nS : a ∉ frs X.stack) (w : wLast X.K c i ts D cls d σ H) :
    wpAny (model X.prog X.w) X.A (handleBy (.ref a) X.env (.ExceptHandler (some (.Name x np)) (some n) (b₀ :: suite) pos' :: post)) (SP X pins D) X.xe s' := by
  have ok := J.ok
  have nB : B.get? a = none := fl.2.1
  have nI : sI.heap.get? a = none := by
    cases e : sI.heap.get? a with
    | none => rfl
    | some o => rw [nb a o e nS] at nB; cases nB
  have K3 : Inv X pins σ H s' := J.landed nb fl.1 up os ag
  obtain ⟨oe, vs, he, hz, hd⟩ := fl.there
  have S3 := K3.suite he hd na nL nF
  obtain ⟨hb1, hw⟩ := w
  refine wpAny_handleBy_cons (codeAny_handlers_test ?_) (by intro z; cases z)
  have LT : PySem.W.Looks (model X.prog X.w) s'.heap (typeOf (.ref a)) cls := fun A Q E s k q => wpAny_typeOf_ref (k _ _ he) (by rw [hz.1]; exact q)
  have LM := PySem.W.exm_one (M := model X.prog X.w) K3.kIn LT hb1
  have tst : ∀ {Q : Value → Shared → Prop} {E : Value → Shared → Prop}, Q c s' → wpAny (model X.prog X.w) (X.A.mark (some (.ref a))) (eval (.Name x np) X.env) Q E s' := fun {Q E} q => by
    obtain ⟨hg, hdb, hm | ⟨hm, hv, hnn⟩⟩ := hc
    · exact ld_glob (X := X.suite a ((a, oe) :: (X.pn ++ pins))) S3 hg hm q hdb
    · exact ld_blt (X := X.suite a ((a, oe) :: (X.pn ++ pins))) S3 hg hm hv q hnn hdb
  refine tst (LM.here ?_)
  refine codeAny_handlers_suite_as ?_
  refine HandSPX.lands_againZ fl fun h4 fl4 up4 => ?_
  have K4 : Inv X pins σ H { s' with heap := h4 } := J.landed nb fl4.1 (up.trans up4) os ag
  obtain ⟨oe4, vs4, he4, hz4, hd4⟩ := fl4.there
  have S4 := K4.suite he4 hd4 na nL nF
  refine store_ok (X := X.suite a ((a, oe4) :: (X.pn ++ pins))) (v := .ref a) S4 hN hi (.inl hln) rfl (fun s5 S5 => ?_) (.inr hln)
  have T5 := Inv.track (φ := fun h => h.get? a = some oe4) ok S5 hd4 (S5.pin (a, oe4) (List.mem_append_left _ List.mem_cons_self)).1 (fun h1 h2 z k => k _ z)
    (fun o z n hx => by have q := J.base.keep a o z n nF hx; rw [nI] at q; cases q) (fun q hq e => by
      have z := (J.pin q hq).1
      rw [e, nI] at z; cases z)
  refine wpAny_mono ((hsu a (X.pn ++ pins)).run [] s5 _ _ (back i D) T5 (hw a _ na ⟨_, rfl, fun h z => ⟨oe4, vs4, z, hz4, hd4⟩⟩)) (fun f s6 hsp => ?_) (fun _ _ z => False.elim z)
  have fin : ∀ {τ : L2.St} {G : Hp} {Q : Shared → Prop}, Inv (X.suite a (X.pn ++ pins)) [] τ G s6 → (∀ s7, Inv X pins (τ.set i none) G s7 → Q s7) →
      wpAny (model X.prog X.w) X.A (do bindName X.env n .none; unbindBehindTheSuite X.env n pos') (fun _ s7 => Q s7) X.xe s6 := fun {τ G Q} S6 hq =>
    gone_ok (X := X) (pins := pins) ⟨ok, S6.os, S6.bare, S6.base, S6.loc, S6.cell, S6.free, S6.freeC, fun p hp => S6.pin p (List.mem_append_left _ hp), S6.hok, S6.len⟩ hN hi hln hq
  cases f with
  | next =>
    obtain ⟨τ, G, S6, q6⟩ := hsp
    exact fin S6 fun s7 J7 => ⟨_, G, J7, q6⟩
  | brk =>
    obtain ⟨τ, G, S6, q6⟩ := hsp
    exact fin S6 fun s7 J7 => ⟨_, G, J7, q6⟩
  | cont =>
    obtain ⟨τ, G, S6, q6⟩ := hsp
    exact fin S6 fun s7 J7 => ⟨_, G, J7, q6⟩
  | ret u =>
    obtain ⟨v6, τ, G, S6, r6, q6⟩ := hsp
    exact fin S6 fun s7 J7 => ⟨v6, _, G, J7, r6, q6⟩
/-- try: body; except x as n: suite; whatever stands behind -/
theorem ps_tryM {post : List ExceptHandler} (hs : X.stack = X.env :: X.outer) (hf : X.env.frame = some X.env.locals) (hN : X.N.Nodup) (hi : X.N[i]? = some n) (hln : X.env.kindOf n = some .local) (hc : Names X x c)
    (hb : ∀ (W : WX) (pn : List (Addr × Obj)) (xe : Value → Shared → Prop), Takes (X.tr pn xe) W → PassesOwn (model X.prog X.w) X.A X.env xe → PSs (X.tr pn xe) body (tb W))
    (hsu : ∀ (a : Addr) (pn : List (Addr × Obj)), PSs (X.suite a pn) (b₀ :: suite) ts) :
    PS X (.Try body (.ExceptHandler (some (.Name x np)) (some n) (b₀ :: suite) pos' :: post) [] [] pos)
      (fun D σ H => tb (fun cls d τ G => wLast X.K c i ts D cls d τ G) D σ H) := by
  refine ⟨fun pins s σ H D I h => ?_⟩
  have ok := I.ok
  have hfr : X.A.frames = some (X.env :: X.outer) := by rw [ok.frames, hs]
  refine wpAny_Try_except ?_
  refine wpAny_mono ((hb (fun cls d τ G => wLast X.K c i ts D cls d τ G) (X.pn ++ pins) (fun e s₁ => wpAny (model X.prog X.w) X.A (noteFrame e X.env) (fun _ s₂ =>
    wpAny (model X.prog X.w) X.A (setFlight e none) (fun _ s₃ => wpAny (model X.prog X.w) X.A (handleBy e X.env (.ExceptHandler (some (.Name x np)) (some n) (b₀ :: suite) pos' :: post)) (SP X pins D) X.xe s₃) X.xe s₂) X.xe s₁) (fun u s' xx => ?_) PassesOwn.looking).run [] s σ H D (I.toTry _) h) (fun f s1 hsp => ?_) (fun e s1 he => he)
  · obtain ⟨a, B, sI, pins', σ', H', cls, d, rfl, J', nb, up, sky, na, os, ag, w⟩ := xx
    have J : Inv X pins σ' H' sI := J'.ofTry ok
    have sky2 : Sky B (X.env :: X.outer) a (Zc cls d) X.env.locals s'.heap := by rw [← hs]; exact sky
    show wpAny (model X.prog X.w) X.A (noteFrame (.ref a) X.env) _ _ _
    refine Sky.land Zc.steady hfr hf sky2 fun h3 fl3 up3 => ?_
    rw [← hs] at fl3
    obtain ⟨oe3, vs3, he3, hz3, hd3⟩ := fl3.there
    have nS : a ∉ frs X.stack := fun hm => by
      obtain ⟨_, o', e', hnf⟩ := fl3.2.2.1.mem hm
      rw [he3] at e'; cases e'
      exact hnf _ hd3
    have nL : a ≠ X.env.locals := fun z => nS (List.mem_filterMap.mpr ⟨X.env, by rw [hs]; exact List.mem_cons_self, by rw [hf, z]⟩)
    have nF : a ∉ X.fs := fun hm => by
      obtain ⟨e, hx, q⟩ := List.mem_filterMap.mp hm
      exact nS (List.mem_filterMap.mpr ⟨e, by rw [hs]; exact List.mem_cons_of_mem _ hx, q⟩)
    exact catch_mid (s' := { s' with heap := h3 }) hN hi hln hc hsu J nb (up.trans up3) fl3 na os ag nL nF nS w
  · cases f with
    | next =>
      obtain ⟨τ, G, J, q⟩ := hsp
      exact wpAny_execs_nil ⟨τ, G, J.ofTry ok, q⟩
    | brk =>
      obtain ⟨τ, G, J, q⟩ := hsp
      exact ⟨τ, G, J.ofTry ok, q⟩
    | cont =>
      obtain ⟨τ, G, J, q⟩ := hsp
      exact ⟨τ, G, J.ofTry ok, q⟩
    | ret u =>
      obtain ⟨v, τ, G, J, r, q⟩ := hsp
      exact ⟨v, τ, G, J.ofTry ok, r, q⟩
end
end GL
/-! a name set to a dict comprehension. -/
namespace GL
open PySem PySem.Spec PyProof.Rows L2
section
variable {X : Cx}
theorem ps_setDc {i : Nat} {y : Str} {py : Pos} {kx vx tg iter : Expr} {ifs : List Expr} {scope : Scope} {own : List (Str × Nat)} {pos spos : Pos} {wi : TI} {g : TG} {tt : TT} {tk tv : TE} (hc : X.calm = true) (hN : X.N.Nodup) (hy : X.N[i]? = some y) (hyl : X.env.scope.names.lookup y = some .local)
    (hsw : swapsWith (.DictComp kx vx [⟨tg, iter, ifs, 0⟩] scope pos) (some (.Name y py)) spos.line X.env = pure true) (hi : PI X tg iter wi) (ok : BlkOk X.N X.env.scope scope own)
    (hg : ∀ (s : Shared) (H : Hp) (C : Addr) (cl : List (Str × Addr)) (fp : List Addr), PG (X.blk s H scope (compEnvC scope cl C X.env) fp) tg g) (ht : ∀ (s : Shared) (H : Hp) (C : Addr) (cl : List (Str × Addr)) (fp : List Addr), PTs (X.blk s H scope (compEnvC scope cl C X.env) fp) ifs tt)
    (hk : ∀ (s : Shared) (H : Hp) (C : Addr) (cl : List (Str × Addr)) (fp : List Addr), PE (X.blk s H scope (compEnvC scope cl C X.env) fp) kx tk)
    (he : ∀ (s : Shared) (H : Hp) (C : Addr) (cl : List (Str × Addr)) (fp : List Addr), PE (X.blk s H scope (compEnvC scope cl C X.env) fp) vx tv) (hs : ∀ x, foldedSetIterable iter X.env x = pure x := by intro _; rfl) :
    PS X (.Assign [.Name y py] (.DictComp kx vx [⟨tg, iter, ifs, 0⟩] scope pos) spos) (tAsg (tDc wi g tt tk tv (own.map (·.2))) (gName i)) := by
  refine ⟨fun pins s σ H D I h => ?_⟩
  rw [exec_Assign_Name_used _ _ _ _ hsw]
  refine wpAny_bind (wpAny_standAt (wpAny_bind ?_))
  have h : tDc wi g tt tk tv (own.map (·.2)) σ H (fun x H1 => gName i x σ H1 D.nx) := h
  refine wpAny_bind (thn (dc_core (Qf := fun _ s' => SP X pins D .next s') hc hN I hi ok hg ht hk he hs h fun L C s' m H' I' q hn f => ?_) fun _ s' hq => wpAny_pure (wpAny_pure hq))
  show wpAny _ _ (assign (.Name y py) X.env (.ref L)) _ _ _
  refine wpAny_assign_Name (store_ok2 (v := V.ref L) I' hN hy (.inl hyl) rfl (fun s2 I2 ⟨a, sb, ha⟩ => ?_) (.inr hyl))
  obtain ⟨f0, f1, f2, f3, f4, f5⟩ := f
  have haC : C ≠ a := by
    rcases ha with z | z
    · rw [z]; exact f1
    · exact fun e => f4 y a z e.symm
  refine ⟨m, hn.sameBut sb haC, fun h3 sb3 => ?_⟩
  exact ⟨_, H', I2.turned (t' := s2.toks) (fun b o hb e => (sb3.2 b hb).trans e) f0 f1 f3 f4 f5, q⟩
theorem sw_trueD {kx vx : Expr} {gs : List Comprehension} {scope : Scope} {pos py : Pos} {y : Str} {l : Nat} {env : Env} (hk : env.scope.kind = .function) (hy : env.scope.names.lookup y = some .local) (hl : (py.line == pos.line) = true)
    (ha : (scope.names.any fun (n, k) => n == y && (k == .local || k == .cell)) = false) : swapsWith (.DictComp kx vx gs scope pos) (some (.Name y py)) l env = pure true := by
  have ky : env.kindOf y = some .local := hy
  have hb : env.blockKind = .function := by unfold Env.blockKind; rw [hk]; rfl
  unfold swapsWith
  simp only [hb, ky, ha, Expr.pos, hl]
  rfl
end
end GL
set_option maxHeartbeats 1000000
/-! Data apart from the heap: what a value is, whatever stands where. Owners are lists that one name alone holds. -/
namespace DD
open PySem PySem.Spec PyProof.Rows L2 GL

/-- where classes stand, those of errors; the tables of the defs that make lambdas -/
structure Cb where
  c : Nat → Addr
  x : Nat → Addr
  T : List (Addr × Str)
inductive D where
  | non | bl (b : Bool) | int (i : Int) | str (x : Str) | lst (ds : List D) | tup (ds : List D) | dk (ks : List Key) (ds : List D) | ob (c : Nat) (ns : List Str) (ds : List D)

mutual
inductive Dv (K : PySem.W.Frag) (cp : Cb) (G : Addr → Prop) (H : Hp) : V → D → Prop
  | non : Dv K cp G H .non .non
  | bl (b : Bool) : Dv K cp G H (.bl b) (.bl b)
  | int (i : Int) : Dv K cp G H (.int i) (.int i)
  | str (x : Str) : Dv K cp G H (.str x) (.str x)
  | lst {a : Addr} {vs : List V} {ds : List D} : H a = some (.lst vs) → ¬ G a → DvA K cp G H vs ds → Dv K cp G H (.ref a) (.lst ds)
  | tup {a : Addr} {vs : List V} {ds : List D} : H a = some (.tup vs) → ¬ G a → DvA K cp G H vs ds → Dv K cp G H (.ref a) (.tup ds)
  | kt {a : Addr} {vs : List V} {ds : List D} : (∀ H', SqT K H' a vs) → DvA K cp G H vs ds → Dv K cp G H (.ref a) (.tup ds)
  | dk {a : Addr} {kvs : List (Key × V)} {ks : List Key} {ds : List D} : Rd H a (.dK kvs) → ¬ G a → kvs.map (·.1) = ks → DvA K cp G H (kvs.map (·.2)) ds → Dv K cp G H (.ref a) (.dk ks ds)
  | ob {a dx : Addr} {c : Nat} {fs : List (Str × V)} {ns : List Str} {ds : List D} : H a = some (.ins (cp.c c) dx fs) → ¬ G a → fs.map (·.1) = ns → DvA K cp G H (fs.map (·.2)) ds → Dv K cp G H (.ref a) (.ob c ns ds)
inductive DvA (K : PySem.W.Frag) (cp : Cb) (G : Addr → Prop) (H : Hp) : List V → List D → Prop
  | nil : DvA K cp G H [] []
  | cons {v : V} {vs : List V} {d : D} {ds : List D} : Dv K cp G H v d → DvA K cp G H vs ds → DvA K cp G H (v :: vs) (d :: ds)
end
/-- o still stands at a; a code object's table may have grown -/
def Sm (o : HO) (H' : Hp) (a : Addr) : Prop := match o with
  | .tbl _ => ∃ qs, H' a = some (.tbl qs)
  | o => H' a = some o
theorem Sm.of {o : HO} {H' : Hp} {a : Addr} (h : H' a = some o) : Sm o H' a := by
  cases o <;> first | exact ⟨_, h⟩ | exact h
theorem Sm.is {o : HO} {H' : Hp} {a : Addr} (h : Sm o H' a) : ∃ u, H' a = some u := by
  cases o <;> first | exact ⟨_, h⟩ | exact h.elim fun _ z => ⟨_, z⟩
theorem Sm.tr {o : HO} {H1 H2 : Hp} {a : Addr} (h : Sm o H1 a) (k : ∀ u, H1 a = some u → Sm u H2 a) : Sm o H2 a := by
  cases o <;> first | exact k _ h | (obtain ⟨q, z⟩ := h; exact (show Sm (.tbl q) H2 a from k _ z))
/-- .. to the letter, unless it is a table -/
theorem Sm.to {o : HO} {H' : Hp} {a : Addr} (h : Sm o H' a) (n : ∀ qs, o ≠ .tbl qs) : H' a = some o := by
  cases o <;> first | exact h | exact absurd rfl (n _)
/-- all that is told is kept, and stays outside -/
structure Mv (G : Addr → Prop) (H : Hp) (G' : Addr → Prop) (H' : Hp) : Prop where
  k : ∀ a o, ¬ G a → H a = some o → ¬ G' a ∧ Sm o H' a
theorem rd_some {H : Hp} {a : Addr} {u : HO} (r : Rd H a u) : ∃ o, H a = some o := r.elim (fun h => ⟨_, h⟩) fun ⟨_, h⟩ => ⟨_, h⟩
theorem Mv.rd {G G' : Addr → Prop} {H H' : Hp} (m : Mv G H G' H') {a : Addr} {u : HO} (n : ¬ G a) (r : Rd H a u) (hu : ∀ qs, u ≠ .tbl qs := by intro _ z; cases z) : ¬ G' a ∧ Rd H' a u := by
  rcases r with h | ⟨o, h⟩
  · exact ⟨(m.k _ _ n h).1, .inl ((m.k _ _ n h).2.to hu)⟩
  · exact ⟨(m.k _ _ n h).1, .inr ⟨o, (m.k _ _ n h).2⟩⟩
section
variable {K : PySem.W.Frag} {cp : Cb} {G G' : Addr → Prop} {H H' : Hp}
mutual
theorem Dv.mv (m : Mv G H G' H') : ∀ (d : D) (v : V), Dv K cp G H v d → Dv K cp G' H' v d
  | .non, _, h => by cases h; exact .non
  | .bl b, _, h => by cases h; exact .bl b
  | .int i, _, h => by cases h; exact .int i
  | .str x, _, h => by cases h; exact .str x
  | .lst ds, _, h => by
    cases h with
    | @lst a vs _ h1 n h2 => exact .lst (m.k _ _ n h1).2 (m.k _ _ n h1).1 (DvA.mv m ds vs h2)
  | .tup ds, _, h => by
    cases h with
    | @tup a vs _ h1 n h2 => exact .tup (m.k _ _ n h1).2 (m.k _ _ n h1).1 (DvA.mv m ds vs h2)
    | @kt a vs _ h1 h2 => exact .kt h1 (DvA.mv m ds vs h2)
  | .dk ks ds, _, h => by
    cases h with
    | @dk a kvs _ _ h1 n e h2 => exact .dk (m.rd n h1).2 (m.rd n h1).1 e (DvA.mv m ds _ h2)
  | .ob c ns ds, _, h => by
    cases h with
    | @ob a dx _ fs _ _ h1 n e h2 => exact .ob (m.k _ _ n h1).2 (m.k _ _ n h1).1 e (DvA.mv m ds _ h2)
theorem DvA.mv (m : Mv G H G' H') : ∀ (ds : List D) (vs : List V), DvA K cp G H vs ds → DvA K cp G' H' vs ds
  | [], _, h => by cases h; exact .nil
  | d :: ds, _, h => by
    cases h with
    | cons h1 h2 => exact .cons (Dv.mv m d _ h1) (DvA.mv m ds _ h2)
end
theorem Mv.ex (e : Ex H H') : Mv G H G H' := ⟨fun a o n h => ⟨n, .of (e a o h)⟩⟩
theorem Mv.sub (s : ∀ a, G' a → G a) : Mv G H G' H := ⟨fun a o n h => ⟨fun g => n (s a g), .of h⟩⟩
theorem Mv.tr {G1 : Addr → Prop} {H1 : Hp} (a : Mv G H G1 H1) (b : Mv G1 H1 G' H') : Mv G H G' H' := ⟨fun x o n h => have z := a.k x o n h; ⟨z.2.is.elim fun u hu => (b.k x u z.1 hu).1, z.2.tr fun u hu => (b.k x u z.1 hu).2⟩⟩
/-- one more owner -/
def plus (G : Addr → Prop) (p : Addr) : Addr → Prop := fun a => G a ∨ a = p
theorem Mv.nw {p : Addr} (n : H p = none) : Mv G H (plus G p) H := ⟨fun a o g h => ⟨fun z => z.elim g (fun e => by subst e; rw [n] at h; cases h), .of h⟩⟩
theorem DvA.len : ∀ {vs : List V} {ds : List D}, DvA K cp G H vs ds → vs.length = ds.length
  | [], [], _ => rfl
  | _ :: _, _ :: _, .cons _ h => by simp [DvA.len h]
theorem DvA.get : ∀ {vs : List V} {ds : List D} {i : Nat} {d : D}, DvA K cp G H vs ds → ds[i]? = some d → ∃ v, vs[i]? = some v ∧ Dv K cp G H v d
  | [], [], i, _, _, h => by simp at h
  | v :: _, d :: _, 0, _, .cons h _, e => by simp at e; subst e; exact ⟨v, rfl, h⟩
  | _ :: vs, _ :: ds, i + 1, _, .cons _ h, e => by simpa using DvA.get (vs := vs) (ds := ds) (i := i) h (by simpa using e)
theorem DvA.app : ∀ {vs ws : List V} {ds es : List D}, DvA K cp G H vs ds → DvA K cp G H ws es → DvA K cp G H (vs ++ ws) (ds ++ es)
  | [], _, [], _, _, h => h
  | _ :: _, _, _ :: _, _, .cons a b, h => .cons a (DvA.app b h)
theorem DvA.set {v : V} {d : D} (h0 : Dv K cp G H v d) : ∀ {vs : List V} {ds : List D} (i : Nat), DvA K cp G H vs ds → DvA K cp G H (vs.set i v) (ds.set i d)
  | [], [], _, _ => .nil
  | _ :: _, _ :: _, 0, .cons _ b => .cons h0 b
  | _ :: _, _ :: _, i + 1, .cons a b => .cons a (DvA.set h0 i b)
theorem DvA.drop : ∀ {vs : List V} {ds : List D} (n : Nat), DvA K cp G H vs ds → DvA K cp G H (vs.drop n) (ds.drop n)
  | [], [], n, _ => by simpa using DvA.nil
  | _ :: _, _ :: _, 0, h => h
  | _ :: vs, _ :: ds, n + 1, .cons _ b => by simpa using DvA.drop (vs := vs) (ds := ds) n b
theorem DvA.take : ∀ {vs : List V} {ds : List D} (n : Nat), DvA K cp G H vs ds → DvA K cp G H (vs.take n) (ds.take n)
  | [], [], n, _ => by simpa using DvA.nil
  | _ :: _, _ :: _, 0, h => .nil
  | _ :: vs, _ :: ds, n + 1, .cons a b => .cons a (DvA.take (vs := vs) (ds := ds) n b)
theorem DvA.rev {vs : List V} {ds : List D} (h : DvA K cp G H vs ds) : DvA K cp G H vs.reverse ds.reverse := by
  induction vs generalizing ds with
  | nil => cases h; exact .nil
  | cons v vs ih => cases h with | cons a b => simpa using (ih b).app (.cons a .nil)

/-! ### what a name alone holds -/
inductive OwV (K : PySem.W.Frag) (cp : Cb) (G : Addr → Prop) (H : Hp) : HO → D → Prop
  | lst {vs : List V} {ds : List D} : DvA K cp G H vs ds → OwV K cp G H (.lst vs) (.lst ds)
  | dk {kvs : List (Key × V)} {ks : List Key} {ds : List D} : kvs.map (·.1) = ks → DvA K cp G H (kvs.map (·.2)) ds → OwV K cp G H (.dK kvs) (.dk ks ds)
  | ob {dx : Addr} {c : Nat} {fs : List (Str × V)} {ns : List Str} {ds : List D} : fs.map (·.1) = ns → DvA K cp G H (fs.map (·.2)) ds → OwV K cp G H (.ins (cp.c c) dx fs) (.ob c ns ds)
def OwOk (K : PySem.W.Frag) (cp : Cb) (G : Addr → Prop) (H : Hp) (a : Addr) (c : D) : Prop := ∃ o, H a = some o ∧ OwV K cp G H o c
theorem OwV.mv (m : Mv G H G' H') {o : HO} {c : D} (h : OwV K cp G H o c) : OwV K cp G' H' o c := by
  cases h with
  | lst h => exact .lst (DvA.mv m _ _ h)
  | dk e h => exact .dk e (DvA.mv m _ _ h)
  | ob e h => exact .ob e (DvA.mv m _ _ h)
def OwK : HO → Prop
  | .lst _ => True
  | .dK _ => True
  | .ins _ _ _ => True
  | _ => False
theorem OwV.kd {o : HO} {c : D} (h : OwV K cp G H o c) : OwK o := by cases h <;> trivial
theorem OwV.nt {o : HO} {c : D} (h : OwV K cp G H o c) : ∀ qs, o ≠ .tbl qs := by cases h <;> (intro _ z; cases z)
theorem tabs_keep {T : List (Addr × Str)} {H H' : Hp} (t : LamX.Tabs T H) (h : ∀ a o, ¬ OwK o → H a = some o → H' a = some o) : LamX.Tabs T H' := fun p hp => by
  obtain ⟨ps, h1, h2, h3⟩ := t p hp
  refine ⟨ps, h _ _ (fun z => z) h1, h2, fun pos cv hc => ?_⟩
  obtain ⟨c, e, hcd⟩ := h3 pos cv hc
  exact ⟨c, e, h _ _ (fun z => z) hcd⟩
theorem tabs_upd {T : List (Addr × Str)} {H : Hp} {x : Addr} {o o' : HO} (t : LamX.Tabs T H) (hx : H x = some o) (k : OwK o) : LamX.Tabs T (upd H x o') := tabs_keep t fun a u n h => by
  rw [upd_ne (fun z => by rw [z, hx] at h; cases h; exact n k)]; exact h
/-- it is known to all -/
theorem OwOk.sh {a : Addr} {c : D} (h : OwOk K cp G H a c) (n : ¬ G a) : Dv K cp G H (.ref a) c := by
  obtain ⟨o, e, h⟩ := h
  cases h with
  | lst h => exact .lst e n h
  | dk e2 h => exact .dk (.inl e) n e2 h
  | ob e2 h => exact .ob e n e2 h
/-! ### slots -/
inductive SV where
  | no | sh (d : D) | ow (io : Bool) (c : D)
/-- the owner in slot i -/
def own (σ : L2.St) (ρ : List SV) (i : Nat) (a : Addr) : Prop := ∃ b ds, ρ[i]? = some (.ow b ds) ∧ σ[i]? = some (some (.ref a))
def Gv (F : Addr → Prop) (σ : L2.St) (ρ : List SV) : Addr → Prop := fun a => F a ∨ ∃ i, own σ ρ i a
def SOk (K : PySem.W.Frag) (cp : Cb) (G : Addr → Prop) (H : Hp) (o : Option (Option V)) : SV → Prop
  | .no => True
  | .sh d => ∃ v, o = some (some v) ∧ Dv K cp G H v d
  | .ow _ c => ∃ a, o = some (some (.ref a)) ∧ OwOk K cp G H a c
theorem SOk.mv {o : Option (Option V)} {s : SV} (m : Mv G H G' H') (ho : ∀ b c a u, s = .ow b c → o = some (some (.ref a)) → H a = some u → H' a = some u) (h : SOk K cp G H o s) : SOk K cp G' H' o s := by
  cases s with
  | no => trivial
  | sh d => obtain ⟨v, e, h⟩ := h; exact ⟨v, e, h.mv m⟩
  | ow b c => obtain ⟨a, e, u, h1, h⟩ := h; exact ⟨a, e, u, ho _ _ _ _ rfl e h1, h.mv m⟩
/-- the slots hold what ρ tells; F: the caller's owners; A: those of them that were passed, by slot; H0: the heap at the call -/
structure En (K : PySem.W.Frag) (cp : Cb) (F : Addr → Prop) (A : List (Nat × Addr)) (H0 H : Hp) (σ : L2.St) (ρ : List SV) : Prop where
  len : σ.length = ρ.length
  tr : ∀ a, F a → ∃ o, H a = some o
  fr : ∀ a o, (∀ x ∈ A, a ≠ x.2) → H0 a = some o → Sm o H a
  tb : LamX.Tabs cp.T H
  io : ∀ x ∈ A, F x.2 ∧ ∃ ds, ρ[x.1]? = some (.ow true ds) ∧ σ[x.1]? = some (some (.ref x.2))
  dj : ∀ i j a, own σ ρ i a → own σ ρ j a → i = j
  ow : ∀ (i : Nat) (b : Bool) (ds : D) (a : Addr), ρ[i]? = some (.ow b ds) → σ[i]? = some (some (.ref a)) → if b = true then (i, a) ∈ A else ¬ F a ∧ H0 a = none
  sl : ∀ (i : Nat) (s : SV), ρ[i]? = some s → SOk K cp (Gv F σ ρ) H σ[i]? s
variable {F : Addr → Prop} {A : List (Nat × Addr)} {H0 : Hp} {σ : L2.St} {ρ : List SV}
theorem En.own_at (e : En K cp F A H0 H σ ρ) {i : Nat} {a : Addr} (o : own σ ρ i a) : ∃ u, H a = some u := by
  obtain ⟨b, ds, h1, h2⟩ := o
  obtain ⟨a', h3, u, h4, _⟩ := e.sl i _ h1
  rw [h2] at h3; cases h3
  exact ⟨u, h4⟩
theorem En.none0 (e : En K cp F A H0 H σ ρ) {p : Addr} (n : H p = none) : H0 p = none := by
  cases h : H0 p with
  | none => rfl
  | some o =>
    by_cases z : ∃ x ∈ A, p = x.2
    · obtain ⟨x, hx, rfl⟩ := z
      obtain ⟨o', ho⟩ := e.tr _ (e.io x hx).1
      rw [ho] at n; cases n
    · obtain ⟨u, this⟩ := (e.fr p o (fun x hx q => z ⟨x, hx, q⟩) h).is
      rw [n] at this; cases this
theorem En.notF (e : En K cp F A H0 H σ ρ) {p : Addr} (n : H p = none) : ¬ Gv F σ ρ p := by
  rintro (g | ⟨i, g⟩)
  · obtain ⟨o, ho⟩ := e.tr _ g; rw [n] at ho; cases ho
  · obtain ⟨vs, hv⟩ := e.own_at g; rw [n] at hv; cases hv
/-- nothing that is told changes -/
theorem En.ex (e : En K cp F A H0 H σ ρ) (x : Ex H H') : En K cp F A H0 H' σ ρ where
  len := e.len
  tr := fun a f => (e.tr a f).elim fun o h => ⟨o, x _ _ h⟩
  fr := fun a o n h => (e.fr a o n h).tr fun u z => .of (x _ _ z)
  tb := e.tb.ext x
  io := e.io
  dj := e.dj
  ow := e.ow
  sl := fun i s h => (e.sl i s h).mv (Mv.ex x) fun _ _ a vs _ _ h => x _ _ h
/-- something new stands, that nobody holds -/
theorem En.plus (e : En K cp F A H0 H σ ρ) {p : Addr} (n : H p = none) (x : Ex H H') {o : HO} (hp : H' p = some o) : En K cp (plus F p) A H0 H' σ ρ where
  len := e.len
  tr := fun a f => f.elim (fun f => (e.tr a f).elim fun o h => ⟨o, x _ _ h⟩) fun q => by subst q; exact ⟨_, hp⟩
  fr := fun a o n h => (e.fr a o n h).tr fun u z => .of (x _ _ z)
  tb := e.tb.ext x
  io := fun y hy => ⟨.inl (e.io y hy).1, (e.io y hy).2⟩
  dj := e.dj
  ow := fun i b ds a h1 h2 => by
    have q := e.ow i b ds a h1 h2
    split
    · rename_i hb; rw [if_pos hb] at q; exact q
    · rename_i hb
      rw [if_neg hb] at q
      refine ⟨fun z => z.elim q.1 fun r => ?_, q.2⟩
      subst r
      obtain ⟨vs, hv⟩ := e.own_at ⟨b, ds, h1, h2⟩
      rw [n] at hv; cases hv
  sl := fun i s h => (e.sl i s h).mv ((Mv.nw n).tr ((Mv.ex x).tr (Mv.sub fun a g => by
      rcases g with (g | g) | g
      · exact .inl (.inl g)
      · exact .inr g
      · exact .inl (.inr g)))) fun _ _ a vs _ _ h => x _ _ h
theorem En.minus (e : En K cp (DD.plus F p) A H0 H σ ρ) (ha : ∀ x ∈ A, F x.2) : En K cp F A H0 H σ ρ where
  len := e.len
  tr := fun a f => e.tr a (.inl f)
  fr := e.fr
  tb := e.tb
  io := fun y hy => ⟨ha y hy, (e.io y hy).2⟩
  dj := e.dj
  ow := fun i b ds a h1 h2 => by
    have q := e.ow i b ds a h1 h2
    split
    · rename_i hb; rw [if_pos hb] at q; exact q
    · rename_i hb
      rw [if_neg hb] at q
      exact ⟨fun z => q.1 (.inl z), q.2⟩
  sl := fun i s h => (e.sl i s h).mv (Mv.sub fun a g => by
      rcases g with g | g
      · exact .inl (.inl g)
      · exact .inr g) fun _ _ a vs _ _ h => h
/-- where an own error goes, and which ones may come: class, fields, what they hold, the slots; the heap at the call -/
structure XC where
  E : XK
  P : Nat → List Str → List D → List SV → Prop
  h : Hp
def XC.q : XC := ⟨fun _ _ _ => False, fun _ _ _ _ => False, fun _ => none⟩
structure XOk (K : PySem.W.Frag) (cp : Cb) (F : Addr → Prop) (A : List (Nat × Addr)) (H0 : Hp) (X : XC) (σ : L2.St) : Prop where
  h : ∀ a, H0 a = none → X.h a = none
  x : ∀ (i : Nat) (es : List D) (fs : List (Str × V)) (dd : Addr) (ρ : List SV) (H : Hp), En K cp F A H0 H σ ρ → H dd = some (exd dd fs) → DvA K cp (Gv F σ ρ) H (fs.map (·.2)) es → X.P i (fs.map (·.1)) es ρ → X.E (.ref (cp.x i)) (some dd) H
theorem xq : XOk K cp F A H0 XC.q σ := ⟨fun _ _ => rfl, fun _ _ _ _ _ _ _ _ _ z => z.elim⟩
end
end DD
set_option maxHeartbeats 1000000
/-! What an expression gives, over data. -/
namespace DD
open PySem PySem.Spec PyProof.Rows L2 GL
/-- a datum; a new list that nobody holds yet; what the slot i owns -/
inductive AV where
  | d (d : D) | n (c : D) | o (i : Nat)
def AV.sh : AV → Option D
  | .d x => some x
  | .n x => some x
  | .o _ => none
section
variable {K : PySem.W.Frag} {cp : Cb} {X : XC} {F : Addr → Prop} {A : List (Nat × Addr)} {H0 H H' H1 H2 : Hp} {σ : L2.St} {ρ ρ' ρ1 ρ2 : List SV} {G : Addr → Prop} {v w : V}
/-- what stands behind an expression -/
def Res (K : PySem.W.Frag) (cp : Cb) (F : Addr → Prop) (A : List (Nat × Addr)) (H0 : Hp) (σ : L2.St) (ρ : List SV) (H : Hp) (v : V) (r : AV) (ρ' : List SV) (H' : Hp) : Prop := match r with
  | .d d => En K cp F A H0 H' σ ρ' ∧ Mv (Gv F σ ρ) H (Gv F σ ρ') H' ∧ Dv K cp (Gv F σ ρ') H' v d
  | .n c => ∃ p, v = .ref p ∧ ¬ F p ∧ H0 p = none ∧ En K cp (plus F p) A H0 H' σ ρ' ∧ (∀ x ∈ A, F x.2) ∧ Mv (Gv F σ ρ) H (Gv (plus F p) σ ρ') H' ∧ OwOk K cp (Gv (plus F p) σ ρ') H' p c
  | .o i => En K cp F A H0 H' σ ρ' ∧ Mv (Gv F σ ρ) H (Gv F σ ρ') H' ∧ ∃ a, v = .ref a ∧ own σ ρ' i a
theorem gv_sub (p : Addr) : ∀ a, Gv F σ ρ a → Gv (plus F p) σ ρ a := fun a g => g.elim (fun f => .inl (.inl f)) fun o => .inr o
theorem Res.share {r : AV} {d : D} (e : r.sh = some d) (h : Res K cp F A H0 σ ρ H v r ρ' H') : Res K cp F A H0 σ ρ H v (.d d) ρ' H' := by
  cases r with
  | d d' => cases e; exact h
  | n ds =>
    cases e
    obtain ⟨p, rfl, nf, h0, en, ha, mv, u, hu, dv⟩ := h
    refine ⟨en.minus ha, mv.tr (Mv.sub (gv_sub p)), OwOk.sh ⟨u, hu, dv.mv (Mv.sub (gv_sub p))⟩ ?_⟩
    rintro (f | ⟨i, o⟩)
    · exact nf f
    · obtain ⟨b, ds', h1, h2⟩ := o
      have q := en.ow i b ds' p h1 h2
      split at q
      · exact nf (ha _ q)
      · exact q.1 (.inr rfl)
  | o i => cases e
/-- t gives r over slots ρ', such that Φ -/
def DE (K : PySem.W.Frag) (cp : Cb) (X : XC) (t : TE) (ρ : List SV) (Φ : AV → List SV → Prop) : Prop :=
  ∀ F A H0 H σ, En K cp F A H0 H σ ρ → XOk K cp F A H0 X σ → ∀ Q : VK, (∀ v r ρ' H', Res K cp F A H0 σ ρ H v r ρ' H' → Φ r ρ' → Q v H') → t σ H Q
abbrev DEs (K : PySem.W.Frag) (cp : Cb) (X : XC) (t : TE) (ρ : List SV) (Ψ : D → List SV → Prop) : Prop := DE K cp X t ρ fun r ρ' => ∃ d, r.sh = some d ∧ Ψ d ρ'
theorem DEs.go {t : TE} {Ψ : D → List SV → Prop} (h : DEs K cp X t ρ Ψ) (e : En K cp F A H0 H σ ρ) (hx : XOk K cp F A H0 X σ) {Q : VK}
    (q : ∀ v d ρ' H', En K cp F A H0 H' σ ρ' → Mv (Gv F σ ρ) H (Gv F σ ρ') H' → Dv K cp (Gv F σ ρ') H' v d → Ψ d ρ' → Q v H') : t σ H Q :=
  h F A H0 H σ e hx Q fun v r ρ' H' rs ⟨d, ed, ψ⟩ => have z := rs.share ed; q v d ρ' H' z.1 z.2.1 z.2.2 ψ
/-- what a rule of the machine gives, by what is passed alone -/
def Rx (K : PySem.W.Frag) (cp : Cb) (G : Addr → Prop) (H : Hp) (w : V) (r : AV) (H' : Hp) : Prop := match r with
  | .d d => Ex H H' ∧ Dv K cp G H' w d
  | .n c => ∃ p, w = .ref p ∧ H p = none ∧ Ex H H' ∧ OwOk K cp (plus G p) H' p c
  | .o _ => False
theorem gv_plus {p : Addr} : ∀ a, Gv (plus F p) σ ρ a → plus (Gv F σ ρ) p a := fun a g => by
  rcases g with (g | g) | g
  · exact .inl (.inl g)
  · exact .inr g
  · exact .inl (.inr g)
theorem plus_gv {p : Addr} : ∀ a, plus (Gv F σ ρ) p a → Gv (plus F p) σ ρ a := fun a g => by
  rcases g with (g | g) | g
  · exact .inl (.inl g)
  · exact .inr g
  · exact .inl (.inr g)
theorem Rx.res {r : AV} (e : En K cp F A H0 H σ ρ) (x : Rx K cp (Gv F σ ρ) H w r H') : Res K cp F A H0 σ ρ H w r ρ H' := by
  cases r with
  | d d => exact ⟨e.ex x.1, Mv.ex x.1, x.2⟩
  | n ds =>
    obtain ⟨p, rfl, n, ex, u, hp, dv⟩ := x
    exact ⟨p, rfl, fun f => e.notF n (.inl f), e.none0 n, e.plus n ex hp, fun y hy => (e.io y hy).1, (Mv.nw n).tr ((Mv.ex ex).tr (Mv.sub gv_plus)), u, hp, dv.mv (Mv.sub gv_plus)⟩
  | o i => exact x.elim
theorem Res.tr {r : AV} (m : Mv (Gv F σ ρ) H (Gv F σ ρ1) H1) (x : Res K cp F A H0 σ ρ1 H1 w r ρ2 H2) : Res K cp F A H0 σ ρ H w r ρ2 H2 := by
  cases r with
  | d d => exact ⟨x.1, m.tr x.2.1, x.2.2⟩
  | n ds => obtain ⟨p, a, b, c, e, f, g, h⟩ := x; exact ⟨p, a, b, c, e, f, m.tr g, h⟩
  | o i => exact ⟨x.1, m.tr x.2.1, x.2.2⟩
/-- a datum, perhaps one that a name owns -/
def Dt (K : PySem.W.Frag) (cp : Cb) (G : Addr → Prop) (H : Hp) (v : V) (d : D) : Prop := Dv K cp G H v d ∨ ∃ a, v = .ref a ∧ OwOk K cp G H a d
/-- a rule of two values -/
def R2d (K : PySem.W.Frag) (cp : Cb) (r : R2) (x y : D) (ψ : AV → Prop) : Prop :=
  ∀ G H u v (Q : VK), Dt K cp G H u x → Dt K cp G H v y → (∀ w a H', Rx K cp G H w a H' → ψ a → Q w H') → r u v H Q
def R1d (K : PySem.W.Frag) (cp : Cb) (r : V → Hp → VK → Prop) (x : D) (ψ : AV → Prop) : Prop :=
  ∀ G H u (Q : VK), Dt K cp G H u x → (∀ w a H', Rx K cp G H w a H' → ψ a → Q w H') → r u H Q
inductive DtA (K : PySem.W.Frag) (cp : Cb) (G : Addr → Prop) (H : Hp) : List V → List D → Prop
  | nil : DtA K cp G H [] []
  | cons {v : V} {vs : List V} {d : D} {ds : List D} : Dt K cp G H v d → DtA K cp G H vs ds → DtA K cp G H (v :: vs) (d :: ds)
def RLd (K : PySem.W.Frag) (cp : Cb) (r : List V → Hp → VK → Prop) (xs : List D) (ψ : AV → Prop) : Prop :=
  ∀ G H us (Q : VK), DtA K cp G H us xs → (∀ w a H', Rx K cp G H w a H' → ψ a → Q w H') → r us H Q
/-- what is handed on: a datum, or an owner -/
inductive OP where
  | d (d : D) | o (i : Nat)
def OP.of : AV → OP
  | .d x => .d x
  | .n x => .d x
  | .o i => .o i
/-- its data now -/
def OP.at (ρ : List SV) : OP → Option D
  | .d x => some x
  | .o i => match ρ[i]? with
    | some (.ow _ c) => some c
    | _ => none
def OPv (K : PySem.W.Frag) (cp : Cb) (F : Addr → Prop) (σ : L2.St) (ρ : List SV) (H : Hp) (v : V) : OP → Prop
  | .d d => Dv K cp (Gv F σ ρ) H v d
  | .o i => ∃ a, v = .ref a ∧ σ[i]? = some (some (.ref a))
abbrev DEo (K : PySem.W.Frag) (cp : Cb) (X : XC) (t : TE) (ρ : List SV) (Ψ : OP → List SV → Prop) : Prop := DE K cp X t ρ fun r ρ' => Ψ (.of r) ρ'
theorem DEo.go {t : TE} {Ψ : OP → List SV → Prop} (h : DEo K cp X t ρ Ψ) (e : En K cp F A H0 H σ ρ) (hx : XOk K cp F A H0 X σ) {Q : VK}
    (q : ∀ v p ρ' H', En K cp F A H0 H' σ ρ' → Mv (Gv F σ ρ) H (Gv F σ ρ') H' → OPv K cp F σ ρ' H' v p → Ψ p ρ' → Q v H') : t σ H Q :=
  h F A H0 H σ e hx Q fun v r ρ' H' rs ψ => by
    cases r with
    | d d => exact q v (.d d) ρ' H' rs.1 rs.2.1 rs.2.2 ψ
    | n ds => have z := rs.share rfl; exact q v (.d ds) ρ' H' z.1 z.2.1 z.2.2 ψ
    | o i => exact q v (.o i) ρ' H' rs.1 rs.2.1 (rs.2.2.elim fun a z => ⟨a, z.1, z.2.elim fun b z => z.elim fun ds z => z.2⟩) ψ
theorem OPv.mv {p : OP} (m : Mv (Gv F σ ρ1) H1 (Gv F σ ρ2) H2) (h : OPv K cp F σ ρ1 H1 v p) : OPv K cp F σ ρ2 H2 v p := by
  cases p with
  | d d => exact Dv.mv m _ _ h
  | o i => exact h
theorem OPv.dt {p : OP} {d : D} (e : En K cp F A H0 H σ ρ) (h : OPv K cp F σ ρ H v p) (hd : p.at ρ = some d) : Dt K cp (Gv F σ ρ) H v d := by
  cases p with
  | d d' => cases hd; exact .inl h
  | o i =>
    obtain ⟨a, rfl, ha⟩ := h
    simp only [OP.at] at hd
    split at hd
    · rename_i b ds hb
      cases hd
      obtain ⟨a', h1, h2⟩ := e.sl i _ hb
      rw [ha] at h1; cases h1
      exact .inr ⟨_, rfl, h2⟩
    · cases hd
/-! ### rules -/
theorem DE.var {i : Nat} {d : D} {Φ : AV → List SV → Prop} (h : ρ[i]? = some (.sh d)) (q : Φ (.d d) ρ) : DE K cp X (tVar i) ρ Φ := fun F A H0 H σ e hx Q k => by
  obtain ⟨v, h1, h2⟩ := e.sl i _ h
  exact ⟨v, h1, k v (.d d) ρ H ⟨e, Mv.ex (Ex.rfl' H), h2⟩ q⟩
theorem DE.own {i : Nat} {b : Bool} {ds : D} {Φ : AV → List SV → Prop} (h : ρ[i]? = some (.ow b ds)) (q : Φ (.o i) ρ) : DE K cp X (tVar i) ρ Φ := fun F A H0 H σ e hx Q k => by
  obtain ⟨a, h1, h2⟩ := e.sl i _ h
  exact ⟨_, h1, k _ (.o i) ρ H ⟨e, Mv.ex (Ex.rfl' H), a, rfl, b, ds, h, h1⟩ q⟩
/-- data without parts -/
inductive Fla : V → D → Prop
  | non : Fla .non .non | bl (b : Bool) : Fla (.bl b) (.bl b) | int (i : Int) : Fla (.int i) (.int i) | str (x : Str) : Fla (.str x) (.str x)
theorem Fla.dv {d : D} (h : Fla v d) : Dv K cp G H v d := by cases h <;> constructor
theorem DE.c {d : D} {Φ : AV → List SV → Prop} (h : Fla v d) (q : Φ (.d d) ρ) : DE K cp X (tC v) ρ Φ := fun F A H0 H σ e hx Q k => k v (.d d) ρ H ⟨e, Mv.ex (Ex.rfl' H), h.dv⟩ q
theorem DE.op {r : R2} {ta tb : TE} {Φ : AV → List SV → Prop} (h : DEo K cp X ta ρ fun x ρ1 => DEo K cp X tb ρ1 fun y ρ2 => ∃ d e, x.at ρ2 = some d ∧ y.at ρ2 = some e ∧ R2d K cp r d e fun a => Φ a ρ2) :
    DE K cp X (tOp r ta tb) ρ Φ := fun F A H0 H σ e hx Q k =>
  h.go e hx fun v x ρ1 H1 e1 m1 o1 h1 => h1.go e1 hx fun w y ρ2 H2 e2 m2 o2 ⟨d, d', ex, ey, rd⟩ =>
    rd _ _ _ _ _ ((o1.mv m2).dt e2 ex) (o2.dt e2 ey) fun u a H3 x3 φ => k u a ρ2 H3 ((x3.res e2).tr (m1.tr m2)) φ
def DAo (K : PySem.W.Frag) (cp : Cb) (X : XC) (t : TA) (ρ : List SV) (Ψ : List OP → List SV → Prop) : Prop :=
  ∀ F A H0 H σ, En K cp F A H0 H σ ρ → XOk K cp F A H0 X σ → ∀ Q : List V → Hp → Prop, (∀ vs ps ρ' H', En K cp F A H0 H' σ ρ' → Mv (Gv F σ ρ) H (Gv F σ ρ') H' → Paired (OPv K cp F σ ρ' H') vs ps → Ψ ps ρ' → Q vs H') → t σ H Q
theorem DAo.nil {Ψ : List OP → List SV → Prop} (q : Ψ [] ρ) : DAo K cp X tNil ρ Ψ := fun F A H0 H σ e hx Q k => k [] [] ρ H e (Mv.ex (Ex.rfl' H)) .nil q
theorem DAo.cons {te : TE} {ta : TA} {Ψ : List OP → List SV → Prop} (h : DEo K cp X te ρ fun x ρ1 => DAo K cp X ta ρ1 fun xs ρ2 => Ψ (x :: xs) ρ2) : DAo K cp X (tCons te ta) ρ Ψ := fun F A H0 H σ e hx Q k =>
  h.go e hx fun v x ρ1 H1 e1 m1 o1 h1 => h1 F A H0 H1 σ e1 hx _ fun vs ps ρ2 H2 e2 m2 o2 ψ => k (v :: vs) (x :: ps) ρ2 H2 e2 (m1.tr m2) (.cons (o1.mv m2) o2) ψ
def ats (ρ : List SV) : List OP → Option (List D)
  | [] => some []
  | p :: ps => match p.at ρ, ats ρ ps with
    | some d, some ds => some (d :: ds)
    | _, _ => none
theorem ats_ok (e : En K cp F A H0 H σ ρ) : ∀ {vs : List V} {ps : List OP} {ds : List D}, Paired (OPv K cp F σ ρ H) vs ps → ats ρ ps = some ds → DtA K cp (Gv F σ ρ) H vs ds
  | [], [], ds, _, h => by cases h; exact .nil
  | v :: vs, p :: ps, ds, .cons a b, h => by
    simp only [ats] at h
    split at h
    · rename_i d ds' h1 h2
      cases h
      exact .cons (a.dt e h1) (ats_ok e b h2)
    · cases h
theorem DE.cb {r : List V → Hp → VK → Prop} {ta : TA} {Φ : AV → List SV → Prop} (h : DAo K cp X ta ρ fun ps ρ1 => ∃ ds, ats ρ1 ps = some ds ∧ RLd K cp r ds fun a => Φ a ρ1) : DE K cp X (tCB r ta) ρ Φ := fun F A H0 H σ e hx Q k =>
  h F A H0 H σ e hx _ fun vs ps ρ1 H1 e1 m1 o1 ⟨ds, hd, rd⟩ => rd _ _ _ _ (ats_ok e1 o1 hd) fun u a H2 x2 φ => k u a ρ1 H2 ((x2.res e1).tr m1) φ
theorem DE.mono {t : TE} {Φ Φ' : AV → List SV → Prop} (h : DE K cp X t ρ Φ) (m : ∀ r ρ', Φ r ρ' → Φ' r ρ') : DE K cp X t ρ Φ' := fun F A H0 H σ e hx Q k => h F A H0 H σ e hx Q fun v r ρ' H' rs φ => k v r ρ' H' rs (m _ _ φ)
/-- all are data -/
def oks : List OP → Option (List D)
  | [] => some []
  | .d d :: ps => (oks ps).map (d :: ·)
  | .o _ :: _ => none
theorem oks_ok : ∀ {vs : List V} {ps : List OP} {ds : List D}, Paired (OPv K cp F σ ρ H) vs ps → oks ps = some ds → DvA K cp (Gv F σ ρ) H vs ds
  | [], [], ds, _, h => by cases h; exact .nil
  | v :: vs, .d d :: ps, ds, .cons a b, h => by
    obtain ⟨ds', h1, rfl⟩ := Option.map_eq_some_iff.mp (show (oks ps).map (d :: ·) = some ds from h)
    exact .cons a (oks_ok b h1)
  | v :: vs, .o i :: ps, ds, _, h => by cases h
theorem DE.tup {ta : TA} {Φ : AV → List SV → Prop} (h : DAo K cp X ta ρ fun ps ρ1 => ∃ ds, oks ps = some ds ∧ ds.length ≤ sizeLine ∧ Φ (.d (.tup ds)) ρ1) : DE K cp X (tTup ta) ρ Φ := fun F A H0 H σ e hx Q k =>
  h F A H0 H σ e hx _ fun vs ps ρ1 H1 e1 m1 o1 ⟨ds, hd, hl, φ⟩ => by
    have z := oks_ok o1 hd
    refine ⟨by rw [z.len]; exact hl, fun p hp => k _ _ ρ1 _ ((Rx.res (r := .d (.tup ds)) e1 ⟨Ex.nw hp, .tup upd_same (e1.notF hp) (DvA.mv (Mv.ex (Ex.nw hp)) _ _ z)⟩).tr m1) φ⟩
theorem DE.lst {ta : TA} {Φ : AV → List SV → Prop} (h : DAo K cp X ta ρ fun ps ρ1 => ∃ ds, oks ps = some ds ∧ ds.length ≤ sizeLine ∧ Φ (.n (.lst ds)) ρ1) : DE K cp X (tLst ta) ρ Φ := fun F A H0 H σ e hx Q k =>
  h F A H0 H σ e hx _ fun vs ps ρ1 H1 e1 m1 o1 ⟨ds, hd, hl, φ⟩ => by
    have z := oks_ok o1 hd
    refine ⟨by rw [z.len]; exact hl, fun p hp => k _ _ ρ1 _ ((Rx.res (r := .n (.lst ds)) e1 ⟨p, rfl, hp, Ex.nw hp, _, upd_same, .lst (DvA.mv ((Mv.nw hp).tr (Mv.ex (Ex.nw hp))) _ _ z)⟩).tr m1) φ⟩
end
end DD
set_option maxHeartbeats 1000000
/-! Tests, statements, targets, loops, over data. -/
namespace DD
open PySem PySem.Spec PyProof.Rows L2 GL
section
variable {K : PySem.W.Frag} {cp : Cb} {X : XC} {F : Addr → Prop} {A : List (Nat × Addr)} {H0 H H' H1 H2 : Hp} {σ σ' : L2.St} {ρ ρ' ρ1 ρ2 : List SV} {G : Addr → Prop} {v w : V}
def DT (K : PySem.W.Frag) (cp : Cb) (X : XC) (t : TT) (ρ : List SV) (Φ : Bool → List SV → Prop) : Prop :=
  ∀ F A H0 H σ, En K cp F A H0 H σ ρ → XOk K cp F A H0 X σ → ∀ Q : Bool → Hp → Prop, (∀ b ρ' H', En K cp F A H0 H' σ ρ' → Mv (Gv F σ ρ) H (Gv F σ ρ') H' → Φ b ρ' → Q b H') → t σ H Q
theorem DT.mono {t : TT} {Φ Φ' : Bool → List SV → Prop} (h : DT K cp X t ρ Φ) (m : ∀ r ρ', Φ r ρ' → Φ' r ρ') : DT K cp X t ρ Φ' := fun F A H0 H σ e hx Q k => h F A H0 H σ e hx Q fun b ρ' H' e' m' φ => k b ρ' H' e' m' (m _ _ φ)
/-- the truth of a datum that is a bool -/
def isB : D → Bool → Prop
  | .bl b, c => b = c
  | _, _ => False
theorem dv_bl {b : Bool} (h : Dv K cp G H v (.bl b)) : v = .bl b := by cases h; rfl
theorem DT.val {t : TE} {Φ : Bool → List SV → Prop} (h : DEs K cp X t ρ fun d ρ1 => ∃ b, d = .bl b ∧ Φ b ρ1) : DT K cp X (tB t) ρ Φ := fun F A H0 H σ e hx Q k =>
  h.go e hx fun v d ρ1 H1 e1 m1 dv ⟨b, hd, φ⟩ => by subst hd; exact ⟨b, dv_bl dv, k b ρ1 H1 e1 m1 φ⟩
theorem DT.test {t : TE} {Φ : Bool → List SV → Prop} (h : DEs K cp X t ρ fun d ρ1 => ∃ b, d = .bl b ∧ Φ b ρ1) : DT K cp X (tTest t) ρ Φ := fun F A H0 H σ e hx Q k =>
  h.go e hx fun v d ρ1 H1 e1 m1 dv ⟨b, hd, φ⟩ => by subst hd; exact ⟨b, dv_bl dv, k b ρ1 H1 e1 m1 φ⟩
theorem DT.not {t : TT} {Φ : Bool → List SV → Prop} (h : DT K cp X t ρ fun b ρ1 => Φ (!b) ρ1) : DT K cp X (tNot t) ρ Φ := fun F A H0 H σ e hx Q k =>
  h F A H0 H σ e hx _ fun b ρ1 H1 e1 m1 φ => k _ ρ1 H1 e1 m1 φ
theorem DT.and {t u : TT} {Φ : Bool → List SV → Prop} (h : DT K cp X t ρ fun b ρ1 => if b = true then DT K cp X u ρ1 Φ else Φ false ρ1) : DT K cp X (tAnd t u) ρ Φ := fun F A H0 H σ e hx Q k =>
  h F A H0 H σ e hx _ fun b ρ1 H1 e1 m1 φ => by
    cases b with
    | true => exact iteT ((show DT K cp X u ρ1 Φ from φ) F A H0 H1 σ e1 hx Q fun b ρ2 H2 e2 m2 ψ => k b ρ2 H2 e2 (m1.tr m2) ψ)
    | false => exact iteF (k _ ρ1 H1 e1 m1 φ)
theorem DT.or {t u : TT} {Φ : Bool → List SV → Prop} (h : DT K cp X t ρ fun b ρ1 => if b = true then Φ true ρ1 else DT K cp X u ρ1 Φ) : DT K cp X (tOr t u) ρ Φ := fun F A H0 H σ e hx Q k =>
  h F A H0 H σ e hx _ fun b ρ1 H1 e1 m1 φ => by
    cases b with
    | true => exact iteT (k _ ρ1 H1 e1 m1 φ)
    | false => exact iteF ((show DT K cp X u ρ1 Φ from φ) F A H0 H1 σ e1 hx Q fun b ρ2 H2 e2 m2 ψ => k b ρ2 H2 e2 (m1.tr m2) ψ)
theorem DE.and {ta tb : TE} {Φ : AV → List SV → Prop} (h : DEs K cp X ta ρ fun d ρ1 => ∃ b, d = .bl b ∧ if b = true then DE K cp X tb ρ1 Φ else Φ (.d (.bl false)) ρ1) : DE K cp X (tAndV ta tb) ρ Φ := fun F A H0 H σ e hx Q k =>
  h.go e hx fun v d ρ1 H1 e1 m1 dv ⟨b, hd, φ⟩ => by
    subst hd
    refine ⟨b, dv_bl dv, ?_⟩
    cases b with
    | true => exact iteT ((show DE K cp X tb ρ1 Φ from φ) F A H0 H1 σ e1 hx Q fun v r ρ2 H2 e2 ψ => k v r ρ2 H2 (e2.tr m1) ψ)
    | false => exact iteF (k _ (.d (.bl false)) ρ1 H1 ⟨e1, m1, .bl false⟩ φ)
theorem DE.or {ta tb : TE} {Φ : AV → List SV → Prop} (h : DEs K cp X ta ρ fun d ρ1 => ∃ b, d = .bl b ∧ if b = true then Φ (.d (.bl true)) ρ1 else DE K cp X tb ρ1 Φ) : DE K cp X (tOrV ta tb) ρ Φ := fun F A H0 H σ e hx Q k =>
  h.go e hx fun v d ρ1 H1 e1 m1 dv ⟨b, hd, φ⟩ => by
    subst hd
    refine ⟨b, dv_bl dv, ?_⟩
    cases b with
    | true => exact iteT (k _ (.d (.bl true)) ρ1 H1 ⟨e1, m1, .bl true⟩ φ)
    | false => exact iteF ((show DE K cp X tb ρ1 Φ from φ) F A H0 H1 σ e1 hx Q fun v r ρ2 H2 e2 ψ => k v r ρ2 H2 (e2.tr m1) ψ)
theorem DE.not {ta : TE} {Φ : AV → List SV → Prop} (h : DEs K cp X ta ρ fun d ρ1 => ∃ b, d = .bl b ∧ Φ (.d (.bl !b)) ρ1) : DE K cp X (tNotV ta) ρ Φ := fun F A H0 H σ e hx Q k =>
  h.go e hx fun v d ρ1 H1 e1 m1 dv ⟨b, hd, φ⟩ => by
    subst hd
    exact ⟨b, dv_bl dv, k _ (.d (.bl !b)) ρ1 H1 ⟨e1, m1, .bl _⟩ φ⟩
theorem DE.ite {c : TT} {ta tb : TE} {Φ : AV → List SV → Prop} (h : DT K cp X c ρ fun b ρ1 => if b = true then DE K cp X ta ρ1 Φ else DE K cp X tb ρ1 Φ) : DE K cp X (tIf c ta tb) ρ Φ := fun F A H0 H σ e hx Q k =>
  h F A H0 H σ e hx _ fun b ρ1 H1 e1 m1 φ => by
    cases b with
    | true => exact iteT ((show DE K cp X ta ρ1 Φ from φ) F A H0 H1 σ e1 hx Q fun v r ρ2 H2 e2 ψ => k v r ρ2 H2 (e2.tr m1) ψ)
    | false => exact iteF ((show DE K cp X tb ρ1 Φ from φ) F A H0 H1 σ e1 hx Q fun v r ρ2 H2 e2 ψ => k v r ρ2 H2 (e2.tr m1) ψ)

/-! ### statements -/
def Fin (K : PySem.W.Frag) (cp : Cb) (F : Addr → Prop) (A : List (Nat × Addr)) (H0 : Hp) (σ : L2.St) (v : V) (r : AV) (ρ' : List SV) (H' : Hp) : Prop := match r with
  | .d d => En K cp F A H0 H' σ ρ' ∧ Dv K cp (Gv F σ ρ') H' v d
  | .n c => ∃ p, v = .ref p ∧ ¬ F p ∧ H0 p = none ∧ En K cp (plus F p) A H0 H' σ ρ' ∧ (∀ x ∈ A, F x.2) ∧ OwOk K cp (Gv (plus F p) σ ρ') H' p c
  | .o _ => False
/-- t goes on by N, hands back by R, breaks off by B, goes to the next turn by C -/
def DS (K : PySem.W.Frag) (cp : Cb) (X : XC) (t : TS) (ρ : List SV) (N : List SV → Prop) (R : AV → List SV → Prop) (B C : List SV → Prop) : Prop :=
  ∀ F A H0 H σ, En K cp F A H0 H σ ρ → (∀ σ, XOk K cp F A H0 X σ) → ∀ Dd : Ends,
    (∀ σ' ρ' H', En K cp F A H0 H' σ' ρ' → Mv (Gv F σ ρ) H (Gv F σ' ρ') H' → N ρ' → Dd.nx σ' H') →
    (∀ v r σ' ρ' H', Fin K cp F A H0 σ' v r ρ' H' → R r ρ' → Dd.rt v H') →
    (∀ σ' ρ' H', En K cp F A H0 H' σ' ρ' → Mv (Gv F σ ρ) H (Gv F σ' ρ') H' → B ρ' → Dd.bk σ' H') →
    (∀ σ' ρ' H', En K cp F A H0 H' σ' ρ' → Mv (Gv F σ ρ) H (Gv F σ' ρ') H' → C ρ' → Dd.ct σ' H') → t Dd σ H
variable {N : List SV → Prop} {R : AV → List SV → Prop} {B C : List SV → Prop}
theorem DS.next (h : N ρ) : DS K cp X tNext ρ N R B C := fun F A H0 H σ e hx Dd n r b c => n σ ρ H e (Mv.ex (Ex.rfl' H)) h
theorem DS.brk (h : B ρ) : DS K cp X tBreak ρ N R B C := fun F A H0 H σ e hx Dd n r b c => b σ ρ H e (Mv.ex (Ex.rfl' H)) h
theorem DS.cont (h : C ρ) : DS K cp X tCont ρ N R B C := fun F A H0 H σ e hx Dd n r b c => c σ ρ H e (Mv.ex (Ex.rfl' H)) h
theorem DS.seq {t u : TS} (h : DS K cp X t ρ (fun ρ1 => DS K cp X u ρ1 N R B C) R B C) : DS K cp X (tSeq t u) ρ N R B C := fun F A H0 H σ e hx Dd n r b c =>
  h F A H0 H σ e hx { Dd with nx := u Dd } (fun σ1 ρ1 H1 e1 m1 q => (show DS K cp X u ρ1 N R B C from q) F A H0 H1 σ1 e1 hx Dd (fun σ2 ρ2 H2 e2 m2 q => n σ2 ρ2 H2 e2 (m1.tr m2) q) r
    (fun σ2 ρ2 H2 e2 m2 q => b σ2 ρ2 H2 e2 (m1.tr m2) q) (fun σ2 ρ2 H2 e2 m2 q => c σ2 ρ2 H2 e2 (m1.tr m2) q)) r b c
theorem DS.pre {t : TS} (m : Mv (Gv F σ ρ) H (Gv F σ' ρ1) H1) (h : DS K cp X t ρ1 N R B C) (e : En K cp F A H0 H1 σ' ρ1) (hx : ∀ σ, XOk K cp F A H0 X σ) {Dd : Ends}
    (n : ∀ σ' ρ' H', En K cp F A H0 H' σ' ρ' → Mv (Gv F σ ρ) H (Gv F σ' ρ') H' → N ρ' → Dd.nx σ' H') (r : ∀ v r σ' ρ' H', Fin K cp F A H0 σ' v r ρ' H' → R r ρ' → Dd.rt v H')
    (b : ∀ σ' ρ' H', En K cp F A H0 H' σ' ρ' → Mv (Gv F σ ρ) H (Gv F σ' ρ') H' → B ρ' → Dd.bk σ' H') (c : ∀ σ' ρ' H', En K cp F A H0 H' σ' ρ' → Mv (Gv F σ ρ) H (Gv F σ' ρ') H' → C ρ' → Dd.ct σ' H') : t Dd σ' H1 :=
  h F A H0 H1 σ' e hx Dd (fun σ2 ρ2 H2 e2 m2 q => n σ2 ρ2 H2 e2 (m.tr m2) q) r (fun σ2 ρ2 H2 e2 m2 q => b σ2 ρ2 H2 e2 (m.tr m2) q) (fun σ2 ρ2 H2 e2 m2 q => c σ2 ρ2 H2 e2 (m.tr m2) q)
theorem DS.ite {c : TT} {t u : TS} {C' : List SV → Prop} (h : DT K cp X c ρ fun b ρ1 => if b = true then DS K cp X t ρ1 N R B C' else DS K cp X u ρ1 N R B C') : DS K cp X (tIfS c t u) ρ N R B C' := fun F A H0 H σ e hx Dd n r b k =>
  h F A H0 H σ e (hx _) _ fun x ρ1 H1 e1 m1 φ => by
    cases x with
    | true => exact iteT (DS.pre m1 (show DS K cp X t ρ1 N R B C' from φ) e1 hx n r b k)
    | false => exact iteF (DS.pre m1 (show DS K cp X u ρ1 N R B C' from φ) e1 hx n r b k)
theorem DS.ret {te : TE} (h : DE K cp X te ρ fun r ρ1 => (match r with | .o _ => False | _ => True) ∧ R r ρ1) : DS K cp X (tRet te) ρ N R B C := fun F A H0 H σ e hx Dd n r b c =>
  h F A H0 H σ e (hx _) _ fun v a ρ1 H1 e1 ⟨h1, h2⟩ => by
    refine r v a σ ρ1 H1 ?_ h2
    cases a with
    | d d => exact ⟨e1.1, e1.2.2⟩
    | n ds => obtain ⟨p, a, b, c, e, f, g, i⟩ := e1; exact ⟨p, a, b, c, e, f, i⟩
    | o i => exact h1.elim
theorem DS.drop {te : TE} (h : DE K cp X te ρ fun _ ρ1 => N ρ1) : DS K cp X (tDrop te) ρ N R B C := fun F A H0 H σ e hx Dd n r b c =>
  h F A H0 H σ e (hx _) _ fun v a ρ1 H1 e1 h2 => by
    cases a with
    | d d => exact n σ ρ1 H1 e1.1 e1.2.1 h2
    | n ds => have z := e1.share rfl; exact n σ ρ1 H1 z.1 z.2.1 h2
    | o i => exact n σ ρ1 H1 e1.1 e1.2.1 h2

/-! ### targets -/
def free (ρ : List SV) (i : Nat) : Prop := i < ρ.length ∧ ∀ ds, ρ[i]? ≠ some (.ow true ds)
theorem own_set {i j : Nat} {a : Addr} {x : Option V} {s : SV} (ne : j ≠ i) : own (σ.set i x) (ρ.set i s) j a ↔ own σ ρ j a := by
  unfold own
  rw [List.getElem?_set_ne ne.symm, List.getElem?_set_ne ne.symm]
theorem own_sh {i j : Nat} {a : Addr} {x : Option V} {s : SV} (ns : ∀ b ds, s ≠ .ow b ds) (h : own (σ.set i x) (ρ.set i s) j a) : j ≠ i ∧ own σ ρ j a := by
  have ne : j ≠ i := by
    rintro rfl
    obtain ⟨b, ds, h1, h2⟩ := h
    rw [List.getElem?_set_self'] at h1
    cases e : ρ[j]? with
    | none => rw [e] at h1; cases h1
    | some q => rw [e] at h1; exact ns b ds (Option.some.inj h1)
  exact ⟨ne, (own_set ne).mp h⟩
theorem gv_set {i : Nat} {x : Option V} {s : SV} (ns : ∀ b ds, s ≠ .ow b ds) : ∀ a, Gv F (σ.set i x) (ρ.set i s) a → Gv F σ ρ a := fun a g => g.elim .inl fun ⟨j, o⟩ => .inr ⟨j, (own_sh ns o).2⟩
/-- a slot takes a datum, or is wiped -/
theorem En.set (e : En K cp F A H0 H σ ρ) {i : Nat} {x : Option V} {s : SV} (hi : free ρ i) (hs : (∃ d v, s = .sh d ∧ x = some v ∧ Dv K cp (Gv F σ ρ) H v d) ∨ s = .no) : En K cp F A H0 H (σ.set i x) (ρ.set i s) := by
  have ns : ∀ b ds, s ≠ .ow b ds := by
    rintro b ds rfl
    rcases hs with ⟨d, v, q, _⟩ | q <;> cases q
  have hl : i < σ.length := by rw [e.len]; exact hi.1
  refine ⟨by rw [List.length_set, List.length_set]; exact e.len, e.tr, e.fr, e.tb, fun y hy => ?_, fun j k a h1 h2 => e.dj j k a (own_sh ns h1).2 (own_sh ns h2).2, fun j b ds a h1 h2 => ?_, fun j s' h => ?_⟩
  · obtain ⟨f, ds, h1, h2⟩ := e.io y hy
    have ne : i ≠ y.1 := by rintro rfl; exact hi.2 ds h1
    exact ⟨f, ds, by rw [List.getElem?_set_ne ne]; exact h1, by rw [List.getElem?_set_ne ne]; exact h2⟩
  · have o := own_sh ns ⟨b, ds, h1, h2⟩
    rw [List.getElem?_set_ne o.1.symm] at h1 h2
    exact e.ow j b ds a h1 h2
  · have sub : Mv (Gv F σ ρ) H (Gv F (σ.set i x) (ρ.set i s)) H := Mv.sub (gv_set ns)
    by_cases ne : i = j
    · subst ne
      rw [List.getElem?_set_self hi.1] at h
      cases h
      rw [List.getElem?_set_self hl]
      rcases hs with ⟨d, v, rfl, rfl, dv⟩ | rfl
      · exact ⟨v, rfl, Dv.mv sub _ _ dv⟩
      · trivial
    · rw [List.getElem?_set_ne ne] at h ⊢
      exact (e.sl j s' h).mv sub fun _ _ _ _ _ _ h => h
def DG (K : PySem.W.Frag) (cp : Cb) (g : TG) (ts : List Nat) (d : D) (ρ : List SV) (Ψ : List SV → Prop) : Prop :=
  ∀ F A H0 H σ, En K cp F A H0 H σ ρ → ∀ v, Dv K cp (Gv F σ ρ) H v d → ∀ Q : L2.St → Hp → Prop, (∀ σ' ρ', En K cp F A H0 H σ' ρ' → (∀ a, Gv F σ' ρ' a → Gv F σ ρ a) → (∀ vs, (∀ i ∈ ts, i ∈ vs) → wipe σ' vs = wipe σ vs) → Ψ ρ' → Q σ' H) → g v σ H Q
theorem wipe_set {i : Nat} {x : Option V} : ∀ (vs : List Nat), i ∈ vs → wipe (σ.set i x) vs = wipe σ vs
  | [], h => by cases h
  | j :: vs, h => by
    show (wipe (σ.set i x) vs).set j none = (wipe σ vs).set j none
    by_cases e : i ∈ vs
    · rw [wipe_set vs e]
    · have q : i = j := by
        rcases List.mem_cons.mp h with h | h
        · exact h
        · exact absurd h e
      subst q
      have : ∀ ws : List Nat, i ∉ ws → wipe (σ.set i x) ws = (wipe σ ws).set i x := by
        intro ws hw
        induction ws with
        | nil => rfl
        | cons k ws ih =>
          show (wipe (σ.set i x) ws).set k none = ((wipe σ ws).set k none).set i x
          rw [ih fun z => hw (List.mem_cons_of_mem _ z)]
          exact List.set_comm _ _ (fun z => hw (by rw [← z]; exact List.mem_cons_self))
      rw [this vs e, List.set_set]
theorem DG.name {i : Nat} {d : D} {Ψ : List SV → Prop} (hi : free ρ i) (q : Ψ (ρ.set i (.sh d))) : DG K cp (gName i) [i] d ρ Ψ := fun F A H0 H σ e v dv Q k =>
  k _ _ (e.set hi (.inl ⟨d, v, rfl, rfl, dv⟩)) (gv_set (by rintro b ds z; cases z)) (fun vs h => wipe_set vs (h i (by simp))) q
def DGs (K : PySem.W.Frag) (cp : Cb) (g : TGs) (ts : List Nat) (ds : List D) (ρ : List SV) (Ψ : List SV → Prop) : Prop :=
  ∀ F A H0 H σ, En K cp F A H0 H σ ρ → ∀ vs, DvA K cp (Gv F σ ρ) H vs ds → ∀ Q : L2.St → Hp → Prop, (∀ σ' ρ', En K cp F A H0 H σ' ρ' → (∀ a, Gv F σ' ρ' a → Gv F σ ρ a) → (∀ vs, (∀ i ∈ ts, i ∈ vs) → wipe σ' vs = wipe σ vs) → Ψ ρ' → Q σ' H) → g vs σ H Q
theorem DGs.nil {Ψ : List SV → Prop} (q : Ψ ρ) : DGs K cp gNil [] [] ρ Ψ := fun F A H0 H σ e vs dv Q k => by
  cases dv
  exact ⟨rfl, k σ ρ e (fun _ g => g) (fun _ _ => rfl) q⟩
theorem DGs.cons {g : TG} {gs : TGs} {ts us : List Nat} {d : D} {ds : List D} {Ψ : List SV → Prop} (h : DG K cp g ts d ρ fun ρ1 => DGs K cp gs us ds ρ1 Ψ) : DGs K cp (gCons g gs) (ts ++ us) (d :: ds) ρ Ψ := fun F A H0 H σ e vs dv Q k => by
  cases dv with
  | @cons v vs _ _ d1 d2 =>
    refine ⟨v, vs, rfl, h F A H0 H σ e v d1 _ fun σ1 ρ1 e1 g1 w1 q1 => (show DGs K cp gs us ds ρ1 Ψ from q1) F A H0 H σ1 e1 vs (DvA.mv (Mv.sub g1) _ _ d2) Q fun σ2 ρ2 e2 g2 w2 q2 => k σ2 ρ2 e2 (fun a z => g1 a (g2 a z)) (fun ws hw => ?_) q2⟩
    rw [w2 ws fun i hi => hw i (by simp [hi]), w1 ws fun i hi => hw i (by simp [hi])]
theorem DG.tup {n : Nat} {gs : TGs} {ts : List Nat} {d : D} {ds : List D} {Ψ : List SV → Prop} (hd : d = .tup ds) (hn : ds.length = n) (h : DGs K cp gs ts ds ρ Ψ) : DG K cp (gTup K n gs) ts d ρ Ψ := fun F A H0 H σ e v dv Q k => by
  subst hd
  cases dv with
  | @tup a vs _ h1 _ h2 => exact ⟨a, vs, rfl, .inl (.inl h1), by rw [h2.len]; exact hn, h F A H0 H σ e vs h2 Q k⟩
  | @kt a vs _ h1 h2 => exact ⟨a, vs, rfl, h1 H, by rw [h2.len]; exact hn, h F A H0 H σ e vs h2 Q k⟩
/-- the same, whatever is wiped -/
def DGo (K : PySem.W.Frag) (cp : Cb) (g : TG) (d : D) (ρ : List SV) (Ψ : List SV → Prop) : Prop :=
  ∀ F A H0 H σ, En K cp F A H0 H σ ρ → ∀ v, Dv K cp (Gv F σ ρ) H v d → ∀ Q : L2.St → Hp → Prop, (∀ σ' ρ', En K cp F A H0 H σ' ρ' → (∀ a, Gv F σ' ρ' a → Gv F σ ρ a) → Ψ ρ' → Q σ' H) → g v σ H Q
def DGos (K : PySem.W.Frag) (cp : Cb) (g : TGs) (ds : List D) (ρ : List SV) (Ψ : List SV → Prop) : Prop :=
  ∀ F A H0 H σ, En K cp F A H0 H σ ρ → ∀ vs, DvA K cp (Gv F σ ρ) H vs ds → ∀ Q : L2.St → Hp → Prop, (∀ σ' ρ', En K cp F A H0 H σ' ρ' → (∀ a, Gv F σ' ρ' a → Gv F σ ρ a) → Ψ ρ' → Q σ' H) → g vs σ H Q
theorem DGo.name {i : Nat} {d : D} {Ψ : List SV → Prop} (hi : free ρ i) (q : Ψ (ρ.set i (.sh d))) : DGo K cp (gName i) d ρ Ψ := fun F A H0 H σ e v dv Q k =>
  k _ _ (e.set hi (.inl ⟨d, v, rfl, rfl, dv⟩)) (gv_set (by rintro b ds z; cases z)) q
theorem DGos.nil {Ψ : List SV → Prop} (q : Ψ ρ) : DGos K cp gNil [] ρ Ψ := fun F A H0 H σ e vs dv Q k => by
  cases dv
  exact ⟨rfl, k σ ρ e (fun _ g => g) q⟩
theorem DGos.cons {g : TG} {gs : TGs} {d : D} {ds : List D} {Ψ : List SV → Prop} (h : DGo K cp g d ρ fun ρ1 => DGos K cp gs ds ρ1 Ψ) : DGos K cp (gCons g gs) (d :: ds) ρ Ψ := fun F A H0 H σ e vs dv Q k => by
  cases dv with
  | @cons v vs _ _ d1 d2 =>
    exact ⟨v, vs, rfl, h F A H0 H σ e v d1 _ fun σ1 ρ1 e1 g1 q1 => (show DGos K cp gs ds ρ1 Ψ from q1) F A H0 H σ1 e1 vs (DvA.mv (Mv.sub g1) _ _ d2) Q fun σ2 ρ2 e2 g2 q2 => k σ2 ρ2 e2 (fun a z => g1 a (g2 a z)) q2⟩
theorem DGo.tup {n : Nat} {gs : TGs} {d : D} {ds : List D} {Ψ : List SV → Prop} (hd : d = .tup ds) (hn : ds.length = n) (h : DGos K cp gs ds ρ Ψ) : DGo K cp (gTup K n gs) d ρ Ψ := fun F A H0 H σ e v dv Q k => by
  subst hd
  cases dv with
  | @tup a vs _ h1 _ h2 => exact ⟨a, vs, rfl, .inl (.inl h1), by rw [h2.len]; exact hn, h F A H0 H σ e vs h2 Q k⟩
  | @kt a vs _ h1 h2 => exact ⟨a, vs, rfl, h1 H, by rw [h2.len]; exact hn, h F A H0 H σ e vs h2 Q k⟩
theorem DS.asg {te : TE} {g : TG} (h : DEs K cp X te ρ fun d ρ1 => DGo K cp g d ρ1 N) : DS K cp X (tAsg te g) ρ N R B C := fun F A H0 H σ e hx Dd n r b c =>
  h.go e (hx _) fun v d ρ1 H1 e1 m1 dv q => (show DGo K cp g d ρ1 N from q) F A H0 H1 σ e1 v dv _ fun σ2 ρ2 e2 g2 q2 => n σ2 ρ2 H1 e2 (m1.tr (Mv.sub g2)) q2
/-- a name takes a new list, as its owner -/
theorem own_new (e : En K cp (plus F p) A H0 H σ ρ) (nf : ¬ F p) (h0 : H0 p = none) (ha : ∀ x ∈ A, F x.2) {ds : D} {i : Nat} (hi : free ρ i) (dv : OwOk K cp (Gv (plus F p) σ ρ) H p ds) :
    En K cp F A H0 H (σ.set i (some (.ref p))) (ρ.set i (.ow false ds)) ∧ ∀ a, Gv F (σ.set i (some (.ref p))) (ρ.set i (.ow false ds)) a → Gv (plus F p) σ ρ a := by
  have hl : i < σ.length := by rw [e.len]; exact hi.1
  have noP : ∀ j, ¬ DD.own σ ρ j p := fun j ⟨b, es, h1, h2⟩ => by
    have q := e.ow j b es p h1 h2
    split at q
    · exact nf (ha _ q)
    · exact q.1 (.inr rfl)
  have oa : ∀ j a, DD.own (σ.set i (some (.ref p))) (ρ.set i (.ow false ds)) j a → (j = i ∧ a = p) ∨ (j ≠ i ∧ DD.own σ ρ j a) := fun j a o => by
    by_cases z : j = i
    · subst z
      obtain ⟨b, es, h1, h2⟩ := o
      rw [List.getElem?_set_self hl] at h2
      cases h2
      exact .inl ⟨rfl, rfl⟩
    · exact .inr ⟨z, (own_set z).mp o⟩
  have sub : ∀ a, Gv F (σ.set i (some (.ref p))) (ρ.set i (.ow false ds)) a → Gv (plus F p) σ ρ a := fun a g => by
    rcases g with g | ⟨j, o⟩
    · exact .inl (.inl g)
    · rcases oa j a o with ⟨_, rfl⟩ | ⟨_, o⟩
      · exact .inl (.inr rfl)
      · exact .inr ⟨j, o⟩
  refine ⟨⟨by rw [List.length_set, List.length_set]; exact e.len, fun a f => e.tr a (.inl f), e.fr, e.tb, fun y hy => ?_, fun j k a h1 h2 => ?_, fun j b es a h1 h2 => ?_, fun j s' h => ?_⟩, sub⟩
  · obtain ⟨f, es, h1, h2⟩ := e.io y hy
    have ne : i ≠ y.1 := by rintro rfl; exact hi.2 es h1
    exact ⟨ha y hy, es, by rw [List.getElem?_set_ne ne]; exact h1, by rw [List.getElem?_set_ne ne]; exact h2⟩
  · rcases oa j a h1 with ⟨rfl, rfl⟩ | ⟨n1, o1⟩
    · rcases oa k a h2 with ⟨rfl, _⟩ | ⟨n2, o2⟩
      · rfl
      · exact absurd o2 (noP k)
    · rcases oa k a h2 with ⟨rfl, rfl⟩ | ⟨n2, o2⟩
      · exact absurd o1 (noP j)
      · exact e.dj j k a o1 o2
  · by_cases z : i = j
    · subst z
      rw [List.getElem?_set_self hi.1] at h1
      rw [List.getElem?_set_self hl] at h2
      cases h1; cases h2
      exact ⟨nf, h0⟩
    · rw [List.getElem?_set_ne z] at h1 h2
      have q := e.ow j b es a h1 h2
      split at q
      · rename_i hb; rw [if_pos hb]; exact q
      · rename_i hb; rw [if_neg hb]; exact ⟨fun f => q.1 (.inl f), q.2⟩
  · by_cases z : i = j
    · subst z
      rw [List.getElem?_set_self hi.1] at h
      cases h
      rw [List.getElem?_set_self hl]
      obtain ⟨u, hu, dv⟩ := dv
      exact ⟨p, rfl, u, hu, dv.mv (Mv.sub sub)⟩
    · rw [List.getElem?_set_ne z] at h ⊢
      exact (e.sl j s' h).mv (Mv.sub sub) fun _ _ _ _ _ _ h => h
theorem DS.own {te : TE} {i : Nat} (h : DE K cp X te ρ fun r ρ1 => ∃ ds, r = .n ds ∧ free ρ1 i ∧ N (ρ1.set i (.ow false ds))) : DS K cp X (tAsg te (gName i)) ρ N R B C := fun F A H0 H σ e hx Dd n r b c =>
  h F A H0 H σ e (hx _) _ fun v a ρ1 H1 e1 ⟨ds, ea, hi, q⟩ => by
    subst ea
    obtain ⟨p, rfl, nf, h0, en, ha, mv, dv⟩ := e1
    obtain ⟨e2, g2⟩ := own_new en nf h0 ha hi dv
    exact n _ _ H1 e2 (mv.tr (Mv.sub g2)) q
end
end DD
set_option maxHeartbeats 1000000
/-! Loops and comprehensions over data. -/
namespace DD
open PySem PySem.Spec PyProof.Rows L2 GL
section
variable {K : PySem.W.Frag} {cp : Cb} {X : XC} {F : Addr → Prop} {A : List (Nat × Addr)} {H0 H H' H1 H2 : Hp} {σ σ' : L2.St} {ρ ρ' ρ1 ρ2 : List SV} {G : Addr → Prop} {v w : V}
variable {N : List SV → Prop} {R : AV → List SV → Prop} {B C : List SV → Prop}
/-- what G tells stands in H -/
def Trk (G : Addr → Prop) (H : Hp) : Prop := ∀ a, G a → ∃ o, H a = some o
theorem En.trk (e : En K cp F A H0 H σ ρ) : Trk (Gv F σ ρ) H := fun a g => g.elim (e.tr a) fun ⟨i, o⟩ => (e.own_at o).elim fun vs h => ⟨_, h⟩
/-- it gives xs, while what stood at Gs, Hs stands -/
def Wk (K : PySem.W.Frag) (cp : Cb) (J : It) (xs : List D) (Gs : Addr → Prop) (Hs : Hp) : Prop :=
  Walk J xs.length (fun H => ∃ G, Mv Gs Hs G H) fun i H x H' => Ex H H' ∧ ∀ G, Mv Gs Hs G H → Trk G H → ∃ d, xs[i]? = some d ∧ Dv K cp G H' x d
def DI (K : PySem.W.Frag) (cp : Cb) (X : XC) (wi : TI) (ρ : List SV) (Ψ : List D → List SV → Prop) : Prop :=
  ∀ F A H0 H σ, En K cp F A H0 H σ ρ → XOk K cp F A H0 X σ → ∀ Q : It → Hp → Prop, (∀ J xs ρ' H', En K cp F A H0 H' σ ρ' → Mv (Gv F σ ρ) H (Gv F σ ρ') H' → Wk K cp J xs (Gv F σ ρ') H' → Ψ xs ρ' → Q J H') → wi σ H Q
theorem DvA.at : ∀ {vs : List V} {ds : List D} {i : Nat} {v : V}, DvA K cp G H vs ds → vs[i]? = some v → ∃ d, ds[i]? = some d ∧ Dv K cp G H v d
  | [], [], i, _, _, h => by simp at h
  | v :: _, d :: _, 0, _, .cons h _, e => by simp at e; subst e; exact ⟨d, rfl, h⟩
  | _ :: vs, _ :: ds, i + 1, _, .cons _ h, e => by simpa using DvA.at (vs := vs) (ds := ds) (i := i) h (by simpa using e)
theorem wk_list {a : Addr} {vs : List V} {xs : List D} (h : H a = some (.lst vs)) (n : ¬ G a) (dv : DvA K cp G H vs xs) : Wk K cp (Itl K a) xs G H := by
  have e := dv.len
  unfold Wk
  rw [← e]
  refine walk_list.mono (fun H2 ⟨G2, m⟩ => .inl (.inl (m.k _ _ n h).2)) fun i H2 x H3 _ _ y => ?_
  obtain ⟨rfl, hx⟩ := y
  refine ⟨Ex.rfl' _, fun G2 m _ => ?_⟩
  obtain ⟨d, h1, h2⟩ := dv.at hx
  exact ⟨d, h1, Dv.mv m _ _ h2⟩
theorem wk_tup {a : Addr} {vs : List V} {xs : List D} (h : ∀ G2 H2, Mv G H G2 H2 → SqT K H2 a vs) (dv : DvA K cp G H vs xs) : Wk K cp (Itt K a) xs G H := by
  have e := dv.len
  unfold Wk
  rw [← e]
  refine walk_tup.mono (fun H2 ⟨G2, m⟩ => h G2 H2 m) fun i H2 x H3 _ _ y => ?_
  obtain ⟨rfl, hx⟩ := y
  refine ⟨Ex.rfl' _, fun G2 m _ => ?_⟩
  obtain ⟨d, h1, h2⟩ := dv.at hx
  exact ⟨d, h1, Dv.mv m _ _ h2⟩
theorem DI.list {te : TE} {Ψ : List D → List SV → Prop} (h : DEs K cp X te ρ fun d ρ1 => ∃ xs, d = .lst xs ∧ Ψ xs ρ1) : DI K cp X (iList K te) ρ Ψ := fun F A H0 H σ e hx Q k =>
  h.go e hx fun v d ρ1 H1 e1 m1 dv ⟨xs, hd, ψ⟩ => by
    subst hd
    cases dv with
    | @lst a vs _ h1 n h2 => exact ⟨a, rfl, ⟨vs, .inl (.inl h1)⟩, k _ xs ρ1 H1 e1 m1 (wk_list h1 n h2) ψ⟩
theorem DI.tup {te : TE} {Ψ : List D → List SV → Prop} (h : DEs K cp X te ρ fun d ρ1 => ∃ xs, d = .tup xs ∧ Ψ xs ρ1) : DI K cp X (iTup K te) ρ Ψ := fun F A H0 H σ e hx Q k =>
  h.go e hx fun v d ρ1 H1 e1 m1 dv ⟨xs, hd, ψ⟩ => by
    subst hd
    cases dv with
    | @tup a vs _ h1 n h2 => exact ⟨a, rfl, ⟨vs, .inl (.inl h1)⟩, k _ xs ρ1 H1 e1 m1 (wk_tup (fun G2 H2 m => .inl (.inl (m.k _ _ n h1).2)) h2) ψ⟩
    | @kt a vs _ h1 h2 => exact ⟨a, rfl, ⟨vs, h1 _⟩, k _ xs ρ1 H1 e1 m1 (wk_tup (fun G2 H2 m => h1 H2) h2) ψ⟩
theorem DI.seqL {tl tl' : TE} {Ψ : List D → List SV → Prop} (h : DI K cp X (iList K tl) ρ Ψ) : DI K cp X (iSeq K tl tl') ρ Ψ := fun F A H0 H σ e hx Q k => .inl (h F A H0 H σ e hx Q k)
theorem DI.seqT {tl tl' : TE} {Ψ : List D → List SV → Prop} (h : DI K cp X (iTup K tl') ρ Ψ) : DI K cp X (iSeq K tl tl') ρ Ψ := fun F A H0 H σ e hx Q k => .inr (h F A H0 H σ e hx Q k)
def intD (lo : Int) (n : Nat) : List D := (List.range n).map fun (i : Nat) => D.int (lo + (i : Int))
theorem intD_get {lo : Int} {n i : Nat} (h : i < n) : (intD lo n)[i]? = some (.int (lo + (i : Int))) := by unfold intD; rw [List.getElem?_map, List.getElem?_range h]; rfl
theorem intD_len {lo : Int} {n : Nat} : (intD lo n).length = n := by unfold intD; simp
theorem wk_range {lo : Int} {n : Nat} : Wk K cp (Itr lo n) (intD lo n) G H := by
  unfold Wk
  rw [intD_len]
  refine walk_range.mono (fun _ _ => trivial) fun i H2 x H3 hi _ y => ?_
  obtain ⟨rfl, rfl⟩ := y
  exact ⟨Ex.rfl' _, fun G2 _ _ => ⟨_, intD_get hi, .int _⟩⟩
theorem dv_int {i : Int} (h : Dv K cp G H v (.int i)) : v = .int i := by cases h; rfl
theorem dv_str {x : Str} (h : Dv K cp G H v (.str x)) : v = .str x := by cases h; rfl
theorem DI.rng1 {ta : TA} {Ψ : List D → List SV → Prop} (h : DAo K cp X ta ρ fun ps ρ1 => ∃ j : Int, ps = [.d (.int j)] ∧ -(2 ^ 62) ≤ j ∧ j < 2 ^ 62 ∧ Ψ (intD 0 j.toNat) ρ1) : DI K cp X (iRng1 ta) ρ Ψ := fun F A H0 H σ e hx Q k =>
  h F A H0 H σ e hx _ fun vs ps ρ1 H1 e1 m1 o1 ⟨j, hp, a, b, ψ⟩ => by
    subst hp
    cases o1 with
    | cons o1 o2 =>
      cases o2
      exact ⟨j, by rw [dv_int o1], a, b, k _ _ ρ1 H1 e1 m1 wk_range ψ⟩
theorem DI.rng2 {ta : TA} {Ψ : List D → List SV → Prop} (h : DAo K cp X ta ρ fun ps ρ1 => ∃ i j : Int, ps = [.d (.int i), .d (.int j)] ∧ (-(2 ^ 62) ≤ i ∧ i < 2 ^ 62 ∧ -(2 ^ 62) ≤ j ∧ j < 2 ^ 62) ∧ Ψ (intD i (j - i).toNat) ρ1) : DI K cp X (iRng2 ta) ρ Ψ := fun F A H0 H σ e hx Q k =>
  h F A H0 H σ e hx _ fun vs ps ρ1 H1 e1 m1 o1 ⟨i, j, hp, a, ψ⟩ => by
    subst hp
    cases o1 with
    | cons o1 o2 =>
      cases o2 with
      | cons o2 o3 =>
        cases o3
        exact ⟨i, j, by rw [dv_int o1, dv_int o2], a, k _ _ ρ1 H1 e1 m1 wk_range ψ⟩
theorem En.ctx (e : En K cp F A H0 H σ ρ) (x : Ex H H') : En K cp F A H0 H' σ ρ := e.ex x
/-- a for: I by the turn and the slots -/
theorem DS.for {wi : TI} {g : TG} {tb : TS} (h : DI K cp X wi ρ fun xs ρ1 => ∃ I : Nat → List SV → Prop, I 0 ρ1 ∧
    (∀ i d ρ2, xs[i]? = some d → I i ρ2 → DGo K cp g d ρ2 fun ρ3 => DS K cp X tb ρ3 (I (i + 1)) R N (I (i + 1))) ∧ ∀ ρ2, I xs.length ρ2 → N ρ2) : DS K cp X (tFor wi g tb) ρ N R B C := fun F A H0 H σ e hx Dd n r b c =>
  h F A H0 H σ e (hx _) _ fun J xs ρ1 H1 e1 m1 wk ⟨I, i0, hs, hd⟩ => by
    refine for_it wk (fun i σ' H' => ∃ ρ', En K cp F A H0 H' σ' ρ' ∧ Mv (Gv F σ ρ1) H1 (Gv F σ' ρ') H' ∧ I i ρ') ⟨ρ1, e1, Mv.ex (Ex.rfl' _), i0⟩ (fun i σ' H' _ ⟨ρ', e', m', _⟩ => ⟨_, m'⟩) ?_ fun σ' H' ⟨ρ', e', m', q⟩ => n σ' ρ' H' e' (m1.tr m') (hd ρ' q)
    rintro i x σ2 H2 H3 hi ⟨ρ2, e2, m2, q2⟩ ⟨ex, y⟩
    obtain ⟨d, hxi, dv⟩ := y _ m2 e2.trk
    refine hs i d ρ2 hxi q2 F A H0 H3 σ2 (e2.ex ex) x dv _ fun σ3 ρ3 e3 g3 q3 => ?_
    have m3 : Mv (Gv F σ ρ1) H1 (Gv F σ3 ρ3) H3 := m2.tr ((Mv.ex ex).tr (Mv.sub g3))
    exact (show DS K cp X tb ρ3 (I (i + 1)) R N (I (i + 1)) from q3) F A H0 H3 σ3 e3 hx _ (fun σ4 ρ4 H4 e4 m4 q => ⟨ρ4, e4, m3.tr m4, q⟩) r (fun σ4 ρ4 H4 e4 m4 q => n σ4 ρ4 H4 e4 (m1.tr (m3.tr m4)) q) fun σ4 ρ4 H4 e4 m4 q => ⟨ρ4, e4, m3.tr m4, q⟩
/-- a while: I by the slots, μ falls -/
theorem DS.while {c : TT} {tb : TS} (I : List SV → Prop) (μ : List SV → Nat) (h0 : I ρ) (h : ∀ ρ1, I ρ1 → DT K cp X c ρ1 fun b ρ2 => if b = true then DS K cp X tb ρ2 (fun ρ3 => I ρ3 ∧ μ ρ3 < μ ρ1) R N (fun ρ3 => I ρ3 ∧ μ ρ3 < μ ρ1) else N ρ2) : DS K cp X (tWhile c tb) ρ N R B C := fun F A H0 H σ e hx Dd n r b k => by
  refine ⟨fun m σ' H' => ∃ ρ', En K cp F A H0 H' σ' ρ' ∧ Mv (Gv F σ ρ) H (Gv F σ' ρ') H' ∧ I ρ' ∧ μ ρ' = m, ⟨_, ρ, e, Mv.ex (Ex.rfl' _), h0, rfl⟩, ?_⟩
  rintro m σ1 H1 ⟨ρ1, e1, m1, i1, rfl⟩
  refine h ρ1 i1 F A H0 H1 σ1 e1 (hx _) _ fun x ρ2 H2 e2 m2 q => ?_
  cases x with
  | true =>
    refine iteT ⟨fun σ' H' => ∃ ρ', En K cp F A H0 H' σ' ρ' ∧ Mv (Gv F σ ρ) H (Gv F σ' ρ') H' ∧ I ρ' ∧ μ ρ' < μ ρ1, fun σ' H' ⟨ρ', e', m', i', l⟩ => ⟨_, l, ρ', e', m', i', rfl⟩, ?_⟩
    exact (show DS K cp X tb ρ2 _ R N _ from q) F A H0 H2 σ1 e2 hx _ (fun σ4 ρ4 H4 e4 m4 q => ⟨ρ4, e4, m1.tr (m2.tr m4), q.1, q.2⟩) r (fun σ4 ρ4 H4 e4 m4 q => n σ4 ρ4 H4 e4 (m1.tr (m2.tr m4)) q) fun σ4 ρ4 H4 e4 m4 q => ⟨ρ4, e4, m1.tr (m2.tr m4), q.1, q.2⟩
  | false => exact iteF (n σ1 ρ2 H2 e2 (m1.tr m2) q)

/-! ### comprehensions -/
def wipeS (ρ : List SV) : List Nat → List SV
  | [] => ρ
  | v :: vs => (wipeS ρ vs).set v .no
/-- the slots of the comprehension own nothing -/
def nown (ρ : List SV) (vs : List Nat) : Prop := ∀ i ∈ vs, i < ρ.length ∧ ∀ b ds, ρ[i]? ≠ some (.ow b ds)
theorem wipeS_len : ∀ (vs : List Nat), (wipeS ρ vs).length = ρ.length
  | [] => rfl
  | v :: vs => by show ((wipeS ρ vs).set v .no).length = _; rw [List.length_set, wipeS_len vs]
theorem wipeS_get {i : Nat} : ∀ (vs : List Nat), i ∉ vs → (wipeS ρ vs)[i]? = ρ[i]?
  | [], _ => rfl
  | v :: vs, h => by
    show ((wipeS ρ vs).set v .no)[i]? = _
    rw [List.getElem?_set_ne (fun z => h (by rw [z]; exact List.mem_cons_self)), wipeS_get vs fun z => h (List.mem_cons_of_mem _ z)]
theorem wipeS_in {i : Nat} : ∀ (vs : List Nat), i ∈ vs → i < ρ.length → (wipeS ρ vs)[i]? = some .no
  | [], h, _ => by cases h
  | v :: vs, h, l => by
    show ((wipeS ρ vs).set v .no)[i]? = _
    by_cases e : v = i
    · subst e; rw [List.getElem?_set_self (by rw [wipeS_len]; exact l)]
    · rw [List.getElem?_set_ne e]
      rcases List.mem_cons.mp h with h | h
      · exact absurd h.symm e
      · exact wipeS_in vs h l
theorem wipe_get {i : Nat} : ∀ (vs : List Nat), i ∉ vs → (wipe σ vs)[i]? = σ[i]?
  | [], _ => rfl
  | v :: vs, h => by
    show ((wipe σ vs).set v none)[i]? = _
    rw [List.getElem?_set_ne (fun z => h (by rw [z]; exact List.mem_cons_self)), wipe_get vs fun z => h (List.mem_cons_of_mem _ z)]
theorem own_wipe {vs : List Nat} {i : Nat} {a : Addr} (hn : nown ρ vs) : own (wipe σ vs) (wipeS ρ vs) i a ↔ own σ ρ i a := by
  by_cases h : i ∈ vs
  · obtain ⟨l, n⟩ := hn i h
    constructor
    · rintro ⟨b, ds, h1, _⟩
      rw [wipeS_in vs h l] at h1; cases h1
    · rintro ⟨b, ds, h1, _⟩
      exact absurd h1 (n b ds)
  · unfold own
    rw [wipeS_get vs h, wipe_get vs h]
theorem gv_wipe {vs : List Nat} (hn : nown ρ vs) : ∀ a, Gv F (wipe σ vs) (wipeS ρ vs) a ↔ Gv F σ ρ a := fun a => by
  unfold Gv
  constructor
  · rintro (f | ⟨i, o⟩)
    · exact .inl f
    · exact .inr ⟨i, (own_wipe hn).mp o⟩
  · rintro (f | ⟨i, o⟩)
    · exact .inl f
    · exact .inr ⟨i, (own_wipe hn).mpr o⟩
theorem En.wipe {vs : List Nat} (e : En K cp F A H0 H σ ρ) (hn : nown ρ vs) : En K cp F A H0 H (wipe σ vs) (wipeS ρ vs) := by
  have nin : ∀ {i b ds}, (wipeS ρ vs)[i]? = some (.ow b ds) → i ∉ vs := fun {i b ds} h z => by rw [wipeS_in vs z (hn i z).1] at h; cases h
  refine ⟨by rw [wipe_length, wipeS_len]; exact e.len, e.tr, e.fr, e.tb, fun y hy => ?_, fun j k a h1 h2 => e.dj j k a ((own_wipe hn).mp h1) ((own_wipe hn).mp h2), fun j b ds a h1 h2 => ?_, fun j s' h => ?_⟩
  · obtain ⟨f, ds, h1, h2⟩ := e.io y hy
    have ne : y.1 ∉ vs := fun z => (hn _ z).2 true ds h1
    exact ⟨f, ds, by rw [wipeS_get vs ne]; exact h1, by rw [wipe_get vs ne]; exact h2⟩
  · have z := nin h1
    rw [wipeS_get vs z] at h1
    rw [wipe_get vs z] at h2
    exact e.ow j b ds a h1 h2
  · by_cases z : j ∈ vs
    · rw [wipeS_in vs z (hn j z).1] at h
      cases h; trivial
    · rw [wipeS_get vs z] at h
      rw [wipe_get vs z]
      exact (e.sl j s' h).mv (Mv.sub fun a g => (gv_wipe hn a).mp g) fun _ _ _ _ _ _ h => h
/-- back behind a turn: what the outer slots held -/
theorem En.back {vs : List Nat} {σ2 : L2.St} {ρ3 : List SV} (e : En K cp F A H0 H σ ρ) (hn : nown ρ vs) (hw : L2.wipe σ2 vs = L2.wipe σ vs) (e3 : En K cp F A H0 H' σ2 ρ3) (m : Mv (Gv F (L2.wipe σ vs) (wipeS ρ vs)) H (Gv F σ2 ρ3) H')
    (h3 : nown ρ3 vs) (hb : wipeS ρ' vs = wipeS ρ3 vs) (hv : ∀ i ∈ vs, ρ'[i]? = ρ[i]?) (hl : ρ'.length = ρ.length) : En K cp F A H0 H' σ ρ' ∧ Mv (Gv F σ ρ) H (Gv F σ ρ') H' := by
  have hn' : nown ρ' vs := fun i h => ⟨by rw [hl]; exact (hn i h).1, fun b ds => by rw [hv i h]; exact (hn i h).2 b ds⟩
  have e4 := e3.wipe h3
  rw [hw, ← hb] at e4
  have gq : ∀ a, Gv F σ ρ' a ↔ Gv F σ2 ρ3 a := fun a => by
    rw [← gv_wipe (σ := σ2) h3 a, hw, ← hb, gv_wipe hn' a]
  have m2 : Mv (Gv F σ ρ) H (Gv F σ ρ') H' := ⟨fun a o n h => by
    have z := m.k a o (fun g => n ((gv_wipe hn a).mp g)) h
    exact ⟨fun g => z.1 ((gq a).mp g), z.2⟩⟩
  refine ⟨⟨by rw [hl]; exact e.len, e4.tr, e4.fr, e4.tb, fun y hy => ?_, fun j k a h1 h2 => e4.dj j k a ((own_wipe hn').mpr h1) ((own_wipe hn').mpr h2), fun j b ds a h1 h2 => ?_, fun j s' h => ?_⟩, m2⟩
  · obtain ⟨f, ds, h1, h2⟩ := e4.io y hy
    have ne : y.1 ∉ vs := fun z => by rw [wipeS_in vs z (hn' _ z).1] at h1; cases h1
    exact ⟨f, ds, by rw [wipeS_get vs ne] at h1; exact h1, by rw [wipe_get vs ne] at h2; exact h2⟩
  · have z : j ∉ vs := fun z => (hn' j z).2 b ds h1
    exact e4.ow j b ds a (by rw [wipeS_get vs z]; exact h1) (by rw [wipe_get vs z]; exact h2)
  · by_cases z : j ∈ vs
    · rw [hv j z] at h
      refine (e.sl j s' h).mv m2 fun b ds a ws q => ?_
      subst q
      exact absurd h ((hn j z).2 b ds)
    · have q := e4.sl j s' (by rw [wipeS_get vs z]; exact h)
      rw [wipe_get vs z] at q
      exact q.mv (Mv.sub fun a g => (gv_wipe hn' a).mpr g) fun _ _ _ _ _ _ h => h
/-- what nobody may touch is as it was -/
theorem En.h0 (e : En K cp F A H0 H σ ρ) {p : Addr} {o : HO} (f : F p) (hA : ∀ x ∈ A, p ≠ x.2) (h : H p = some o) (n : H0 p = none) : En K cp F A (upd H0 p o) H σ ρ := by
  refine ⟨e.len, e.tr, fun a u hx q => ?_, e.tb, e.io, e.dj, fun i b ds a h1 h2 => ?_, e.sl⟩
  · by_cases z : a = p
    · subst z; rw [upd_same] at q; cases q; exact .of h
    · rw [upd_ne z] at q; exact e.fr a u hx q
  · have q := e.ow i b ds a h1 h2
    split at q
    · rename_i hb; rw [if_pos hb]; exact q
    · rename_i hb
      rw [if_neg hb]
      have z : a ≠ p := fun z => q.1 (by rw [z]; exact f)
      exact ⟨q.1, by rw [upd_ne z]; exact q.2⟩
theorem En.h0b {p : Addr} {o : HO} (e : En K cp F A (upd H0 p o) H σ ρ) (f : F p) (n : H0 p = none) : En K cp F A H0 H σ ρ := by
  refine ⟨e.len, e.tr, fun a u hx q => e.fr a u hx (by rw [upd_ne (ne_of_none q n)]; exact q), e.tb, e.io, e.dj, fun i b ds a h1 h2 => ?_, e.sl⟩
  have q := e.ow i b ds a h1 h2
  split at q
  · rename_i hb; rw [if_pos hb]; exact q
  · rename_i hb
    rw [if_neg hb]
    have z : a ≠ p := fun z => q.1 (by rw [z]; exact f)
    exact ⟨q.1, by rw [← q.2, upd_ne z]⟩
theorem wipe_one {vs : List Nat} {u : Nat} (h : u ∈ vs) : (wipe σ vs).set u none = wipe σ vs := by
  induction vs with
  | nil => cases h
  | cons t ts ih =>
    show ((wipe σ ts).set t none).set u none = (wipe σ ts).set t none
    by_cases z : u = t
    · subst z; rw [List.set_set]
    · rw [List.set_comm _ _ (fun q => z q.symm), ih (by rcases List.mem_cons.mp h with h | h; exact absurd h z; exact h)]
theorem wipe_wipe {vs : List Nat} : ∀ us : List Nat, (∀ i ∈ us, i ∈ vs) → wipe (wipe σ vs) us = wipe σ vs
  | [], _ => rfl
  | u :: us, h => by
    show (wipe (wipe σ vs) us).set u none = _
    rw [wipe_wipe us fun i hi => h i (List.mem_cons_of_mem _ hi), wipe_one (h u List.mem_cons_self)]
/-- what stands behind a turn, by the outer slots: ρ2 ahead, ρ5 within, ρ6 behind -/
def Turned (vs : List Nat) (ρ2 ρ5 ρ6 : List SV) : Prop := nown ρ5 vs ∧ wipeS ρ6 vs = wipeS ρ5 vs ∧ (∀ i ∈ vs, ρ6[i]? = ρ2[i]?) ∧ ρ6.length = ρ2.length
/-- the list of a comprehension takes one more -/
theorem en_put {D : Addr} {ws : List V} (e : En K cp (plus F D) A H0 H σ ρ) (nF : ¬ F D) (hA : ∀ x ∈ A, F x.2) (h0 : H0 D = none) (hD : H D = some (.lst ws)) (o : HO) : En K cp (plus F D) A H0 (upd H D o) σ ρ ∧ Mv (Gv (plus F D) σ ρ) H (Gv (plus F D) σ ρ) (upd H D o) := by
  have m : Mv (Gv (plus F D) σ ρ) H (Gv (plus F D) σ ρ) (upd H D o) := ⟨fun a u n h => ⟨n, .of (by rw [upd_ne (fun z => n (.inl (.inr z)))]; exact h)⟩⟩
  refine ⟨⟨e.len, fun a f => ?_, fun a u hx q => ?_, tabs_upd e.tb hD trivial, e.io, e.dj, e.ow, fun i s h => (e.sl i s h).mv m fun b ds a vs q1 q2 q3 => ?_⟩, m⟩
  · by_cases z : a = D
    · subst z; exact ⟨_, upd_same⟩
    · rw [upd_ne z]; exact e.tr a f
  · exact (e.fr a u hx q).tr fun v hv => .of (by rw [upd_ne (ne_of_none q h0)]; exact hv)
  · subst q1
    have q := e.ow i b ds a h q2
    rw [upd_ne ?_]
    · exact q3
    · rintro rfl
      split at q
      · exact nF (hA _ q)
      · exact q.1 (.inr rfl)
/-- [te for g in wi if tt]: I by the turn, what is made, the slots -/
theorem DE.lc {wi : TI} {g : TG} {tt : TT} {te : TE} {vs : List Nat} {Φ : AV → List SV → Prop} (h : DI K cp X wi ρ fun xs ρ1 => ∃ (ts : List Nat) (I : Nat → List D → List SV → Prop), (∀ i ∈ ts, i ∈ vs) ∧ I 0 [] ρ1 ∧ xs.length ≤ 900000 ∧
    (∀ i d acc ρ2, xs[i]? = some d → I i acc ρ2 → nown ρ2 vs ∧ DG K cp g ts d (wipeS ρ2 vs) fun ρ3 => DT K cp XC.q tt ρ3 fun b ρ4 => if b = true then DEs K cp XC.q te ρ4 (fun y ρ5 => ∃ ρ6, Turned vs ρ2 ρ5 ρ6 ∧ I (i + 1) (acc ++ [y]) ρ6)
        else ∃ ρ6, Turned vs ρ2 ρ4 ρ6 ∧ I (i + 1) acc ρ6) ∧ ∀ acc ρ2, I xs.length acc ρ2 → Φ (.n (.lst acc)) ρ2) : DE K cp X (tLc wi g tt te vs) ρ Φ := fun F A H0 H σ e hx Q k =>
  h F A H0 H σ e hx _ fun J xs ρ1 H1 e1 m1 wk ⟨ts, I, hts, i0, hlen, hs, hd⟩ => by
    intro D hD
    have h0D := e1.none0 hD
    have nF : ¬ F D := fun f => e1.notF hD (.inl f)
    have hA : ∀ x ∈ A, F x.2 := fun x hx => (e1.io x hx).1
    have hAD : ∀ x ∈ A, D ≠ x.2 := fun x hx z => nF (z ▸ hA x hx)
    refine lc_it wk (fun i H' => ∃ acc ρ', acc.length ≤ i ∧ (∃ ws, H' D = some (.lst ws) ∧ DvA K cp (Gv (plus F D) σ ρ') H' ws acc) ∧ En K cp (plus F D) A H0 H' σ ρ' ∧ Mv (Gv F σ ρ1) H1 (Gv (plus F D) σ ρ') H' ∧ I i acc ρ')
      ⟨[], ρ1, Nat.le_refl _, ⟨[], upd_same, .nil⟩, e1.plus hD (Ex.nw hD) upd_same, (Mv.nw hD).tr ((Mv.ex (Ex.nw hD)).tr (Mv.sub gv_plus)), i0⟩ (fun i H' _ ⟨acc, ρ', _, _, _, m', _⟩ => ⟨_, m'⟩) ?_ ?_
    · rintro i x H2 H3 hi ⟨acc, ρ2, hal, ⟨ws, hw, dw⟩, e2, m2, q2⟩ ⟨ex, y⟩
      obtain ⟨d, hxi, dv⟩ := y _ m2 e2.trk
      obtain ⟨hn, q3⟩ := hs i d acc ρ2 hxi q2
      have e3 := e2.ex ex
      have hw3 := ex _ _ hw
      have ew := (e3.h0 (.inr rfl) hAD hw3 h0D).wipe hn
      have sb : Mv (Gv (plus F D) σ ρ2) H3 (Gv (plus F D) (wipe σ vs) (wipeS ρ2 vs)) H3 := Mv.sub fun a g => (gv_wipe hn a).mp g
      refine q3 (plus F D) A _ H3 (wipe σ vs) ew x (Dv.mv sb _ _ dv) _ fun σ4 ρ4 e4 g4 w4 q4 => ?_
      have wq : wipe σ4 vs = wipe σ vs := by rw [w4 vs hts]; exact wipe_wipe vs fun i h => h
      refine ⟨wq, ?_⟩
      have m4 : Mv (Gv (plus F D) (wipe σ vs) (wipeS ρ2 vs)) H3 (Gv (plus F D) σ4 ρ4) H3 := Mv.sub g4
      have fin : ∀ {ρ5 ρ6 : List SV} {H5 : Hp}, En K cp (plus F D) A (upd H0 D (.lst ws)) H5 σ4 ρ5 → Mv (Gv (plus F D) σ4 ρ4) H3 (Gv (plus F D) σ4 ρ5) H5 → Turned vs ρ2 ρ5 ρ6 →
          H5 D = some (.lst ws) ∧ En K cp (plus F D) A H0 H5 σ ρ6 ∧ Mv (Gv F σ ρ1) H1 (Gv (plus F D) σ ρ6) H5 ∧ DvA K cp (Gv (plus F D) σ ρ6) H5 ws acc := fun {ρ5 ρ6 H5} e5 m5 tn => by
        obtain ⟨t1, t2, t3, t4⟩ := tn
        obtain ⟨e7, m7⟩ := e3.back hn wq (e5.h0b (.inr rfl) h0D) (m4.tr m5) t1 t2 t3 t4
        exact ⟨e5.fr D _ hAD upd_same, e7, m2.tr ((Mv.ex ex).tr m7), DvA.mv ((Mv.ex ex).tr m7) _ _ dw⟩
      refine (show DT K cp XC.q tt ρ4 _ from q4) (plus F D) A _ H3 σ4 e4 xq _ fun b ρ5 H5 e5 m5 q5 => ?_
      cases b with
      | true =>
        refine iteT (DEs.go (show DEs K cp XC.q te ρ5 _ from q5) e5 xq fun z y ρ6 H6 e6 m6 dy q6 => ?_)
        obtain ⟨ρ7, tn, q7⟩ := q6
        obtain ⟨f1, f2, f3, f4⟩ := fin e6 (m5.tr m6) tn
        have l1 : ws.length = acc.length := f4.len
        obtain ⟨p1, p2⟩ := en_put f2 nF hA h0D f1 (.lst (ws ++ [z]))
        have dz : Dv K cp (Gv (plus F D) σ ρ7) H6 z y := by
          refine Dv.mv (Mv.sub fun a g => ?_) _ _ dy
          obtain ⟨t1, t2, t3, t4⟩ := tn
          have hn7 : nown ρ7 vs := fun i h => ⟨by rw [t4]; exact (hn i h).1, fun b ds => by rw [t3 i h]; exact (hn i h).2 b ds⟩
          rw [← gv_wipe (σ := σ4) t1 a, wq, ← t2, gv_wipe hn7 a]
          exact g
        exact ⟨ws, f1, sz_ok (by omega), acc ++ [y], ρ7, by simp; omega, ⟨_, upd_same, DvA.mv p2 _ _ (f4.app (.cons dz .nil))⟩, p1, f3.tr p2, q7⟩
      | false =>
        obtain ⟨ρ7, tn, q7⟩ := q5
        obtain ⟨f1, f2, f3, f4⟩ := fin e5 m5 tn
        exact iteF ⟨acc, ρ7, by omega, ⟨ws, f1, f4⟩, f2, f3, q7⟩
    · rintro H2 ⟨acc, ρ2, hal, ⟨ws, hw, dw⟩, e2, m2, q2⟩
      exact k _ (.n (.lst acc)) ρ2 H2 ⟨D, rfl, nF, h0D, e2, hA, m1.tr m2, _, hw, .lst dw⟩ (hd acc ρ2 q2)
end
end DD
set_option maxHeartbeats 1000000
/-! Calls by contract; owners changed. -/
namespace DD
open PySem PySem.Spec PyProof.Rows L2 GL
section
variable {K : PySem.W.Frag} {cp : Cb} {X : XC} {F : Addr → Prop} {A : List (Nat × Addr)} {H0 H H' H1 H2 : Hp} {σ σ' : L2.St} {ρ ρ' ρ1 ρ2 : List SV} {G : Addr → Prop} {v w : V}
variable {N : List SV → Prop} {R : AV → List SV → Prop} {B C : List SV → Prop}
/-- the same shape: the owners' contents alone differ -/
structure Alike (ρ ρ' : List SV) : Prop where
  len : ρ'.length = ρ.length
  at_ : ∀ (i : Nat) (s : SV), ρ'[i]? = some s → ρ[i]? = some s ∨ ∃ b ds ds', ρ[i]? = some (.ow b ds) ∧ s = .ow b ds'
  io : ∀ (i : Nat) (b : Bool) (ds : D), ρ[i]? = some (.ow b ds) → ∃ ds', ρ'[i]? = some (.ow b ds')
theorem Alike.rfl' : Alike ρ ρ := ⟨rfl, fun i s h => .inl h, fun i b ds h => ⟨ds, h⟩⟩
theorem Alike.own (a : Alike ρ ρ') {i : Nat} {x : Addr} : own σ ρ' i x ↔ own σ ρ i x := by
  constructor
  · rintro ⟨b, ds, h1, h2⟩
    rcases a.at_ i _ h1 with h | ⟨b', d1, d2, h, _⟩
    · exact ⟨b, ds, h, h2⟩
    · exact ⟨b', d1, h, h2⟩
  · rintro ⟨b, ds, h1, h2⟩
    obtain ⟨ds', h⟩ := a.io i b ds h1
    exact ⟨b, ds', h, h2⟩
theorem Alike.gv (a : Alike ρ ρ') : ∀ x, Gv F σ ρ' x ↔ Gv F σ ρ x := fun x => by
  unfold Gv
  constructor
  · rintro (f | ⟨i, o⟩)
    · exact .inl f
    · exact .inr ⟨i, a.own.mp o⟩
  · rintro (f | ⟨i, o⟩)
    · exact .inl f
    · exact .inr ⟨i, a.own.mpr o⟩
theorem en_upd (e : En K cp F A H0 H σ ρ) (a : Alike ρ ρ') (hm : ∀ x o, (∀ i, ¬ own σ ρ i x) → H x = some o → Sm o H' x) (tb : LamX.Tabs cp.T H')
    (ho : ∀ (i : Nat) (b : Bool) (ds : D) (x : Addr), ρ'[i]? = some (.ow b ds) → σ[i]? = some (some (.ref x)) → OwOk K cp (Gv F σ ρ) H' x ds) : En K cp F A H0 H' σ ρ' ∧ Mv (Gv F σ ρ) H (Gv F σ ρ') H' := by
  have m : Mv (Gv F σ ρ) H (Gv F σ ρ') H' := ⟨fun x o n h => ⟨fun g => n ((a.gv x).mp g), hm x o (fun i z => n (.inr ⟨i, z⟩)) h⟩⟩
  have at_own : ∀ i x, own σ ρ i x → ∃ o, H' x = some o := fun i x z => by
    obtain ⟨b, ds, h1, h2⟩ := a.own.mpr z
    obtain ⟨u, h, _⟩ := ho i b ds x h1 h2
    exact ⟨_, h⟩
  refine ⟨⟨by rw [a.len]; exact e.len, fun x f => ?_, fun x o hx q => ?_, tb, fun y hy => ?_, fun j k x h1 h2 => e.dj j k x (a.own.mp h1) (a.own.mp h2), fun j b ds x h1 h2 => ?_, fun j s h => ?_⟩, m⟩
  · by_cases z : ∃ i, own σ ρ i x
    · exact z.elim fun i o => at_own i x o
    · obtain ⟨o, h⟩ := e.tr x f
      exact (hm x o (fun i q => z ⟨i, q⟩) h).is
  · refine (e.fr x o hx q).tr fun u hu => hm x u (fun i q => ?_) hu
    obtain ⟨b, ds, h1, h2⟩ := q
    have z := e.ow i b ds x h1 h2
    split at z
    · exact hx _ z rfl
    · rw [z.2] at q; cases q
  · obtain ⟨f, ds, h1, h2⟩ := e.io y hy
    obtain ⟨ds', h⟩ := a.io _ _ _ h1
    exact ⟨f, ds', h, h2⟩
  · rcases a.at_ j _ h1 with h | ⟨b', d1, d2, h, q⟩
    · exact e.ow j b ds x h h2
    · cases q; exact e.ow j b d1 x h h2
  · by_cases z : ∃ b ds, s = .ow b ds
    · obtain ⟨b, ds, rfl⟩ := z
      have q : ∃ x, σ[j]? = some (some (.ref x)) := by
        rcases a.at_ j _ h with h' | ⟨b', d1, d2, h', q⟩
        · obtain ⟨x, h1, _⟩ := e.sl j _ h'; exact ⟨x, h1⟩
        · obtain ⟨x, h1, _⟩ := e.sl j _ h'; exact ⟨x, h1⟩
      obtain ⟨x, hx⟩ := q
      obtain ⟨u, h1, h2⟩ := ho j b ds x h hx
      exact ⟨x, hx, u, h1, h2.mv (Mv.sub fun y g => (a.gv y).mp g)⟩
    · rcases a.at_ j _ h with h' | ⟨b', d1, d2, h', q⟩
      · exact (e.sl j s h').mv m fun b ds x vs q => absurd ⟨b, ds, q⟩ z
      · exact absurd ⟨b', d2, q⟩ z
/-- one owner takes another content -/
theorem en_upd1 (e : En K cp F A H0 H σ ρ) {i : Nat} {b : Bool} {ds ds' : D} {x : Addr} {o' : HO} (hi : ρ[i]? = some (.ow b ds)) (hx : σ[i]? = some (some (.ref x))) (dv : OwV K cp (Gv F σ ρ) H o' ds') :
    En K cp F A H0 (upd H x o') σ (ρ.set i (.ow b ds')) ∧ Mv (Gv F σ ρ) H (Gv F σ (ρ.set i (.ow b ds'))) (upd H x o') := by
  have hl : i < ρ.length := (List.getElem?_eq_some_iff.mp hi).1
  have ox : own σ ρ i x := ⟨b, ds, hi, hx⟩
  have m : Mv (Gv F σ ρ) H (Gv F σ ρ) (upd H x o') := ⟨fun y o n h => ⟨n, .of (by rw [upd_ne (fun z => n (.inr ⟨i, by rw [z]; exact ox⟩))]; exact h)⟩⟩
  have tb : LamX.Tabs cp.T (upd H x o') := by
    obtain ⟨a', q1, u, q2, q3⟩ := e.sl i _ hi
    rw [hx] at q1; cases q1
    exact tabs_upd e.tb q2 q3.kd
  refine en_upd e ⟨by rw [List.length_set], fun j s h => ?_, fun j c es h => ?_⟩ (fun y o n h => .of (by rw [upd_ne (fun z => n i (by rw [z]; exact ox))]; exact h)) tb fun j c es y h1 h2 => ?_
  · by_cases z : i = j
    · subst z
      rw [List.getElem?_set_self hl] at h
      cases h
      exact .inr ⟨b, ds, ds', hi, rfl⟩
    · rw [List.getElem?_set_ne z] at h; exact .inl h
  · by_cases z : i = j
    · subst z
      rw [hi] at h; cases h
      exact ⟨ds', List.getElem?_set_self hl⟩
    · exact ⟨es, by rw [List.getElem?_set_ne z]; exact h⟩
  · by_cases z : i = j
    · subst z
      rw [List.getElem?_set_self hl] at h1
      cases h1
      rw [hx] at h2; cases h2
      exact ⟨o', upd_same, dv.mv m⟩
    · rw [List.getElem?_set_ne z] at h1
      obtain ⟨a, q1, u, q2, q3⟩ := e.sl j _ h1
      rw [h2] at q1; cases q1
      have ne : y ≠ x := fun q => z (e.dj i j x ox ⟨c, es, h1, by rw [← q]; exact h2⟩)
      exact ⟨u, by rw [upd_ne ne]; exact q2, q3.mv m⟩
/-! ### what is owned is handed on -/
theorem en_no (e : En K cp F A H0 H σ ρ) {i : Nat} {ds : D} (hi : ρ[i]? = some (.ow false ds)) {x : Addr} {u : HO} (hx : σ[i]? = some (some (.ref x))) (hH : H x = some u) :
    En K cp (plus F x) A H0 H σ (ρ.set i .no) ∧ ¬ F x ∧ H0 x = none ∧ ∀ a, Gv (plus F x) σ (ρ.set i .no) a ↔ Gv F σ ρ a := by
  have hl : i < ρ.length := (List.getElem?_eq_some_iff.mp hi).1
  have q := e.ow i _ ds x hi hx
  rw [if_neg (by decide)] at q
  have ons : ∀ j a, own σ (ρ.set i .no) j a ↔ own σ ρ j a ∧ j ≠ i := fun j a => by
    unfold own
    by_cases z : i = j
    · subst z
      rw [List.getElem?_set_self hl]
      constructor
      · rintro ⟨_, _, h, _⟩; cases h
      · rintro ⟨_, h⟩; exact absurd rfl h
    · rw [List.getElem?_set_ne z]
      exact ⟨fun h => ⟨h, fun q => z q.symm⟩, fun h => h.1⟩
  have gq : ∀ a, Gv (plus F x) σ (ρ.set i .no) a ↔ Gv F σ ρ a := fun a => by
    constructor
    · rintro ((f | rfl) | ⟨j, o⟩)
      · exact .inl f
      · exact .inr ⟨i, false, ds, hi, hx⟩
      · exact .inr ⟨j, ((ons j a).mp o).1⟩
    · rintro (f | ⟨j, o⟩)
      · exact .inl (.inl f)
      · by_cases z : j = i
        · subst z
          obtain ⟨b, es, h1, h2⟩ := o
          rw [hx] at h2; cases h2
          exact .inl (.inr rfl)
        · exact .inr ⟨j, (ons j a).mpr ⟨o, z⟩⟩
  refine ⟨⟨by rw [List.length_set]; exact e.len, fun a f => f.elim (e.tr a) fun z => by subst z; exact ⟨_, hH⟩, e.fr, e.tb, fun y hy => ?_, fun j k a h1 h2 => e.dj j k a ((ons j a).mp h1).1 ((ons k a).mp h2).1, fun j b es a h1 h2 => ?_, fun j s h => ?_⟩, q.1, q.2, gq⟩
  · obtain ⟨f, es, h1, h2⟩ := e.io y hy
    have ne : i ≠ y.1 := by rintro rfl; rw [hi] at h1; cases h1
    exact ⟨.inl f, es, by rw [List.getElem?_set_ne ne]; exact h1, h2⟩
  · have o := (ons j a).mp ⟨b, es, h1, h2⟩
    rw [List.getElem?_set_ne o.2.symm] at h1
    have z := e.ow j b es a h1 h2
    split at z
    · rename_i hb; rw [if_pos hb]; exact z
    · rename_i hb
      rw [if_neg hb]
      exact ⟨fun f => f.elim z.1 fun r => o.2 (e.dj j i a o.1 ⟨false, ds, hi, by rw [r]; exact hx⟩), z.2⟩
  · by_cases z : i = j
    · subst z
      rw [List.getElem?_set_self hl] at h
      cases h; trivial
    · rw [List.getElem?_set_ne z] at h
      exact (e.sl j s h).mv (Mv.sub fun a g => (gq a).mp g) fun _ _ _ _ _ _ h => h
/-- a name's own list is handed on, the name is empty behind it -/
theorem DE.move {i : Nat} {ds : D} {Φ : AV → List SV → Prop} (h : ρ[i]? = some (.ow false ds)) (q : Φ (.n ds) (ρ.set i .no)) : DE K cp X (tVar i) ρ Φ := fun F A H0 H σ e hx Q k => by
  obtain ⟨a, h1, u, h2, h3⟩ := e.sl i _ h
  obtain ⟨e2, nf, h0, gq⟩ := en_no e h h1 h2
  have m : Mv (Gv F σ ρ) H (Gv (plus F a) σ (ρ.set i .no)) H := Mv.sub fun x g => (gq x).mp g
  exact ⟨_, h1, k _ (.n ds) _ H ⟨a, rfl, nf, h0, e2, fun x hx => (e.io x hx).1, m, u, h2, h3.mv m⟩ q⟩
/-- a name's own list is known to all from now on -/
theorem DE.frz {i : Nat} {ds : D} {Φ : AV → List SV → Prop} (h : ρ[i]? = some (.ow false ds)) (q : Φ (.d ds) (ρ.set i (.sh ds))) : DE K cp X (tVar i) ρ Φ := fun F A H0 H σ e hx Q k => by
  obtain ⟨a, h1, u, h2, h3⟩ := e.sl i _ h
  obtain ⟨e2, nf, h0, gq⟩ := en_no e h h1 h2
  have hl : i < ρ.length := (List.getElem?_eq_some_iff.mp h).1
  have e3 := e2.minus fun x hx => (e.io x hx).1
  have nG : ¬ Gv F σ (ρ.set i .no) a := by
    rintro (f | ⟨j, b, es, q1, q2⟩)
    · exact nf f
    · by_cases z : i = j
      · subst z; rw [List.getElem?_set_self hl] at q1; cases q1
      · rw [List.getElem?_set_ne z] at q1
        exact z (e.dj i j a ⟨false, ds, h, h1⟩ ⟨b, es, q1, q2⟩)
  have m : Mv (Gv F σ ρ) H (Gv F σ (ρ.set i .no)) H := Mv.sub fun x g => (gq x).mp (gv_sub a x g)
  have dv : Dv K cp (Gv F σ (ρ.set i .no)) H (.ref a) ds := OwOk.sh ⟨u, h2, h3.mv m⟩ nG
  have e4 := e3.set (i := i) (x := some (.ref a)) (s := .sh ds) ⟨by rw [List.length_set]; exact hl, fun es z => by rw [List.getElem?_set_self hl] at z; cases z⟩ (.inl ⟨_, _, rfl, rfl, dv⟩)
  rw [List.set_set] at e4
  have hs : σ.set i (some (.ref a)) = σ := by
    apply List.ext_getElem?
    intro j
    by_cases z : i = j
    · subst z; rw [List.getElem?_set_self (by rw [e.len]; exact hl), h1]
    · rw [List.getElem?_set_ne z]
  rw [hs] at e4
  have g4 : ∀ x, Gv F σ (ρ.set i (.sh ds)) x → Gv F σ (ρ.set i .no) x := fun x g => by
    have z := gv_set (F := F) (σ := σ) (ρ := ρ.set i .no) (i := i) (x := some (.ref a)) (s := .sh ds) (by rintro b es q; cases q) x
    rw [List.set_set, hs] at z
    exact z g
  exact ⟨_, h1, k _ (.d ds) _ H ⟨e4, m.tr (Mv.sub g4), Dv.mv (Mv.sub g4) _ _ dv⟩ q⟩

/-! ### calls -/
abbrev Ct := List SV → (AV → List SV → Prop) → Prop
/-- what is passed -/
def PR (K : PySem.W.Frag) (cp : Cb) (F : Addr → Prop) (H : Hp) (v : V) (s : SV) : Prop := match s with
  | .sh d => Dv K cp F H v d
  | .ow b c => b = true ∧ ∃ a, v = .ref a ∧ F a ∧ OwOk K cp F H a c
  | .no => False
/-- what is handed back: F' the same, or with the new list -/
def Hb (K : PySem.W.Frag) (cp : Cb) (F : Addr → Prop) (H : Hp) (v : V) (H' : Hp) (F' : Addr → Prop) : AV → Prop
  | .d d => F' = F ∧ Dv K cp F H' v d
  | .n c => ∃ p, F' = plus F p ∧ v = .ref p ∧ H p = none ∧ OwOk K cp (plus F p) H' p c
  | .o _ => False
/-- .. with the slots of an own error, if one comes -/
abbrev CtX := List SV → (AV → List SV → Prop) → (Nat → List Str → List D → List SV → Prop) → Prop
/-- what stands behind a call: nothing but what was passed to be changed is changed -/
structure Bk (K : PySem.W.Frag) (cp : Cb) (ss : List SV) (vs : List V) (H : Hp) (F' : Addr → Prop) (H' : Hp) (ρ' : List SV) : Prop where
  hm : ∀ (a : Addr) (o : HO), (∀ (i : Nat) (b : Bool) (ds : D), ss[i]? = some (.ow b ds) → vs[i]? ≠ some (.ref a)) → H a = some o → Sm o H' a
  ho : ∀ (i : Nat) (b : Bool) (ds : D) (a : Addr), ss[i]? = some (.ow b ds) → vs[i]? = some (.ref a) → ∃ es : D, ρ'[i]? = some (.ow true es) ∧ OwOk K cp F' H' a es
  tb : LamX.Tabs cp.T H'
def spX (K : PySem.W.Frag) (cp : Cb) (n : Nat) (C : CtX) : Sp := fun vs H Q E => ∃ (F : Addr → Prop) (ss : List SV) (Φ : AV → List SV → Prop) (Ψ : Nat → List Str → List D → List SV → Prop), vs.length = n ∧ Paired (PR K cp F H) vs ss ∧ Trk F H ∧
  (∀ (i j : Nat) (a : Addr) (b c : Bool) (ds es : D), ss[i]? = some (.ow b ds) → ss[j]? = some (.ow c es) → vs[i]? = some (.ref a) → vs[j]? = some (.ref a) → i = j) ∧ LamX.Tabs cp.T H ∧ C ss Φ Ψ ∧
  (∀ v r ρ' H' F', Φ r ρ' → Hb K cp F H v H' F' r → Bk K cp ss vs H F' H' ρ' → Q v H') ∧
  ∀ i es fs dd ρ' H', Ψ i (fs.map (·.1)) es ρ' → H' dd = some (exd dd fs) → DvA K cp F H' (fs.map (·.2)) es → Bk K cp ss vs H F H' ρ' → E (.ref (cp.x i)) (some dd) H'
def spC (K : PySem.W.Frag) (cp : Cb) (n : Nat) (C : Ct) : Sp := spX K cp n fun ss Φ _ => C ss Φ
def argS (ρ : List SV) : List OP → Option (List SV)
  | [] => some []
  | .d d :: ps => (argS ρ ps).map (.sh d :: ·)
  | .o i :: ps => match ρ[i]?, argS ρ ps with
    | some (.ow _ ds), some ss => some (.ow true ds :: ss)
    | _, _ => none
/-- the owners that were passed, with what they hold behind the call -/
def upds (ρc : List SV) : Nat → List OP → List SV → List SV
  | _, [], ρ => ρ
  | k, .d _ :: ps, ρ => upds ρc (k + 1) ps ρ
  | k, .o j :: ps, ρ => upds ρc (k + 1) ps (match ρ[j]?, ρc[k]? with
    | some (.ow b _), some (.ow _ ds) => ρ.set j (.ow b ds)
    | _, _ => ρ)
def slots : List OP → List Nat
  | [] => []
  | .d _ :: ps => slots ps
  | .o i :: ps => i :: slots ps
theorem argS_pr (e : En K cp F A H0 H σ ρ) : ∀ {vs : List V} {ps : List OP} {ss : List SV}, Paired (OPv K cp F σ ρ H) vs ps → argS ρ ps = some ss → Paired (PR K cp (Gv F σ ρ) H) vs ss
  | [], [], ss, _, h => by cases h; exact .nil
  | v :: vs, .d d :: ps, ss, .cons a b, h => by
    obtain ⟨ss', h1, rfl⟩ := Option.map_eq_some_iff.mp (show (argS ρ ps).map (SV.sh d :: ·) = some ss from h)
    exact .cons a (argS_pr e b h1)
  | v :: vs, .o i :: ps, ss, .cons a b, h => by
    simp only [argS] at h
    split at h
    · rename_i c ds ss' h1 h2
      cases h
      obtain ⟨x, rfl, hx⟩ := a
      obtain ⟨y, q1, q2⟩ := e.sl i _ h1
      rw [hx] at q1; cases q1
      exact .cons ⟨rfl, _, rfl, .inr ⟨i, c, ds, h1, hx⟩, q2⟩ (argS_pr e b h2)
    · cases h
/-- the i-th argument is an owner: which one -/
theorem argS_at : ∀ {ps : List OP} {ss : List SV} {i : Nat} {b : Bool} {ds : D}, argS ρ ps = some ss → ss[i]? = some (.ow b ds) → ∃ j c, ps[i]? = some (.o j) ∧ ρ[j]? = some (.ow c ds)
  | [], ss, i, b, ds, h, q => by cases h; simp at q
  | .d d :: ps, ss, i, b, ds, h, q => by
    obtain ⟨ss', h1, rfl⟩ := Option.map_eq_some_iff.mp (show (argS ρ ps).map (SV.sh d :: ·) = some ss from h)
    cases i with
    | zero => simp at q
    | succ i => simpa using argS_at (ps := ps) h1 (by simpa using q)
  | .o k :: ps, ss, i, b, ds, h, q => by
    simp only [argS] at h
    split at h
    · rename_i c es ss' h1 h2
      cases h
      cases i with
      | zero => simp at q; obtain ⟨rfl, rfl⟩ := q; exact ⟨k, c, rfl, h1⟩
      | succ i => simpa using argS_at (ps := ps) h2 (by simpa using q)
    · cases h
theorem argS_o : ∀ {ps : List OP} {ss : List SV} {i j : Nat}, argS ρ ps = some ss → ps[i]? = some (.o j) → ∃ c ds, ρ[j]? = some (.ow c ds) ∧ ss[i]? = some (.ow true ds)
  | [], ss, i, j, h, q => by simp at q
  | .d d :: ps, ss, i, j, h, q => by
    obtain ⟨ss', h1, rfl⟩ := Option.map_eq_some_iff.mp (show (argS ρ ps).map (SV.sh d :: ·) = some ss from h)
    cases i with
    | zero => simp at q
    | succ i => simpa using argS_o (ps := ps) h1 (by simpa using q)
  | .o k :: ps, ss, i, j, h, q => by
    simp only [argS] at h
    split at h
    · rename_i c es ss' h1 h2
      cases h
      cases i with
      | zero => simp at q; subst q; exact ⟨c, es, h1, rfl⟩
      | succ i => simpa using argS_o (ps := ps) h2 (by simpa using q)
    · cases h
/-- slots behind a call: each owner that was passed has what the callee left, all else is as it was -/
theorem upds_ok {ρc : List SV} : ∀ {ps : List OP} {k : Nat} {ρ : List SV}, (slots ps).Nodup → (∀ i j, ps[i]? = some (.o j) → ∃ b ds es, ρ[j]? = some (.ow b ds) ∧ ρc[k + i]? = some (.ow true es)) →
    Alike ρ (upds ρc k ps ρ) ∧ (∀ j, j ∉ slots ps → (upds ρc k ps ρ)[j]? = ρ[j]?) ∧ ∀ i j b ds es, ps[i]? = some (.o j) → ρ[j]? = some (.ow b ds) → ρc[k + i]? = some (.ow true es) → (upds ρc k ps ρ)[j]? = some (.ow b es)
  | [], k, ρ, _, _ => ⟨Alike.rfl', fun _ _ => rfl, fun i j b ds es h => by simp at h⟩
  | .d d :: ps, k, ρ, hn, h => by
    obtain ⟨h1, h2, h3⟩ := upds_ok (ρc := ρc) (ps := ps) (k := k + 1) (ρ := ρ) hn fun i j q => by
      have z := h (i + 1) j (by simpa using q)
      rwa [show k + (i + 1) = k + 1 + i by omega] at z
    refine ⟨h1, h2, fun i j b ds es q1 q2 q3 => ?_⟩
    cases i with
    | zero => simp at q1
    | succ i => exact h3 i j b ds es (by simpa using q1) q2 (by rwa [show k + (i + 1) = k + 1 + i by omega] at q3)
  | .o x :: ps, k, ρ, hn, h => by
    obtain ⟨b0, ds0, es0, g1, g2⟩ := h 0 x rfl
    rw [Nat.add_zero] at g2
    have hl : x < ρ.length := (List.getElem?_eq_some_iff.mp g1).1
    have hn' := List.nodup_cons.mp (show (x :: slots ps).Nodup from hn)
    have e0 : upds ρc k (.o x :: ps) ρ = upds ρc (k + 1) ps (ρ.set x (.ow b0 es0)) := by simp only [upds, g1, g2]
    have mem : ∀ {qs : List OP} {i j : Nat}, qs[i]? = some (.o j) → j ∈ slots qs := by
      intro qs
      induction qs with
      | nil => intro i j q; simp at q
      | cons q0 qs ih =>
        intro i j q
        cases i with
        | zero => simp at q; subst q; exact List.mem_cons_self
        | succ i =>
          have := ih (i := i) (j := j) (by simpa using q)
          cases q0 with
          | d d => exact this
          | o y => exact List.mem_cons_of_mem _ this
    have ne : ∀ {i j : Nat}, ps[i]? = some (.o j) → x ≠ j := fun q z => hn'.1 (z ▸ mem q)
    obtain ⟨h1, h2, h3⟩ := upds_ok (ρc := ρc) (ps := ps) (k := k + 1) (ρ := ρ.set x (.ow b0 es0)) hn'.2 fun i j q => by
      have z := h (i + 1) j (by simpa using q)
      rw [List.getElem?_set_ne (ne q)]
      rwa [show k + (i + 1) = k + 1 + i by omega] at z
    rw [e0]
    refine ⟨⟨by rw [h1.len, List.length_set], fun i s q => ?_, fun i b ds q => ?_⟩, fun j hj => ?_, fun i j b ds es q1 q2 q3 => ?_⟩
    · by_cases z : x = i
      · subst z
        rcases h1.at_ x s q with w | ⟨b, d1, d2, w, e⟩
        · rw [List.getElem?_set_self hl] at w; cases w; exact .inr ⟨b0, ds0, es0, g1, rfl⟩
        · rw [List.getElem?_set_self hl] at w; cases w; exact .inr ⟨_, ds0, d2, g1, e⟩
      · rcases h1.at_ i s q with w | ⟨b, d1, d2, w, e⟩
        · rw [List.getElem?_set_ne z] at w; exact .inl w
        · rw [List.getElem?_set_ne z] at w; exact .inr ⟨b, d1, d2, w, e⟩
    · by_cases z : x = i
      · subst z
        rw [g1] at q; cases q
        exact h1.io x _ es0 (List.getElem?_set_self hl)
      · exact h1.io i b ds (by rw [List.getElem?_set_ne z]; exact q)
    · have z : x ≠ j := fun z => hj (by rw [← z]; exact List.mem_cons_self)
      rw [h2 j fun q => hj (List.mem_cons_of_mem _ q), List.getElem?_set_ne z]
    · cases i with
      | zero =>
        simp at q1; subst q1
        rw [g1] at q2; cases q2
        rw [Nat.add_zero, g2] at q3; cases q3
        rw [h2 x hn'.1, List.getElem?_set_self hl]
      | succ i =>
        have z := ne (i := i) (j := j) (by simpa using q1)
        exact h3 i j b ds es (by simpa using q1) (by rw [List.getElem?_set_ne z]; exact q2) (by rwa [show k + (i + 1) = k + 1 + i by omega] at q3)
theorem Paired.at {α β : Type} {P : α → β → Prop} : ∀ {xs : List α} {ys : List β} {i : Nat} {y : β}, Paired P xs ys → ys[i]? = some y → ∃ x, xs[i]? = some x ∧ P x y
  | [], [], i, _, _, h => by simp at h
  | x :: _, y :: _, 0, _, .cons h _, e => by simp at e; subst e; exact ⟨x, rfl, h⟩
  | _ :: xs, _ :: ys, i + 1, _, .cons _ h, e => by simpa using Paired.at (xs := xs) (ys := ys) (i := i) h (by simpa using e)
theorem Paired.len {α β : Type} {P : α → β → Prop} : ∀ {xs : List α} {ys : List β}, Paired P xs ys → xs.length = ys.length
  | [], [], _ => rfl
  | _ :: _, _ :: _, .cons _ h => by simp [Paired.len h]
theorem argS_len : ∀ {ps : List OP} {ss : List SV}, argS ρ ps = some ss → ss.length = ps.length
  | [], ss, h => by cases h; rfl
  | .d d :: ps, ss, h => by
    obtain ⟨ss', h1, rfl⟩ := Option.map_eq_some_iff.mp (show (argS ρ ps).map (SV.sh d :: ·) = some ss from h)
    simp [argS_len h1]
  | .o k :: ps, ss, h => by
    simp only [argS] at h
    split at h
    · rename_i c es ss' h1 h2
      cases h
      simp [argS_len h2]
    · cases h
/-- f(..), by its contract -/
theorem call_ct {n : Nat} {C : CtX} {ps : List OP} {vs : List V} {E : XK} {Q : VK} {Φ : AV → List SV → Prop} {Ψ : Nat → List Str → List D → List SV → Prop} {ss : List SV} (e : En K cp F A H0 H σ ρ) (o : Paired (OPv K cp F σ ρ H) vs ps) (hs : argS ρ ps = some ss) (hn : ps.length = n) (hd : (slots ps).Nodup)
    (hc : C ss (fun r ρc => Φ r (upds ρc 0 ps ρ)) fun i ns es ρc => Ψ i ns es (upds ρc 0 ps ρ)) (k : ∀ v r ρ' H', Res K cp F A H0 σ ρ H v r ρ' H' → Φ r ρ' → Q v H')
    (kx : ∀ i es fs dd ρ' H', En K cp F A H0 H' σ ρ' → H' dd = some (exd dd fs) → DvA K cp (Gv F σ ρ') H' (fs.map (·.2)) es → Ψ i (fs.map (·.1)) es ρ' → E (.ref (cp.x i)) (some dd) H') : spX K cp n C vs H Q E := by
  have hlen := argS_len hs
  have nq : ∀ {x : Addr}, (∀ i, ¬ own σ ρ i x) → ∀ (i : Nat) (b : Bool) (ds : D), ss[i]? = some (.ow b ds) → vs[i]? ≠ some (.ref x) := fun {x} n i b ds s1 s2 => by
    obtain ⟨y, c1, p1, p2⟩ := argS_at hs s1
    obtain ⟨v1, w1, a1, rfl, a2⟩ := Paired.at o p1
    rw [s2] at w1; cases w1
    exact n y ⟨_, _, p2, a2⟩
  have back : ∀ (ρc : List SV) {Hx : Hp}, Bk K cp ss vs H (Gv F σ ρ) Hx ρc → Alike ρ (upds ρc 0 ps ρ) ∧ En K cp F A H0 Hx σ (upds ρc 0 ps ρ) ∧ Mv (Gv F σ ρ) H (Gv F σ (upds ρc 0 ps ρ)) Hx := fun ρc {Hx} bk => by
    have hps : ∀ i j, ps[i]? = some (.o j) → ∃ b ds es, ρ[j]? = some (.ow b ds) ∧ ρc[0 + i]? = some (.ow true es) := fun i j q => by
      obtain ⟨c, ds, q1, q2⟩ := argS_o hs q
      obtain ⟨v1, w1, a1, rfl, a2⟩ := Paired.at o q
      obtain ⟨es, z1, _⟩ := bk.ho i true ds a1 q2 w1
      exact ⟨c, ds, es, q1, by rw [Nat.zero_add]; exact z1⟩
    obtain ⟨al, uo, ui⟩ := upds_ok (ρc := ρc) (ps := ps) (k := 0) (ρ := ρ) hd hps
    refine ⟨al, en_upd e al (fun x u n h => bk.hm x u (nq n) h) bk.tb fun j b ds x q1 q2 => ?_⟩
    by_cases hj : j ∈ slots ps
    · have at_ : ∀ {qs : List OP}, j ∈ slots qs → ∃ i : Nat, qs[i]? = some (.o j) := by
        intro qs
        induction qs with
        | nil => intro h; cases h
        | cons q0 qs ih =>
          intro h
          cases q0 with
          | d d => obtain ⟨i, hi⟩ := ih h; exact ⟨i + 1, by simpa using hi⟩
          | o y =>
            rcases List.mem_cons.mp h with h | h
            · subst h; exact ⟨0, rfl⟩
            · obtain ⟨i, hi⟩ := ih h; exact ⟨i + 1, by simpa using hi⟩
      obtain ⟨i, hi⟩ := at_ hj
      obtain ⟨c, ds0, r1, r2⟩ := argS_o hs hi
      obtain ⟨v1, w1, a1, rfl, a2⟩ := Paired.at o hi
      rw [q2] at a2; cases a2
      obtain ⟨es, y1, y2⟩ := bk.ho i true ds0 _ r2 w1
      have y4 := ui i j c ds0 es hi r1 (by rw [Nat.zero_add]; exact y1)
      rw [q1] at y4; cases y4
      exact y2
    · rw [uo j hj] at q1
      obtain ⟨y, r1, u, r2, r3⟩ := e.sl j _ q1
      rw [q2] at r1; cases r1
      have ox : own σ ρ j x := ⟨b, ds, q1, q2⟩
      have nx : ∀ (i : Nat) (b' : Bool) (ds' : D), ss[i]? = some (.ow b' ds') → vs[i]? ≠ some (.ref x) := fun i b' ds' s1 s2 => by
        obtain ⟨y, c1, p1, p2⟩ := argS_at hs s1
        obtain ⟨v1, w1, a1, rfl, a2⟩ := Paired.at o p1
        rw [s2] at w1; cases w1
        have := e.dj j y x ox ⟨_, _, p2, a2⟩
        subst this
        have mem : ∀ {qs : List OP} {i : Nat}, qs[i]? = some (.o j) → j ∈ slots qs := by
          intro qs
          induction qs with
          | nil => intro i q; simp at q
          | cons q0 qs ih =>
            intro i q
            cases i with
            | zero => simp at q; subst q; exact List.mem_cons_self
            | succ i =>
              have := ih (i := i) (by simpa using q)
              cases q0 with
              | d d => exact this
              | o y => exact List.mem_cons_of_mem _ this
        exact hj (mem p1)
      exact ⟨u, (bk.hm x _ nx r2).to r3.nt, r3.mv ⟨fun a u n h => ⟨n, bk.hm a u (nq fun i z => n (.inr ⟨i, z⟩)) h⟩⟩⟩
  refine ⟨Gv F σ ρ, ss, _, _, by rw [Paired.len o, hn], argS_pr e o hs, e.trk, fun i j a b c ds es h1 h2 h3 h4 => ?_, e.tb, hc, fun v r ρc H' F' φ hr bk => ?_, fun i es fs dd ρc H' ψ h1 h2 bk => ?_⟩
  · obtain ⟨x, c1, p1, r1⟩ := argS_at hs h1
    obtain ⟨y, c2, p2, r2⟩ := argS_at hs h2
    obtain ⟨v1, w1, a1, rfl, a2⟩ := Paired.at o p1
    obtain ⟨v2, w2, b1, rfl, b2⟩ := Paired.at o p2
    rw [h3] at w1; cases w1
    rw [h4] at w2; cases w2
    have xy := e.dj x y a ⟨_, _, r1, a2⟩ ⟨_, _, r2, b2⟩
    subst xy
    -- the same slot twice
    have mem : ∀ {qs : List OP} {i : Nat}, qs[i]? = some (.o x) → x ∈ slots qs := by
      intro qs
      induction qs with
      | nil => intro i q; simp at q
      | cons q0 qs ih =>
        intro i q
        cases i with
        | zero => simp at q; subst q; exact List.mem_cons_self
        | succ i =>
          have := ih (i := i) (by simpa using q)
          cases q0 with
          | d d => exact this
          | o y => exact List.mem_cons_of_mem _ this
    have uniq : ∀ {qs : List OP} {i j : Nat}, (slots qs).Nodup → qs[i]? = some (.o x) → qs[j]? = some (.o x) → i = j := by
      intro qs
      induction qs with
      | nil => intro i j _ q; simp at q
      | cons q0 qs ih =>
        intro i j nd q1 q2
        cases q0 with
        | d d =>
          cases i with
          | zero => simp at q1
          | succ i =>
            cases j with
            | zero => simp at q2
            | succ j => exact congrArg (· + 1) (ih (i := i) (j := j) nd (by simpa using q1) (by simpa using q2))
        | o y =>
          have nd' := List.nodup_cons.mp (show (y :: slots qs).Nodup from nd)
          cases i with
          | zero =>
            simp at q1; subst q1
            cases j with
            | zero => rfl
            | succ j => exact absurd (mem (qs := qs) (i := j) (by simpa using q2)) nd'.1
          | succ i =>
            cases j with
            | zero => simp at q2; subst q2; exact absurd (mem (qs := qs) (i := i) (by simpa using q1)) nd'.1
            | succ j => exact congrArg (· + 1) (ih (i := i) (j := j) nd'.2 (by simpa using q1) (by simpa using q2))
    exact uniq hd p1 p2
  · -- behind the call
    cases r with
    | d d =>
      obtain ⟨rfl, dv⟩ := hr
      obtain ⟨al, e2, m2⟩ := back ρc bk
      exact k v (.d d) _ H' ⟨e2, m2, Dv.mv (Mv.sub fun a g => (al.gv a).mp g) _ _ dv⟩ φ
    | n ds =>
      obtain ⟨p, rfl, rfl, hp, u0, hp', dv⟩ := hr
      let Hx : Hp := fun a => if a = p then none else H' a
      have hx : ∀ {a : Addr}, a ≠ p → Hx a = H' a := fun {a} n => if_neg n
      have hxp : Hx p = none := if_pos rfl
      have sx : ∀ {a : Addr} {u : HO}, a ≠ p → Sm u H' a → Sm u Hx a := fun {a u} n h => h.tr fun w hw => .of (by rw [hx n]; exact hw)
      have nep : ∀ {a : Addr} {u : HO}, H a = some u → a ≠ p := by
        intro a u h z
        rw [z, hp] at h; cases h
      have mx : Mv (plus (Gv F σ ρ) p) H' (Gv F σ ρ) Hx := ⟨fun a u n h => ⟨fun g => n (.inl g), .of (by rw [hx (fun z => n (.inr z))]; exact h)⟩⟩
      have bk2 : Bk K cp ss vs H (Gv F σ ρ) Hx ρc := ⟨fun x u n h => sx (nep h) (bk.hm x u n h), fun i b ds a q1 q2 => by
          obtain ⟨es, y1, u1, y2, y3⟩ := bk.ho i b ds a q1 q2
          refine ⟨es, y1, u1, ?_, y3.mv mx⟩
          rw [hx ?_]
          · exact y2
          · obtain ⟨x, c1, p1, p2⟩ := argS_at hs q1
            obtain ⟨v1, w1, a1, rfl, a2⟩ := Paired.at o p1
            rw [q2] at w1; cases w1
            obtain ⟨us, hu⟩ := e.own_at ⟨_, _, p2, a2⟩
            exact nep hu, tabs_keep bk.tb fun a u n h => by
          rw [hx ?_]
          · exact h
          · rintro rfl
            rw [hp'] at h; cases h
            exact n dv.kd⟩
      obtain ⟨al, e2, m2⟩ := back ρc bk2
      have exx : Ex Hx H' := fun a u h => by
        have z : a ≠ p := by
          intro z
          rw [z, hxp] at h; cases h
        rw [hx z] at h; exact h
      have e3 := e2.plus hxp exx hp'
      refine k _ (.n ds) _ H' ⟨p, rfl, fun f => e.notF hp (.inl f), e.none0 hp, e3, fun x hx => (e.io x hx).1, m2.tr ((Mv.nw hxp).tr ((Mv.ex exx).tr (Mv.sub gv_plus))), u0, hp', dv.mv (Mv.sub fun a g => ?_)⟩ φ
      rcases gv_plus a g with g | g
      · exact .inl ((al.gv a).mp g)
      · exact .inr g
    | o i => exact hr.elim
  · obtain ⟨al, e2, m2⟩ := back ρc bk
    exact kx i es fs dd _ H' e2 h1 (DvA.mv (Mv.sub fun a g => (al.gv a).mp g) _ _ h2) ψ
theorem DE.call {n : Nat} {C : Ct} {E : XK} {t : TA} {Φ : AV → List SV → Prop} (h : DAo K cp X t ρ fun ps ρ1 => ∃ ss, argS ρ1 ps = some ss ∧ ps.length = n ∧ (slots ps).Nodup ∧ C ss fun r ρc => Φ r (upds ρc 0 ps ρ1)) : DE K cp X (tCall (spC K cp n C) [] E t) ρ Φ := fun F A H0 H σ e hx Q k =>
  h F A H0 H σ e hx _ fun vs ps ρ1 H1 e1 m1 o1 ⟨ss, hs, hn, hd, hc⟩ => by
    rw [List.append_nil]
    exact call_ct (Ψ := fun _ _ _ _ => False) (C := fun ss Φ _ => C ss Φ) e1 o1 hs hn hd hc (fun v r ρ2 H2 rs φ => k v r ρ2 H2 (rs.tr m1) φ) fun _ _ _ _ _ _ _ _ _ z => z.elim
/-- .. of a def that may raise -/
theorem DE.callX {n : Nat} {C : CtX} {t : TA} {Φ : AV → List SV → Prop} (h : DAo K cp X t ρ fun ps ρ1 => ∃ ss, argS ρ1 ps = some ss ∧ ps.length = n ∧ (slots ps).Nodup ∧ C ss (fun r ρc => Φ r (upds ρc 0 ps ρ1)) fun i ns es ρc => X.P i ns es (upds ρc 0 ps ρ1)) : DE K cp X (tCall (spX K cp n C) [] X.E t) ρ Φ := fun F A H0 H σ e hx Q k =>
  h F A H0 H σ e hx _ fun vs ps ρ1 H1 e1 m1 o1 ⟨ss, hs, hn, hd, hc⟩ => by
    rw [List.append_nil]
    exact call_ct (Ψ := X.P) e1 o1 hs hn hd hc (fun v r ρ2 H2 rs φ => k v r ρ2 H2 (rs.tr m1) φ) fun i es fs dd ρ' H' e2 h1 h2 h3 => hx.x i es fs dd _ _ e2 h1 h2 h3
end
end DD
set_option maxHeartbeats 1000000
/-! A def by its contract; what the machine's own words give. -/
namespace DD
open PySem PySem.Spec PyProof.Rows L2 GL
def noS (n : Nat) : List SV := List.replicate n .no
def parA (vs : List V) (ss : List SV) : List (Nat × Addr) := (List.range ss.length).filterMap fun i => match ss[i]?, vs[i]? with
  | some (SV.ow _ _), some (V.ref a) => some (i, a)
  | _, _ => none
theorem mem_parA {vs : List V} {ss : List SV} {y : Nat × Addr} : y ∈ parA vs ss ↔ ∃ b ds, ss[y.1]? = some (.ow b ds) ∧ vs[y.1]? = some (.ref y.2) := by
  unfold parA
  rw [List.mem_filterMap]
  constructor
  · rintro ⟨i, _, h⟩
    split at h
    · rename_i b ds a h1 h2
      cases h
      exact ⟨_, _, h1, h2⟩
    · cases h
  · rintro ⟨b, ds, h1, h2⟩
    refine ⟨y.1, List.mem_range.mpr (List.getElem?_eq_some_iff.mp h1).1, ?_⟩
    rw [h1, h2]
section
variable {pg : Program} {w : World} {K : PySem.W.Frag} {mg : Str → Option Value} {bs : Heap} {cp : Cb} {X : XC}
theorem start_get {N : List Str} {vs : List V} {i : Nat} {v : V} (h : vs[i]? = some v) : (L2.start N vs)[i]? = some (some v) := by
  unfold L2.start
  have hl := (List.getElem?_eq_some_iff.mp h).1
  rw [List.getElem?_append_left (by simpa using hl), List.getElem?_map, h]; rfl
theorem app_no {ss : List SV} {n i : Nat} {s : SV} (h : (ss ++ noS n)[i]? = some s) : ss[i]? = some s ∨ s = .no := by
  by_cases z : i < ss.length
  · rw [List.getElem?_append_left z] at h; exact .inl h
  · rw [List.getElem?_append_right (by omega)] at h
    unfold noS at h
    rw [List.getElem?_replicate] at h
    split at h
    · cases h; exact .inr rfl
    · cases h
theorem en_start {N : List Str} {F : Addr → Prop} {H : Hp} {vs : List V} {ss : List SV} {n : Nat} (hl : vs.length = n) (pr : Paired (PR K cp F H) vs ss) (tr : Trk F H) (tb : LamX.Tabs cp.T H)
    (dj : ∀ (i j : Nat) (a : Addr) (b c : Bool) (ds es : D), ss[i]? = some (.ow b ds) → ss[j]? = some (.ow c es) → vs[i]? = some (.ref a) → vs[j]? = some (.ref a) → i = j) :
    En K cp F (parA vs ss) H H (L2.start N vs) (ss ++ noS (N.length - n)) := by
  have hs := Paired.len pr
  have at_ : ∀ {i : Nat} {b : Bool} {ds : D}, (ss ++ noS (N.length - n))[i]? = some (.ow b ds) → ss[i]? = some (.ow b ds) ∧ b = true ∧ ∃ a, vs[i]? = some (.ref a) ∧ F a ∧ OwOk K cp F H a ds := by
    intro i b ds h
    rcases app_no h with h | h
    · obtain ⟨v, hv, p⟩ := Paired.at pr h
      obtain ⟨rfl, a, rfl, p⟩ := p
      exact ⟨h, rfl, a, hv, p⟩
    · cases h
  have own_at : ∀ {i : Nat} {a : Addr}, own (L2.start N vs) (ss ++ noS (N.length - n)) i a → ∃ b ds, ss[i]? = some (.ow b ds) ∧ vs[i]? = some (.ref a) ∧ F a := by
    rintro i a ⟨b, ds, h1, h2⟩
    obtain ⟨q1, q2, a', q3, q4, _⟩ := at_ h1
    rw [start_get q3] at h2; cases h2
    exact ⟨b, ds, q1, q3, q4⟩
  have gf : ∀ a, Gv F (L2.start N vs) (ss ++ noS (N.length - n)) a → F a := fun a g => g.elim id fun ⟨i, o⟩ => (own_at o).elim fun b z => z.elim fun ds z => z.2.2
  refine ⟨by unfold L2.start noS; simp; omega, tr, fun a o _ h => .of h, tb, fun y hy => ?_, fun i j a h1 h2 => ?_, fun i b ds a h1 h2 => ?_, fun i s h => ?_⟩
  · obtain ⟨b, ds, h1, h2⟩ := mem_parA.mp hy
    obtain ⟨v, hv, p⟩ := Paired.at pr h1
    rw [h2] at hv; cases hv
    obtain ⟨rfl, a, q, f, _⟩ := p
    cases q
    exact ⟨f, ds, by rw [List.getElem?_append_left (List.getElem?_eq_some_iff.mp h1).1]; exact h1, start_get h2⟩
  · obtain ⟨b, ds, p1, p2, _⟩ := own_at h1
    obtain ⟨c, es, p3, p4, _⟩ := own_at h2
    exact dj i j a b c ds es p1 p3 p2 p4
  · obtain ⟨q1, rfl, a', q3, _⟩ := at_ h1
    rw [if_pos rfl]
    rw [start_get q3] at h2; cases h2
    exact mem_parA.mpr ⟨_, _, q1, q3⟩
  · rcases app_no h with h | rfl
    · obtain ⟨v, hv, p⟩ := Paired.at pr h
      rw [start_get hv]
      cases s with
      | no => trivial
      | sh d => exact ⟨v, rfl, Dv.mv (Mv.sub gf) _ _ p⟩
      | ow b ds =>
        obtain ⟨_, a, rfl, _, u, p1, p2⟩ := p
        exact ⟨a, rfl, u, p1, p2.mv (Mv.sub gf)⟩
    · trivial
/-- a body by its contract -/
theorem body_ct {N : List Str} {F : Addr → Prop} {ss : List SV} {Φ : AV → List SV → Prop} {Ψ : Nat → List Str → List D → List SV → Prop} {H : Hp} {vs : List V} {Q : VK} {E : XK} {n : Nat} {t : TS} (hl : vs.length = n) (pr : Paired (PR K cp F H) vs ss) (tr : Trk F H)
    (dj : ∀ (i j : Nat) (a : Addr) (b c : Bool) (ds es : D), ss[i]? = some (.ow b ds) → ss[j]? = some (.ow c es) → vs[i]? = some (.ref a) → vs[j]? = some (.ref a) → i = j) (tb : LamX.Tabs cp.T H)
    (kk : ∀ v r ρ' H' F', Φ r ρ' → Hb K cp F H v H' F' r → Bk K cp ss vs H F' H' ρ' → Q v H')
    (kx : ∀ i es fs dd ρ' H', Ψ i (fs.map (·.1)) es ρ' → H' dd = some (exd dd fs) → DvA K cp F H' (fs.map (·.2)) es → Bk K cp ss vs H F H' ρ' → E (.ref (cp.x i)) (some dd) H')
    (hd : DS K cp ⟨E, Ψ, H⟩ t (ss ++ noS (N.length - n)) (Φ (.d .non)) Φ (fun _ => False) fun _ => False) : t { nx := fun _ H' => Q .non H', rt := Q } (L2.start N vs) H := by
    have e0 := en_start (N := N) hl pr tr tb dj
    have bk : ∀ {F' : Addr → Prop} {σ' ρ' H'}, (∀ a, F a → F' a) → En K cp F' (parA vs ss) H H' σ' ρ' → ∀ {F2 : Addr → Prop}, (∀ a, F2 a → F' a ∨ ∃ i, own σ' ρ' i a) → Bk K cp ss vs H F2 H' ρ' := fun {F' σ' ρ' H'} sub e {F2} s2 => by
      refine ⟨fun a o n h => e.fr a o (fun y hy z => ?_) h, fun i b ds a h1 h2 => ?_, e.tb⟩
      · obtain ⟨b, ds, h1, h2⟩ := mem_parA.mp hy
        exact n y.1 b ds h1 (by rw [z]; exact h2)
      · obtain ⟨f, es, p1, p2⟩ := e.io (i, a) (mem_parA.mpr ⟨b, ds, h1, h2⟩)
        obtain ⟨a', q1, u, q2, q3⟩ := e.sl i _ p1
        rw [p2] at q1; cases q1
        exact ⟨es, p1, u, q2, q3.mv (Mv.sub fun a g => s2 a g)⟩
    have fin : ∀ {F' : Addr → Prop} {σ' ρ' H'} v r, (∀ a, F a → F' a) → En K cp F' (parA vs ss) H H' σ' ρ' → Φ r ρ' → Hb K cp F H v H' F' r → Q v H' := fun {F' σ' ρ' H'} v r sub e φ hr => kk v r ρ' H' F' φ hr (bk sub e fun a g => .inl g)
    have hx : ∀ σ, XOk K cp F (parA vs ss) H ⟨E, Ψ, H⟩ σ := fun σ' => ⟨fun _ h => h, fun i es fs dd ρ' H' e h1 h2 h3 => kx i es fs dd ρ' H' h3 h1 (DvA.mv (Mv.sub fun a g => .inl g) _ _ h2) (bk (fun _ g => g) e fun a g => .inl g)⟩
    refine hd F (parA vs ss) H H (L2.start N vs) e0 hx _ (fun σ' ρ' H' e m φ => fin .non (.d .non) (fun _ g => g) e φ ⟨rfl, .non⟩) (fun v r σ' ρ' H' fi φ => ?_) (fun _ _ _ _ _ z => z.elim) fun _ _ _ _ _ z => z.elim
    cases r with
    | d d => exact fin v (.d d) (fun _ g => g) fi.1 φ ⟨rfl, Dv.mv (Mv.sub fun a g => .inl g) _ _ fi.2⟩
    | n ds =>
      obtain ⟨p, rfl, nf, h0, e, ha, u, hu, dv⟩ := fi
      exact fin _ (.n ds) (fun _ g => .inl g) e φ ⟨p, rfl, rfl, h0, u, hu, dv.mv (Mv.sub fun a g => .inl g)⟩
    | o i => exact fi.elim
/-- a def by its contract -/
theorem okX {cx : CXT} {x q : Str} {st : Stmt} {f : Addr} {fd : FuncData} {N ps : List Str} {k : Nat} {C : CtX} {nos : List SV} (Fn : Fun K x q st f fd) (S : FnScope N ps (defScope st)) (hno : noS (N.length - ps.length) = nos)
    (hb : ∀ (cd : Value) (A : Around) (out : List Env) (s : Shared) (H : Hp) (E : XK), A.guards = some [] → Room k (A.deeper (envOfC q (defScope st) s.heap.objs.size f cd)) → ∀ ss Φ Ψ, C ss Φ Ψ → ss.length = ps.length →
      ∃ t, PSs (cxOf cx pg w K mg bs N q (defScope st) f cd A out s H E) (defBody st) t ∧ DS K cp ⟨E, Ψ, H⟩ t (ss ++ nos) (Φ (.d .non)) Φ (fun _ => False) fun _ => False) :
    FnG pg w K mg bs cx (k + 1) f fd ps (spX K cp ps.length C) := by
  subst hno
  refine Fun.okG Fn S (fun vs H Q E h => ?_) (fun cd A out s H vs Q E gd hr h => ?_)
  · obtain ⟨_, _, _, _, h, _⟩ := h; exact h
  · obtain ⟨F, ss, Φ, Ψ, hl, pr, tr, dj, tb, hc, kk, kx⟩ := h
    obtain ⟨t, ht, hd⟩ := hb cd A out s H E gd hr ss Φ Ψ hc (by rw [← Paired.len pr, hl])
    refine ⟨t, ht, ?_⟩
    exact body_ct hl pr tr dj tb kk kx hd
theorem okD {cx : CXT} {x q : Str} {st : Stmt} {f : Addr} {fd : FuncData} {N ps : List Str} {k : Nat} {C : Ct} {nos : List SV} (Fn : Fun K x q st f fd) (S : FnScope N ps (defScope st)) (hno : noS (N.length - ps.length) = nos)
    (hb : ∀ (cd : Value) (A : Around) (out : List Env) (s : Shared) (H : Hp) (E : XK), A.guards = some [] → Room k (A.deeper (envOfC q (defScope st) s.heap.objs.size f cd)) → ∀ ss Φ, C ss Φ → ss.length = ps.length →
      ∃ t, PSs (cxOf cx pg w K mg bs N q (defScope st) f cd A out s H E) (defBody st) t ∧ DS K cp XC.q t (ss ++ nos) (Φ (.d .non)) Φ (fun _ => False) fun _ => False) :
    FnG pg w K mg bs cx (k + 1) f fd ps (spC K cp ps.length C) :=
  okX Fn S hno fun cd A out s H E gd hr ss Φ Ψ hc hl => let ⟨t, ht, hd⟩ := hb cd A out s H E gd hr ss Φ hc hl; ⟨t, ht, fun F A H0 H σ e _ => hd F A H0 H σ e fun _ => xq⟩
end

/-! ### the machine's own words -/
section
variable {K : PySem.W.Frag} {cp : Cb} {X : XC} {ψ : AV → Prop}
theorem dt_int {G : Addr → Prop} {H : Hp} {v : V} {i : Int} (h : Dt K cp G H v (.int i)) : v = .int i := by
  rcases h with h | ⟨a, _, u, _, h⟩
  · exact dv_int h
  · cases h
theorem dt_str {G : Addr → Prop} {H : Hp} {v : V} {i : Str} (h : Dt K cp G H v (.str i)) : v = .str i := by
  rcases h with h | ⟨a, _, u, _, h⟩
  · exact dv_str h
  · cases h
theorem dt_bl {G : Addr → Prop} {H : Hp} {v : V} {i : Bool} (h : Dt K cp G H v (.bl i)) : v = .bl i := by
  rcases h with h | ⟨a, _, u, _, h⟩
  · exact dv_bl h
  · cases h
theorem dt_lst {G : Addr → Prop} {H : Hp} {v : V} {ds : List D} (h : Dt K cp G H v (.lst ds)) : ∃ a vs, v = .ref a ∧ H a = some (.lst vs) ∧ DvA K cp G H vs ds := by
  rcases h with h | ⟨a, rfl, u, h1, h⟩
  · cases h with | @lst a vs _ h1 n h2 => exact ⟨a, vs, rfl, h1, h2⟩
  · cases h with | lst h2 => exact ⟨a, _, rfl, h1, h2⟩
theorem dt_tup {G : Addr → Prop} {H : Hp} {v : V} {ds : List D} (h : Dt K cp G H v (.tup ds)) : ∃ a vs, v = .ref a ∧ SqT K H a vs ∧ DvA K cp G H vs ds := by
  rcases h with h | ⟨a, _, u, _, h⟩
  · cases h with
    | @tup a vs _ h1 n h2 => exact ⟨a, vs, rfl, .inl (.inl h1), h2⟩
    | @kt a vs _ h1 h2 => exact ⟨a, vs, rfl, h1 H, h2⟩
  · cases h
/-- a list or a tuple -/
def seqD : D → Option (List D)
  | .lst ds => some ds
  | .tup ds => some ds
  | _ => none
theorem dt_seq {G : Addr → Prop} {H : Hp} {v : V} {d : D} {ds : List D} (h : Dt K cp G H v d) (e : seqD d = some ds) : ∃ a vs, v = .ref a ∧ (SqL K H a vs ∨ SqT K H a vs) ∧ DvA K cp G H vs ds := by
  cases d with
  | lst xs => cases e; obtain ⟨a, vs, e1, r, dv⟩ := dt_lst h; exact ⟨a, vs, e1, .inl (.inl (.inl r)), dv⟩
  | tup xs => cases e; obtain ⟨a, vs, e1, r, dv⟩ := dt_tup h; exact ⟨a, vs, e1, .inr r, dv⟩
  | _ => cases e
theorem rx_flat {G : Addr → Prop} {H : Hp} {v : V} {d : D} (h : Fla v d) : Rx K cp G H v (.d d) H := ⟨Ex.rfl' H, h.dv⟩
theorem r2_int {g : Int → Int → V} {i j : Int} {d : D} (h : Fla (g i j) d) (q : ψ (.d d)) : R2d K cp (rI0 g) (.int i) (.int j) ψ := fun G H u v Q hu hv k =>
  ⟨i, j, dt_int hu, dt_int hv, k _ (.d d) H (rx_flat h) q⟩
theorem r2_intC {C : Int → Int → Prop} {g : Int → Int → V} {i j : Int} {d : D} (c : C i j) (h : Fla (g i j) d) (q : ψ (.d d)) : R2d K cp (rI C g) (.int i) (.int j) ψ := fun G H u v Q hu hv k =>
  ⟨i, j, dt_int hu, dt_int hv, c, k _ (.d d) H (rx_flat h) q⟩
/-- == of numbers, truths, texts, None -/
def flatD : D → Option V
  | .non => some .non
  | .bl b => some (.bl b)
  | .int i => some (.int i)
  | .str x => some (.str x)
  | _ => none
theorem dt_flat {G : Addr → Prop} {H : Hp} {v u : V} {d : D} (h : Dt K cp G H v d) (e : flatD d = some u) : v = u := by
  rcases h with h | ⟨a, _, u, _, h⟩
  · cases d <;> first | (cases e; cases h; rfl) | cases e
  · cases h <;> cases e
theorem r2_eq {x y : D} {u v : V} (hx : flatD x = some u) (hy : flatD y = some v) (hs : scal u v = true) (q : ψ (.d (.bl (decide (u = v))))) : R2d K cp rEq x y ψ := fun G H a b Q ha hb k => by
  rw [dt_flat ha hx, dt_flat hb hy]
  exact ⟨hs, k _ (.d (.bl (decide (u = v)))) H (rx_flat (.bl _)) q⟩
theorem r2_ne {x y : D} {u v : V} (hx : flatD x = some u) (hy : flatD y = some v) (hs : scal u v = true) (q : ψ (.d (.bl (!decide (u = v))))) : R2d K cp rNe x y ψ := fun G H a b Q ha hb k => by
  rw [dt_flat ha hx, dt_flat hb hy]
  exact ⟨hs, k _ (.d (.bl (!decide (u = v)))) H (rx_flat (.bl _)) q⟩
/-- l[i], t[i] -/
theorem r2_ixT {xs : List D} {i : Int} {d : D} (h : atI xs i = some d) (q : ψ (.d d)) : R2d K cp (rIxT K) (.tup xs) (.int i) ψ := fun G H a b Q ha hb k => by
  obtain ⟨p, vs, rfl, r, dv⟩ := dt_tup ha
  obtain ⟨j, hj, hd⟩ : ∃ j : Nat, ixN xs.length i = some j ∧ xs[j]? = some d := by
    unfold atI at h
    cases e : ixN xs.length i with
    | none => rw [e] at h; cases h
    | some j => rw [e] at h; exact ⟨j, rfl, h⟩
  obtain ⟨v, hv, dd⟩ := dv.get hd
  exact ⟨p, vs, i, v, rfl, dt_int hb, r, (by unfold atI; rw [dv.len, hj]; exact hv), k v (.d d) H ⟨Ex.rfl' H, dd⟩ q⟩
end
end DD
set_option maxHeartbeats 1000000
namespace DD
open PySem PySem.Spec PyProof.Rows L2 GL
section
variable {K : PySem.W.Frag} {cp : Cb} {X : XC} {ψ : AV → Prop} {G : Addr → Prop} {H H' : Hp} {v : V} {ρ : List SV} {Φ : AV → List SV → Prop}
theorem rx_id {d : D} (h : Dv K cp G H v d) : Rx K cp G H v (.d d) H := ⟨Ex.rfl' H, h⟩
theorem rx_new {p : Addr} {vs : List V} {ds : List D} (hp : H p = none) (h : DvA K cp G H vs ds) : Rx K cp G H (.ref p) (.n (.lst ds)) (upd H p (.lst vs)) :=
  ⟨p, rfl, hp, Ex.nw hp, _, upd_same, .lst (DvA.mv ((Mv.nw hp).tr (Mv.ex (Ex.nw hp))) _ _ h)⟩
/-- a new tuple: what stands at p is nobody's own -/
theorem rx_tup {p : Addr} {vs : List V} {ds : List D} (hp : H p = none) (tr : ¬ G p) (h : DvA K cp G H vs ds) : Rx K cp G H (.ref p) (.d (.tup ds)) (upd H p (.tup vs)) :=
  ⟨Ex.nw hp, .tup upd_same tr (DvA.mv (Mv.ex (Ex.nw hp)) _ _ h)⟩
theorem atI_dv {xs : List D} {vs : List V} {i : Int} {d : D} (dv : DvA K cp G H vs xs) (h : atI xs i = some d) : ∃ v, atI vs i = some v ∧ Dv K cp G H v d := by
  unfold atI at h ⊢
  rw [dv.len]
  cases e : ixN xs.length i with
  | none => rw [e] at h; cases h
  | some j => rw [e] at h; exact dv.get h
theorem r2_ixL {xs : List D} {i : Int} {d : D} (h : atI xs i = some d) (q : ψ (.d d)) : R2d K cp (rIxL K) (.lst xs) (.int i) ψ := fun G H a b Q ha hb k => by
  obtain ⟨p, vs, rfl, r, dv⟩ := dt_lst ha
  obtain ⟨v, hv, dd⟩ := atI_dv dv h
  exact ⟨p, vs, i, v, rfl, dt_int hb, .inl (.inl r), hv, k v (.d d) H (rx_id dd) q⟩
theorem r2_ix {x : D} {xs : List D} {i : Int} {d : D} (hx : seqD x = some xs) (h : atI xs i = some d) (q : ψ (.d d)) : R2d K cp (rIx K) x (.int i) ψ := fun G H a b Q ha hb k => by
  obtain ⟨p, vs, rfl, r, dv⟩ := dt_seq ha hx
  obtain ⟨v, hv, dd⟩ := atI_dv dv h
  rcases r with r | r
  · exact .inl ⟨p, vs, i, v, rfl, dt_int hb, r, hv, k v (.d d) H (rx_id dd) q⟩
  · exact .inr (.inl ⟨p, vs, i, v, rfl, dt_int hb, r, hv, k v (.d d) H (rx_id dd) q⟩)
/-- a list and a list, in one new one -/
theorem r2_cat {xs ys : List D} (hl : xs.length + ys.length ≤ sizeLine) (q : ψ (.n (.lst (xs ++ ys)))) : R2d K cp rCat (.lst xs) (.lst ys) ψ := fun G H a b Q ha hb k => by
  obtain ⟨p, vs, rfl, r, dv⟩ := dt_lst ha
  obtain ⟨p2, vs2, rfl, r2, dv2⟩ := dt_lst hb
  exact ⟨p, p2, vs, vs2, rfl, rfl, r, r2, by rw [dv.len, dv2.len]; exact hl, fun p hp => k _ (.n (.lst (xs ++ ys))) _ (rx_new hp (dv.app dv2)) q⟩
/-- what is told of tuples wants that a new one is nobody's own -/
def R2t (K : PySem.W.Frag) (cp : Cb) (r : R2) (x y : D) (ψ : AV → Prop) : Prop :=
  ∀ G H u v (Q : VK), Trk G H → Dt K cp G H u x → Dt K cp G H v y → (∀ w a H', Rx K cp G H w a H' → ψ a → Q w H') → r u v H Q
theorem Trk.no (t : Trk G H) {p : Addr} (h : H p = none) : ¬ G p := fun g => by obtain ⟨o, q⟩ := t p g; rw [h] at q; cases q
theorem dt_tupv {ds : List D} (h : Dt K cp G H v (.tup ds)) : Dv K cp G H v (.tup ds) := by
  rcases h with h | ⟨a, _, u, _, h⟩
  · exact h
  · cases h
theorem r2_catT {xs ys : List D} (hl : xs.length + ys.length ≤ sizeLine) (q : ψ (.d (.tup (xs ++ ys)))) : R2t K cp (rCatA K) (.tup xs) (.tup ys) ψ := fun G H a b Q tr ha hb k => by
  have fa := dt_tupv ha
  have fb := dt_tupv hb
  obtain ⟨p, vs, rfl, r, dv⟩ := dt_tup ha
  obtain ⟨p2, vs2, rfl, r2, dv2⟩ := dt_tup hb
  refine ⟨p, p2, vs, vs2, rfl, rfl, r, r2, by rw [dv.len, dv2.len]; exact hl, fun e => ?_, fun e e2 => ?_, fun _ _ p hp => k _ (.d (.tup (xs ++ ys))) _ (rx_tup hp (tr.no hp) (dv.app dv2)) q⟩
  · subst e; cases dv; exact k _ (.d (.tup ys)) H (rx_id fb) q
  · subst e2; cases dv2; rw [List.append_nil] at q; exact k _ (.d (.tup xs)) H (rx_id fa) q
theorem DE.opT {r : R2} {ta tb : TE} (h : DEo K cp X ta ρ fun x ρ1 => DEo K cp X tb ρ1 fun y ρ2 => ∃ d e, x.at ρ2 = some d ∧ y.at ρ2 = some e ∧ R2t K cp r d e fun a => Φ a ρ2) :
    DE K cp X (tOp r ta tb) ρ Φ := fun F A H0 H σ e hx Q k =>
  h.go e hx fun v x ρ1 H1 e1 m1 o1 h1 => h1.go e1 hx fun w y ρ2 H2 e2 m2 o2 ⟨d, d', ex, ey, rd⟩ =>
    rd _ _ _ _ _ e2.trk ((o1.mv m2).dt e2 ex) (o2.dt e2 ey) fun u a H3 x3 φ => k u a ρ2 H3 ((x3.res e2).tr (m1.tr m2)) φ
/-- list * int -/
theorem r2_rep {xs : List D} {n : Int} (h0 : -(2 ^ 63) ≤ n) (h1 : n < 2 ^ 63) (hl : xs.length * n.toNat ≤ sizeLine) (q : ψ (.n (.lst (List.replicate n.toNat xs).flatten))) : R2d K cp rRep (.lst xs) (.int n) ψ := fun G H a b Q ha hb k => by
  obtain ⟨p, vs, rfl, r, dv⟩ := dt_lst ha
  have dr : ∀ m : Nat, DvA K cp G H (List.replicate m vs).flatten (List.replicate m xs).flatten := by
    intro m
    induction m with
    | zero => exact .nil
    | succ m ih => rw [List.replicate_succ, List.replicate_succ, List.flatten_cons, List.flatten_cons]; exact dv.app ih
  refine ⟨p, n, vs, rfl, dt_int hb, r, h0, h1, by rw [dv.len]; exact hl, ?_⟩
  intro p hp
  have := k _ (.n (.lst (List.replicate n.toNat xs).flatten)) _ (rx_new hp (dr n.toNat)) q
  simpa using this
/-- x in a list or tuple of plain items -/
def flatL : List D → Option (List V)
  | [] => some []
  | d :: ds => match flatD d, flatL ds with
    | some v, some vs => some (v :: vs)
    | _, _ => none
theorem dva_flat : ∀ {vs us : List V} {ds : List D}, DvA K cp G H vs ds → flatL ds = some us → vs = us
  | [], _, [], _, h => by cases h; rfl
  | v :: vs, us, d :: ds, .cons a b, h => by
    simp only [flatL] at h
    split at h
    · rename_i u us' h1 h2
      cases h
      rw [dt_flat (.inl a) h1, dva_flat b h2]
    · cases h
theorem flatV_of {d : D} {u : V} (h : flatD d = some u) : flatV u = true := by cases d <;> cases h <;> rfl
theorem flatV_all : ∀ {ds : List D} {us : List V}, flatL ds = some us → us.all flatV = true
  | [], us, h => by cases h; rfl
  | d :: ds, us, h => by
    simp only [flatL] at h
    split at h
    · rename_i u us' h1 h2
      cases h
      rw [List.all_cons, flatV_of h1, flatV_all h2]; rfl
    · cases h
theorem r2_in {neg : Bool} {x y : D} {ys : List D} {u : V} {us : List V} (hx : flatD x = some u) (hy : seqD y = some ys) (hu : flatL ys = some us) (q : ψ (.d (.bl (if neg then !inV u us else inV u us)))) : R2d K cp (rIn K neg) x y ψ := fun G H a b Q ha hb k => by
  obtain ⟨p, vs, rfl, r, dv⟩ := dt_seq hb hy
  rw [dt_flat ha hx]
  have e := dva_flat dv hu
  subst e
  exact ⟨p, _, rfl, r, flatV_of hx, flatV_all hu, k _ (.d (.bl _)) H (rx_flat (.bl _)) q⟩
/-- is None -/
theorem r2_isN {x : D} {b : Bool} (hb : match x with | .non => b = true | _ => b = false) (q : ψ (.d (.bl b))) : R2d K cp (fun x y H Q => y = V.non ∧ Q (.bl (decide (x = V.non))) H) x .non ψ := fun G H u w Q hu hw k => by
  refine ⟨dt_flat hw rfl, k _ (.d (.bl b)) H ?_ q⟩
  have : decide (u = V.non) = b := by
    rcases hu with hu | ⟨a, rfl, u, _, hu⟩
    · cases hu <;> simp_all
    · cases hu <;> simp_all
  rw [this]
  exact rx_flat (.bl b)
theorem r2_notN {x : D} {b : Bool} (hb : match x with | .non => b = false | _ => b = true) (q : ψ (.d (.bl b))) : R2d K cp (fun x y H Q => y = V.non ∧ Q (.bl (!decide (x = V.non))) H) x .non ψ := fun G H u w Q hu hw k => by
  refine ⟨dt_flat hw rfl, k _ (.d (.bl b)) H ?_ q⟩
  have : (!decide (u = V.non)) = b := by
    rcases hu with hu | ⟨a, rfl, u, _, hu⟩
    · cases hu <;> simp_all
    · cases hu <;> simp_all
  rw [this]
  exact rx_flat (.bl b)
/-! ### built-ins -/
theorem dta1 {us : List V} {d : D} (h : DtA K cp G H us [d]) : ∃ u, us = [u] ∧ Dt K cp G H u d := by
  cases h with | cons a b => cases b; exact ⟨_, rfl, a⟩
theorem dta2 {us : List V} {d e : D} (h : DtA K cp G H us [d, e]) : ∃ u w, us = [u, w] ∧ Dt K cp G H u d ∧ Dt K cp G H w e := by
  cases h with | cons a b => cases b with | cons b c => cases c; exact ⟨_, _, rfl, a, b⟩
theorem rl_len {x : D} {xs : List D} (hx : seqD x = some xs) (q : ψ (.d (.int xs.length))) : RLd K cp (fun zs H Q => ∃ p ys, zs = [V.ref p] ∧ (SqL K H p ys ∨ SqT K H p ys) ∧ Q (V.int ↑(List.length ys)) H) [x] ψ := fun G H us Q h k => by
  obtain ⟨u, rfl, hu⟩ := dta1 h
  obtain ⟨p, vs, rfl, r, dv⟩ := dt_seq hu hx
  exact ⟨p, vs, rfl, r, by rw [dv.len]; exact k _ (.d (.int xs.length)) H (rx_flat (.int _)) q⟩
theorem rl_lenV {x : D} {n : Nat} (hx : match x with | .str y => y.length ≤ sizeLine ∧ n = y.length | d => (seqD d).map List.length = some n) (q : ψ (.d (.int n))) : RLd K cp (fun zs H Q => ∃ x n, zs = [x] ∧ LenV K x H n ∧ Q (V.int ↑n) H) [x] ψ := fun G H us Q h k => by
  obtain ⟨u, rfl, hu⟩ := dta1 h
  refine ⟨u, n, rfl, ?_, k _ (.d (.int n)) H (rx_flat (.int _)) q⟩
  cases x with
  | str y => rw [dt_str hu]; exact hx
  | lst xs => obtain ⟨p, vs, rfl, r, dv⟩ := dt_lst hu; cases hx; exact .inl ⟨vs, .inl (.inl r), dv.len.symm⟩
  | tup xs => obtain ⟨p, vs, rfl, r, dv⟩ := dt_tup hu; cases hx; exact .inr ⟨vs, r, dv.len.symm⟩
  | _ => cases hx
theorem ints_of : ∀ {ns : List Int} {vs : List V}, DvA K cp G H vs (ns.map D.int) → vs = ns.map V.int
  | [], [], _ => rfl
  | n :: ns, v :: vs, .cons a b => by rw [dv_int a, ints_of b]; rfl
theorem bls_of : ∀ {ns : List Bool} {vs : List V}, DvA K cp G H vs (ns.map D.bl) → vs = ns.map V.bl
  | [], [], _ => rfl
  | n :: ns, v :: vs, .cons a b => by rw [dv_bl a, bls_of b]; rfl
theorem strs_of : ∀ {ns : List Str} {vs : List V}, DvA K cp G H vs (ns.map D.str) → vs = ns.map V.str
  | [], [], _ => rfl
  | n :: ns, v :: vs, .cons a b => by rw [dv_str a, strs_of b]; rfl
theorem ints_dva : ∀ ns : List Int, DvA K cp G H (ns.map V.int) (ns.map D.int)
  | [] => .nil
  | n :: ns => .cons (.int n) (ints_dva ns)
theorem rl_sum {ns : List Int} (q : ψ (.d (.int ns.sum))) : RLd K cp (rSum K) [.lst (ns.map D.int)] ψ := fun G H us Q h k => by
  obtain ⟨u, rfl, hu⟩ := dta1 h
  obtain ⟨p, vs, rfl, r, dv⟩ := dt_lst hu
  rw [ints_of dv] at r
  exact ⟨p, ns, rfl, .inl (.inl r), k _ (.d (.int ns.sum)) H (rx_flat (.int _)) q⟩
theorem rl_all {ns : List Bool} (q : ψ (.d (.bl (ns.all id)))) : RLd K cp (rAll K) [.lst (ns.map D.bl)] ψ := fun G H us Q h k => by
  obtain ⟨u, rfl, hu⟩ := dta1 h
  obtain ⟨p, vs, rfl, r, dv⟩ := dt_lst hu
  rw [bls_of dv] at r
  exact ⟨p, ns, rfl, .inl (.inl r), k _ (.d (.bl (ns.all id))) H (rx_flat (.bl _)) q⟩
theorem rl_any {ns : List Bool} (q : ψ (.d (.bl (ns.any id)))) : RLd K cp (rAny K) [.lst (ns.map D.bl)] ψ := fun G H us Q h k => by
  obtain ⟨u, rfl, hu⟩ := dta1 h
  obtain ⟨p, vs, rfl, r, dv⟩ := dt_lst hu
  rw [bls_of dv] at r
  exact ⟨p, ns, rfl, .inl (.inl r), k _ (.d (.bl (ns.any id))) H (rx_flat (.bl _)) q⟩
theorem rl_min {ns : List Int} (h0 : 0 < ns.length) (q : ∀ m, m ∈ ns → (∀ y, y ∈ ns → m ≤ y) → ψ (.d (.int m))) : RLd K cp (rMin K) [.lst (ns.map D.int)] ψ := fun G H us Q h k => by
  obtain ⟨u, rfl, hu⟩ := dta1 h
  obtain ⟨p, vs, rfl, r, dv⟩ := dt_lst hu
  rw [ints_of dv] at r
  exact ⟨p, ns, rfl, .inl (.inl r), h0, fun m m1 m2 => k _ (.d (.int m)) H (rx_flat (.int _)) (q m m1 m2)⟩
theorem rl_max {ns : List Int} (h0 : 0 < ns.length) (q : ∀ m, m ∈ ns → (∀ y, y ∈ ns → y ≤ m) → ψ (.d (.int m))) : RLd K cp (rMax K) [.lst (ns.map D.int)] ψ := fun G H us Q h k => by
  obtain ⟨u, rfl, hu⟩ := dta1 h
  obtain ⟨p, vs, rfl, r, dv⟩ := dt_lst hu
  rw [ints_of dv] at r
  exact ⟨p, ns, rfl, .inl (.inl r), h0, fun m m1 m2 => k _ (.d (.int m)) H (rx_flat (.int _)) (q m m1 m2)⟩
theorem rl_min2 {i j : Int} (q : ψ (.d (.int (if j < i then j else i)))) : RLd K cp (fun xs H Q => ∃ i j, xs = [V.int i, V.int j] ∧ Q (V.int (if j < i then j else i)) H) [.int i, .int j] ψ := fun G H us Q h k => by
  obtain ⟨u, w, rfl, hu, hw⟩ := dta2 h
  exact ⟨i, j, by rw [dt_int hu, dt_int hw], k _ (.d (.int _)) H (rx_flat (.int _)) q⟩
theorem rl_max2 {i j : Int} (q : ψ (.d (.int (if i < j then j else i)))) : RLd K cp (fun xs H Q => ∃ i j, xs = [V.int i, V.int j] ∧ Q (V.int (if i < j then j else i)) H) [.int i, .int j] ψ := fun G H us Q h k => by
  obtain ⟨u, w, rfl, hu, hw⟩ := dta2 h
  exact ⟨i, j, by rw [dt_int hu, dt_int hw], k _ (.d (.int _)) H (rx_flat (.int _)) q⟩
def intOf : D → Option Int
  | .int i => some i
  | .bl b => some (if b = true then 1 else 0)
  | _ => none
theorem rl_int {x : D} {i : Int} (hx : intOf x = some i) (q : ψ (.d (.int i))) : RLd K cp (fun xs H Q => (∃ i, xs = [V.int i] ∧ Q (V.int i) H) ∨ ∃ k, xs = [V.bl k] ∧ Q (V.int (if k = true then 1 else 0)) H) [x] ψ := fun G H us Q h k => by
  obtain ⟨u, rfl, hu⟩ := dta1 h
  cases x with
  | int j => cases hx; exact .inl ⟨_, by rw [dt_int hu], k _ (.d (.int _)) H (rx_flat (.int _)) q⟩
  | bl b => cases hx; exact .inr ⟨_, by rw [dt_bl hu], k _ (.d (.int _)) H (rx_flat (.int _)) q⟩
  | _ => cases hx
theorem rl_str {i : Int} (hi : Nat.log2 (Int.natAbs i) < 1920) (q : ψ (.d (.str (Str.ofString (toString i))))) : RLd K cp (fun xs H Q => ∃ i, xs = [V.int i] ∧ Nat.log2 (Int.natAbs i) < 1920 ∧ Q (V.str (Str.ofString (toString i))) H) [.int i] ψ := fun G H us Q h k => by
  obtain ⟨u, rfl, hu⟩ := dta1 h
  exact ⟨i, by rw [dt_int hu], hi, k _ (.d (.str _)) H (rx_flat (.str _)) q⟩
theorem rl_list {x : D} {xs : List D} (hx : seqD x = some xs) (q : ψ (.n (.lst xs))) : RLd K cp (fun zs H Q => ∃ p ys, zs = [V.ref p] ∧ (SqL K H p ys ∨ SqT K H p ys) ∧ ∀ (l : Addr), H l = none → Q (V.ref l) (upd H l (HO.lst ys))) [x] ψ := fun G H us Q h k => by
  obtain ⟨u, rfl, hu⟩ := dta1 h
  obtain ⟨p, vs, rfl, r, dv⟩ := dt_seq hu hx
  exact ⟨p, vs, rfl, r, fun l hl => k _ (.n (.lst xs)) _ (rx_new hl dv) q⟩
def RLt (K : PySem.W.Frag) (cp : Cb) (r : List V → Hp → VK → Prop) (xs : List D) (ψ : AV → Prop) : Prop :=
  ∀ G H us (Q : VK), Trk G H → DtA K cp G H us xs → (∀ w a H', Rx K cp G H w a H' → ψ a → Q w H') → r us H Q
theorem DE.cbT {r : List V → Hp → VK → Prop} {ta : TA} (h : DAo K cp X ta ρ fun ps ρ1 => ∃ ds, ats ρ1 ps = some ds ∧ RLt K cp r ds fun a => Φ a ρ1) : DE K cp X (tCB r ta) ρ Φ := fun F A H0 H σ e hx Q k =>
  h F A H0 H σ e hx _ fun vs ps ρ1 H1 e1 m1 o1 ⟨ds, hd, rd⟩ => rd _ _ _ _ e1.trk (ats_ok e1 o1 hd) fun u a H2 x2 φ => k u a ρ1 H2 ((x2.res e1).tr m1) φ
theorem rl_tuple {x : D} {xs : List D} (hx : seqD x = some xs) (q : ψ (.d (.tup xs))) : RLt K cp (fun zs H Q => ∃ p ys, zs = [V.ref p] ∧ ((SqL K H p ys ∧ ∀ (l : Addr), H l = none → Q (V.ref l) (upd H l (HO.tup ys))) ∨ SqT K H p ys ∧ Q (V.ref p) H)) [x] ψ := fun G H us Q tr h k => by
  obtain ⟨u, rfl, hu⟩ := dta1 h
  cases x with
  | lst ds =>
    cases hx
    obtain ⟨p, vs, rfl, r, dv⟩ := dt_lst hu
    exact ⟨p, vs, rfl, .inl ⟨.inl (.inl r), fun l hl => k _ (.d (.tup _)) _ (rx_tup hl (tr.no hl) dv) q⟩⟩
  | tup ds =>
    cases hx
    have f := dt_tupv hu
    obtain ⟨p, vs, rfl, r, dv⟩ := dt_tup hu
    exact ⟨p, vs, rfl, .inr ⟨r, k _ (.d (.tup _)) H (rx_id f) q⟩⟩
  | _ => cases hx
theorem rl_sorted {ns : List Int} (q : ∀ ns' : List Int, ns'.Perm ns → ns'.Pairwise (· ≤ ·) → ψ (.n (.lst (ns'.map D.int)))) : RLd K cp (rSortedI K) [.lst (ns.map D.int)] ψ := fun G H us Q h k => by
  obtain ⟨u, rfl, hu⟩ := dta1 h
  obtain ⟨p, vs, rfl, r, dv⟩ := dt_lst hu
  rw [ints_of dv] at r
  exact ⟨p, ns, rfl, .inl (.inl r), fun ns' l h1 h2 hl => k _ (.n (.lst (ns'.map D.int))) _ (rx_new hl (ints_dva ns')) (q ns' h1 h2)⟩
/-! ### types -/
def tyD : D → String
  | .non => "NoneType" | .bl _ => "bool" | .int _ => "int" | .str _ => "str" | .lst _ => "list" | .tup _ => "tuple" | .dk _ _ => "dict" | .ob _ _ _ => ""
theorem ty_dv {d : D} (h : Dt K cp G H v d) (n : ∀ c ns ds, d ≠ .ob c ns ds) (kt : ∀ (a : Addr) (vs : List V), (∀ H', SqT K H' a vs) → ∃ o, K.lookup a = some o ∧ o.cls = .type "tuple") : TyX K H v (.type (tyD d)) := by
  rcases h with h | ⟨a, rfl, u, h1, h⟩
  · cases h with
    | non => exact .base .non
    | bl b => exact .base (.bl b)
    | int i => exact .base (.int i)
    | str z => exact .base (.str z)
    | lst e _ _ => exact .base (.lst e)
    | tup e _ _ => exact .base (.tup e)
    | kt e _ => obtain ⟨o, h1, h2⟩ := kt _ _ e; exact .kTuple h1 h2
    | dk e _ _ _ =>
      rcases e with e | ⟨o, e⟩
      · exact .base (.dK e)
      · exact .fDict e
    | ob _ _ _ _ => exact absurd rfl (n _ _ _)
  · cases h with
    | lst _ => exact .base (.lst h1)
    | dk _ _ => exact .base (.dK h1)
    | ob _ _ => exact absurd rfl (n _ _ _)
theorem kt_cls {a : Addr} {vs : List V} (h : ∀ H', SqT K H' a vs) : ∃ o, K.lookup a = some o ∧ o.cls = .type "tuple" := by
  rcases h (fun _ => none) with r | ⟨o, us, n, h1, h2, _⟩
  · rcases r with r | ⟨_, r⟩ <;> cases r
  · exact ⟨_, h1, h2⟩
theorem kinds_ty {d : D} (n : ∀ c ns ds, d ≠ .ob c ns ds) : tyD d ∈ kinds := by
  cases d with
  | ob c ns ds => exact absurd rfl (n c ns ds)
  | _ => simp [tyD, kinds]
/-- isinstance(x, C) -/
theorem rl_isi {x : D} {c : String} {b : Bool} (nx : ∀ c ns ds, x ≠ .ob c ns ds) (hc : c ∈ ["int", "bool", "str", "list", "tuple", "dict"]) (hb : isT (tyD x) c = b) (q : ψ (.d (.bl b))) {te : TE} (hte : DEo K cp X te ρ fun p ρ1 => p.at ρ1 = some x ∧ Φ (.d (.bl b)) ρ1) :
    DE K cp X (tCB (rIsi K) (tCons te (tCons (tC (.ty c)) tNil))) ρ Φ := fun F A H0 H σ e hx Q k =>
  hte.go e hx fun v p ρ1 H1 e1 m1 o1 ⟨hp, φ⟩ => by
    refine ⟨v, .ty c, _, _, b, rfl, .ty c, ty_dv (o1.dt e1 hp) nx fun a vs h => kt_cls h, ?_, k _ (.d (.bl b)) ρ1 H1 ⟨e1, m1, .bl b⟩ φ⟩
    rw [← hb]
    exact kit_ty (kit_all _ (kinds_ty nx) c hc)
theorem DE.isi {x : D} {c : String} (hc : c ∈ ["int", "bool", "str", "list", "tuple", "dict"]) (nx : ∀ c ns ds, x ≠ .ob c ns ds) {te : TE} (hte : DEo K cp X te ρ fun p ρ1 => p.at ρ1 = some x ∧ Φ (.d (.bl (isT (tyD x) c))) ρ1) :
    DE K cp X (tCB (rIsi K) (tCons te (tCons (tC (.ty c)) tNil))) ρ Φ := rl_isi (ψ := fun _ => True) nx hc rfl trivial hte
/-- isinstance(x, (C, D)) -/
theorem DE.isi2 {x : D} {c d : String} (hc : c ∈ ["int", "bool", "str", "list", "tuple", "dict"]) (hd : d ∈ ["int", "bool", "str", "list", "tuple", "dict"]) (nx : ∀ c ns ds, x ≠ .ob c ns ds) {te : TE} (hte : DEo K cp X te ρ fun p ρ1 => p.at ρ1 = some x ∧ Φ (.d (.bl (isT (tyD x) c || isT (tyD x) d))) ρ1) :
    DE K cp X (tCB (rIsiT K) (tCons te (tCons (tTup (tCons (tC (.ty c)) (tCons (tC (.ty d)) tNil))) tNil))) ρ Φ := fun F A H0 H σ e hx Q k =>
  hte.go e hx fun v p ρ1 H1 e1 m1 o1 ⟨hp, φ⟩ => by
    refine ⟨(show 2 ≤ sizeLine by decide), fun t ht => ?_⟩
    have ex : Ex H1 (upd H1 t (.tup [.ty c, .ty d])) := Ex.nw ht
    refine ⟨v, t, [.ty c, .ty d], _, [.type c, .type d], isT (tyD x) c || isT (tyD x) d, rfl, upd_same, .cons (.ty c) (.cons (.ty d) .nil), ty_dv (OPv.dt (e1.ex ex) (o1.mv (Mv.ex ex)) hp) nx fun a vs h => kt_cls h, ?_, k _ (.d (.bl _)) ρ1 _ ⟨e1.ex ex, m1.tr (Mv.ex ex), .bl _⟩ φ⟩
    refine kitAny_cons (kit_ty (kit_all _ (kinds_ty nx) c hc)) (fun e => ?_) fun e => by rw [e]; rfl
    rw [e, Bool.false_or]
    refine kitAny_cons (kit_ty (kit_all _ (kinds_ty nx) d hd)) (fun e2 => ?_) fun e2 => e2
    rw [e2]; exact kitAny_nil
/-- x.bit_length() -/
theorem DE.bits {te : TE} (h : DEs K cp X te ρ fun d ρ1 => ∃ i : Int, d = .int i ∧ Φ (.d (.int (Builtin.Int.intBits i : Nat))) ρ1) : DE K cp X (tBits te) ρ Φ := fun F A H0 H σ e hx Q k =>
  h.go e hx fun v d ρ1 H1 e1 m1 dv ⟨i, hd, φ⟩ => by
    subst hd
    exact ⟨i, dv_int dv, k _ (.d (.int _)) ρ1 H1 ⟨e1, m1, .int _⟩ φ⟩
/-- x.f -/
def lookD (f : Str) : List Str → List D → Option D
  | n :: ns, d :: ds => if f == n then some d else lookD f ns ds
  | _, _ => none
theorem look_dva : ∀ {fs : List (Str × V)} {ds : List D} {f : Str} {d : D}, DvA K cp G H (fs.map (·.2)) ds → lookD f (fs.map (·.1)) ds = some d → ∃ v, fs.lookup f = some v ∧ Dv K cp G H v d
  | [], ds, f, d, _, h => by cases ds <;> cases h
  | (n, v) :: fs, d0 :: ds, f, d, .cons a b, h => by
    simp only [List.map_cons, lookD] at h
    simp only [List.lookup]
    cases e : f == n with
    | true => rw [e] at h; cases h; exact ⟨v, rfl, a⟩
    | false => rw [e] at h; exact look_dva (fs := fs) b h
theorem DE.fld {te : TE} {f : Str} (h : DEs K cp X te ρ fun d ρ1 => ∃ c ns ds x, d = .ob c ns ds ∧ Cls K (cp.c c) ∧ NoAttr K (cp.c c) f ∧ lookD f ns ds = some x ∧ Φ (.d x) ρ1) : DE K cp X (tFld K te f) ρ Φ := fun F A H0 H σ e hx Q k =>
  h.go e hx fun v d ρ1 H1 e1 m1 dv ⟨c, ns, ds, x, hd, hc, hn, hl, φ⟩ => by
    subst hd
    cases dv with
    | @ob a dx _ fs _ _ h1 n e2 h2 =>
      subst e2
      obtain ⟨w, hw, dw⟩ := look_dva h2 hl
      exact ⟨a, cp.c c, dx, fs, w, rfl, h1, hc, hn, hw, k _ (.d x) ρ1 H1 ⟨e1, m1, dw⟩ φ⟩
end
end DD
set_option maxHeartbeats 1000000
namespace DD
open PySem PySem.Spec PyProof.Rows L2 GL
section
variable {K : PySem.W.Frag} {cp : Cb} {X : XC} {ψ : AV → Prop} {F : Addr → Prop} {A : List (Nat × Addr)} {G : Addr → Prop} {H0 H H' H1 : Hp} {σ : L2.St} {v : V} {ρ ρ1 : List SV} {Φ : AV → List SV → Prop} {N : List SV → Prop} {R : AV → List SV → Prop} {B C : List SV → Prop}
theorem own_lst (e : En K cp F A H0 H σ ρ) {i : Nat} {b : Bool} {ds : List D} {a : Addr} (h : ρ[i]? = some (.ow b (.lst ds))) (ha : σ[i]? = some (some (.ref a))) : ∃ vs, H a = some (.lst vs) ∧ DvA K cp (Gv F σ ρ) H vs ds := by
  obtain ⟨a', q1, u, q2, q3⟩ := e.sl i _ h
  rw [ha] at q1; cases q1
  cases q3 with | lst q3 => exact ⟨_, q2, q3⟩
theorem own_dk (e : En K cp F A H0 H σ ρ) {i : Nat} {b : Bool} {ks : List Key} {ds : List D} {a : Addr} (h : ρ[i]? = some (.ow b (.dk ks ds))) (ha : σ[i]? = some (some (.ref a))) : ∃ kvs, H a = some (.dK kvs) ∧ kvs.map (·.1) = ks ∧ DvA K cp (Gv F σ ρ) H (kvs.map (·.2)) ds := by
  obtain ⟨a', q1, u, q2, q3⟩ := e.sl i _ h
  rw [ha] at q1; cases q1
  cases q3 with | dk q3 q4 => exact ⟨_, q2, q3, q4⟩
theorem own_ob (e : En K cp F A H0 H σ ρ) {i : Nat} {b : Bool} {c : Nat} {ns : List Str} {ds : List D} {a : Addr} (h : ρ[i]? = some (.ow b (.ob c ns ds))) (ha : σ[i]? = some (some (.ref a))) : ∃ dx fs, H a = some (.ins (cp.c c) dx fs) ∧ fs.map (·.1) = ns ∧ DvA K cp (Gv F σ ρ) H (fs.map (·.2)) ds := by
  obtain ⟨a', q1, u, q2, q3⟩ := e.sl i _ h
  rw [ha] at q1; cases q1
  cases q3 with | ob q3 q4 => exact ⟨_, _, q2, q3, q4⟩
/-- xs.append(e), xs a name's own list -/
theorem DE.append {i : Nat} {te : TE} (h : (∃ b ds, ρ[i]? = some (.ow b (.lst ds))) ∧ DEs K cp X te ρ fun y ρ2 => ∃ b ds, ρ2[i]? = some (.ow b (.lst ds)) ∧ ds.length < sizeLine ∧ Φ (.d .non) (ρ2.set i (.ow b (.lst (ds ++ [y]))))) :
    DE K cp X (tBM K "list" rAppend (tVar i) (tCons te tNil)) ρ Φ := fun F A H0 H σ e hx Q k => by
  obtain ⟨⟨b, ds, hb⟩, h⟩ := h
  obtain ⟨a, ha, _⟩ := e.sl i _ hb
  obtain ⟨vs, q1, q2⟩ := own_lst e hb ha
  refine ⟨_, ha, .inl ⟨rfl, vs, .inl (.inl q1)⟩, h.go e hx fun w y ρ2 H2 e2 m2 dy ⟨b, ds, hb, hl, φ⟩ => ?_⟩
  obtain ⟨vs, q1, q2⟩ := own_lst e2 hb ha
  obtain ⟨e3, m3⟩ := en_upd1 (o' := .lst (vs ++ [w])) e2 hb ha (.lst (q2.app (.cons dy .nil)))
  exact ⟨a, vs, w, rfl, rfl, q1, by rw [q2.len]; exact hl, k _ (.d .non) _ _ ⟨e3, m2.tr m3, .non⟩ φ⟩
/-- xs.extend(ys) -/
theorem DE.extend {i : Nat} {te : TE} (h : (∃ b ds, ρ[i]? = some (.ow b (.lst ds))) ∧ DEs K cp X te ρ fun y ρ2 => ∃ b ds es, y = .lst es ∧ ρ2[i]? = some (.ow b (.lst ds)) ∧ ds.length + es.length ≤ sizeLine ∧ Φ (.d .non) (ρ2.set i (.ow b (.lst (ds ++ es))))) :
    DE K cp X (tBM K "list" rExtend (tVar i) (tCons te tNil)) ρ Φ := fun F A H0 H σ e hx Q k => by
  obtain ⟨⟨b, ds, hb⟩, h⟩ := h
  obtain ⟨a, ha, _⟩ := e.sl i _ hb
  obtain ⟨vs, q1, q2⟩ := own_lst e hb ha
  refine ⟨_, ha, .inl ⟨rfl, vs, .inl (.inl q1)⟩, h.go e hx fun w y ρ2 H2 e2 m2 dy ⟨b, ds, es, hy, hb, hl, φ⟩ => ?_⟩
  subst hy
  obtain ⟨vs, q1, q2⟩ := own_lst e2 hb ha
  cases dy with
  | @lst a2 ws _ r1 r2 r3 =>
    obtain ⟨e3, m3⟩ := en_upd1 (o' := .lst (vs ++ ws)) e2 hb ha (.lst (q2.app r3))
    exact ⟨a, a2, vs, ws, rfl, rfl, q1, r1, by rw [q2.len, r3.len]; exact hl, k _ (.d .non) _ _ ⟨e3, m2.tr m3, .non⟩ φ⟩
/-- xs[n] = e -/
theorem DS.setL {i : Nat} {te ti : TE} (h : DEs K cp X te ρ fun y ρ1 => (∃ b c, ρ1[i]? = some (.ow b c)) ∧ DEs K cp X ti ρ1 fun z ρ2 => ∃ n b ds j, z = .int n ∧ ρ2[i]? = some (.ow b (.lst ds)) ∧ ixN ds.length n = some j ∧ N (ρ2.set i (.ow b (.lst (ds.set j y))))) :
    DS K cp X (tAsg te (gSub (tVar i) ti rSetL)) ρ N R B C := fun F A H0 H σ e hx Dd n r b c =>
  h.go e (hx _) fun v y ρ1 H1 e1 m1 dv ⟨⟨b, c, hb⟩, q⟩ => by
    obtain ⟨a, ha, _⟩ := e1.sl i _ hb
    refine ⟨_, ha, DEs.go (show DEs K cp X ti ρ1 _ from q) e1 (hx _) fun w z ρ2 H2 e2 m2 dz ⟨j, b, ds, t, hz, hb, hj, hn⟩ => ?_⟩
    subst hz
    obtain ⟨vs, q1, q2⟩ := own_lst e2 hb ha
    obtain ⟨e3, m3⟩ := en_upd1 (o' := .lst (vs.set t v)) e2 hb ha (.lst (q2.set (Dv.mv m2 _ _ dv) t))
    exact ⟨a, vs, j, t, rfl, dv_int dz, q1, by rw [q2.len]; exact hj, n _ _ _ e3 (m1.tr (m2.tr m3)) hn⟩
/-! ### dicts -/
def lookK : List Key → List D → Key → Option D
  | k0 :: ks, d :: ds, k => if k0 = k then some d else lookK ks ds k
  | _, _, _ => none
theorem lookK_ok : ∀ {kvs : List (Key × V)} {ds : List D} {k : Key}, DvA K cp G H (kvs.map (·.2)) ds → match lookK (kvs.map (·.1)) ds k with | some d => ∃ v, valV kvs k = some v ∧ Dv K cp G H v d | none => valV kvs k = none
  | [], ds, k, h => by cases ds <;> simp [lookK, valV]
  | (k0, v) :: kvs, [], k, h => by cases h
  | (k0, v) :: kvs, d :: ds, k, .cons a b => by
    have ih := lookK_ok (kvs := kvs) (k := k) b
    simp only [List.map_cons, lookK]
    by_cases e : k0 = k
    · rw [if_pos e]
      exact ⟨v, by simp [valV, e], a⟩
    · rw [if_neg e]
      have e2 : valV ((k0, v) :: kvs) k = valV kvs k := by simp [valV, e]
      rw [e2]
      exact ih
def putKs (ks : List Key) (k : Key) : List Key := if (ks.any fun x => decide (x = k)) = true then ks else ks ++ [k]
theorem any_key {ks : List Key} {k : Key} : (ks.any fun x => decide (x = k)) = true ↔ k ∈ ks := by
  rw [List.any_eq_true]
  exact ⟨fun ⟨x, hx, e⟩ => by rw [← of_decide_eq_true e]; exact hx, fun h => ⟨k, h, decide_eq_true rfl⟩⟩
def putDs : List Key → List D → Key → D → List D
  | k0 :: ks, d0 :: ds, k, d => if k0 = k then d :: ds else d0 :: putDs ks ds k d
  | _, _, _, d => [d]
/-- behind d[k] = v: one place a key -/
theorem put_ok {v : V} {d : D} (dv : Dv K cp G H v d) {kvs : List (Key × V)} {ds : List D} {k : Key} (hn : (kvs.map (·.1)).Nodup) (h : DvA K cp G H (kvs.map (·.2)) ds) :
    (putK kvs k v).map (·.1) = putKs (kvs.map (·.1)) k ∧ DvA K cp G H ((putK kvs k v).map (·.2)) (putDs (kvs.map (·.1)) ds k d) := by
  have hany : (kvs.any fun kv => decide (kv.1 = k)) = true ↔ k ∈ kvs.map (·.1) := by
    rw [List.any_eq_true]
    constructor
    · rintro ⟨p, hp, e⟩
      exact List.mem_map.mpr ⟨p, hp, of_decide_eq_true e⟩
    · intro h
      obtain ⟨p, hp, e⟩ := List.mem_map.mp h
      exact ⟨p, hp, decide_eq_true e⟩
  by_cases hm : k ∈ kvs.map (·.1)
  · have e1 : putK kvs k v = kvs.map (fun kv => if kv.1 = k then (kv.1, v) else kv) := by unfold putK; rw [if_pos (hany.mpr hm)]
    rw [e1]
    unfold putKs
    rw [if_pos (any_key.mpr hm)]
    refine ⟨?_, ?_⟩
    · rw [List.map_map]
      apply List.map_congr_left
      intro p _
      simp only [Function.comp]
      split <;> rfl
    · clear e1 hany
      induction kvs generalizing ds with
      | nil => simp at hm
      | cons p kvs ih =>
        obtain ⟨k0, v0⟩ := p
        cases h with
        | @cons _ _ d0 ds a b =>
          have hn' := List.nodup_cons.mp hn
          simp only [List.map_cons, putDs]
          by_cases e : k0 = k
          · subst e
            rw [if_pos rfl, if_pos rfl]
            refine .cons dv ?_
            have : ∀ p ∈ kvs, (if p.1 = k0 then (p.1, v) else p) = p := fun p hp => by
              rw [if_neg]
              intro z
              exact hn'.1 (by rw [← z]; exact List.mem_map.mpr ⟨p, hp, rfl⟩)
            rw [List.map_congr_left this, List.map_id']
            exact b
          · rw [if_neg e, if_neg e]
            exact .cons a (ih hn'.2 b (by
              rcases List.mem_cons.mp hm with h | h
              · exact absurd h.symm e
              · exact h))
  · have e1 : putK kvs k v = kvs ++ [(k, v)] := by
      unfold putK
      rw [if_neg (fun z => hm (hany.mp z))]
    rw [e1]
    unfold putKs
    rw [if_neg (fun z => hm (any_key.mp z))]
    refine ⟨by simp, ?_⟩
    clear e1 hany hn
    induction kvs generalizing ds with
    | nil => cases h; exact .cons dv .nil
    | cons p kvs ih =>
      obtain ⟨k0, v0⟩ := p
      cases h with
      | @cons _ _ d0 ds a b =>
        have e : k0 ≠ k := fun z => hm (by rw [z]; exact List.mem_cons_self)
        simp only [List.map_cons, putDs, List.cons_append]
        rw [if_neg e]
        exact .cons a (ih b fun z => hm (List.mem_cons_of_mem _ z))
theorem dt_dk {ks : List Key} {ds : List D} (h : Dt K cp G H v (.dk ks ds)) : ∃ a kvs, v = .ref a ∧ Rd H a (.dK kvs) ∧ kvs.map (·.1) = ks ∧ DvA K cp G H (kvs.map (·.2)) ds := by
  rcases h with h | ⟨a, rfl, u, h1, h⟩
  · cases h with | @dk a kvs _ _ h1 n e h2 => exact ⟨a, kvs, rfl, h1, e, h2⟩
  · cases h with | dk e h2 => exact ⟨a, _, rfl, .inl h1, e, h2⟩
/-- d.get(k, e) -/
def keyOf : D → Option Key
  | .int i => some (.inl i)
  | .str x => some (.inr x)
  | _ => none
theorem key_dv {k : Key} {d : D} (h : keyOf d = some k) (dv : Dv K cp G H v d) : v = kV k := by
  cases d <;> cases h <;> cases dv <;> rfl
theorem DE.get2 {td ty tx : TE} (h : DEo K cp X td ρ fun p ρ1 => (∃ ks ds, p.at ρ1 = some (.dk ks ds)) ∧ DEs K cp X ty ρ1 fun y ρ2 => DEs K cp X tx ρ2 fun z ρ3 => ∃ ks ds k, p.at ρ3 = some (.dk ks ds) ∧ keyOf y = some k ∧ Φ (.d ((lookK ks ds k).getD z)) ρ3) :
    DE K cp X (tDGet2 td ty tx) ρ Φ := fun F A H0 H σ e hx Q k =>
  h.go e hx fun v p ρ1 H1 e1 m1 o1 ⟨⟨ks, ds, hp⟩, q⟩ => by
    obtain ⟨a, kvs, rfl, r, _⟩ := dt_dk (o1.dt e1 hp)
    refine ⟨a, rfl, .inl ⟨kvs, r⟩, DEs.go (show DEs K cp X ty ρ1 _ from q) e1 hx fun w y ρ2 H2 e2 m2 dy q2 => DEs.go (show DEs K cp X tx ρ2 _ from q2) e2 hx fun u z ρ3 H3 e3 m3 dz ⟨ks, ds, kk, hp3, hk, φ⟩ => ?_⟩
    obtain ⟨a', kvs, q1, r, ek, dv⟩ := dt_dk (((o1.mv m2).mv m3).dt e3 hp3)
    cases q1
    have z := lookK_ok (k := kk) dv
    rw [ek] at z
    refine ⟨valV kvs kk, .inl ⟨kvs, kk, r, key_dv hk (Dv.mv m3 _ _ dy), rfl⟩, ?_⟩
    cases hl : lookK ks ds kk with
    | none =>
      rw [hl] at z φ
      rw [show valV kvs kk = none from z]
      exact k _ (.d _) ρ3 H3 ⟨e3, m1.tr (m2.tr m3), dz⟩ φ
    | some d =>
      rw [hl] at z φ
      obtain ⟨x, hx, dx⟩ := z
      rw [hx]
      exact k _ (.d d) ρ3 H3 ⟨e3, m1.tr (m2.tr m3), dx⟩ φ
/-- d[k], k there -/
theorem DE.dget {td ty : TE} (h : DEo K cp X td ρ fun p ρ1 => DEs K cp X ty ρ1 fun y ρ2 => ∃ ks ds k d, p.at ρ2 = some (.dk ks ds) ∧ keyOf y = some k ∧ lookK ks ds k = some d ∧ Φ (.d d) ρ2) :
    DE K cp X (tDGet td ty) ρ Φ := fun F A H0 H σ e hx Q k =>
  h.go e hx fun v p ρ1 H1 e1 m1 o1 q => DEs.go (show DEs K cp X ty ρ1 _ from q) e1 hx fun w y ρ2 H2 e2 m2 dy ⟨ks, ds, kk, d, hp, hk, hl, φ⟩ => by
    obtain ⟨a, kvs, rfl, r, ek, dv⟩ := dt_dk ((o1.mv m2).dt e2 hp)
    have z := lookK_ok (k := kk) dv
    rw [ek, hl] at z
    obtain ⟨x, hx, dx⟩ := z
    exact ⟨a, x, rfl, .inl ⟨kvs, kk, r, key_dv hk dy, hx.symm⟩, k _ (.d d) ρ2 H2 ⟨e2, m1.tr m2, dx⟩ φ⟩
/-- k in d -/
theorem DE.din {ty td : TE} (h : DEs K cp X ty ρ fun y ρ1 => DEo K cp X td ρ1 fun p ρ2 => ∃ ks ds k, p.at ρ2 = some (.dk ks ds) ∧ keyOf y = some k ∧ Φ (.d (.bl (lookK ks ds k).isSome)) ρ2) :
    DE K cp X (tDIn ty td) ρ Φ := fun F A H0 H σ e hx Q k =>
  h.go e hx fun w y ρ1 H1 e1 m1 dy q => DEo.go (show DEo K cp X td ρ1 _ from q) e1 hx fun v p ρ2 H2 e2 m2 o2 ⟨ks, ds, kk, hp, hk, φ⟩ => by
    obtain ⟨a, kvs, rfl, r, ek, dv⟩ := dt_dk (o2.dt e2 hp)
    have z := lookK_ok (k := kk) dv
    rw [ek] at z
    refine ⟨a, valV kvs kk, rfl, .inl ⟨kvs, kk, r, key_dv hk (Dv.mv m2 _ _ dy), rfl⟩, ?_⟩
    cases hl : lookK ks ds kk with
    | none =>
      rw [hl] at z φ
      rw [show valV kvs kk = none from z]
      exact k _ (.d (.bl false)) ρ2 H2 ⟨e2, m1.tr m2, .bl _⟩ φ
    | some d =>
      rw [hl] at z φ
      obtain ⟨x, hx, dx⟩ := z
      rw [hx]
      exact k _ (.d (.bl true)) ρ2 H2 ⟨e2, m1.tr m2, .bl _⟩ φ
/-! ### slots of ints, two or three names at once -/
theorem DS.aug {i : Nat} {te : TE} {f : Int → Int → Int} (h : ∃ a : Int, ρ[i]? = some (.sh (.int a)) ∧ DEs K cp X te ρ fun y ρ1 => ∃ b : Int, y = .int b ∧ free ρ1 i ∧ N (ρ1.set i (.sh (.int (f a b))))) : DS K cp X (tAug i te (ipI f)) ρ N R B C := fun F A H0 H σ e hx Dd n r b c => by
  obtain ⟨a, ha, h⟩ := h
  obtain ⟨v, hv, dv⟩ := e.sl i _ ha
  refine ⟨v, hv, h.go e (hx _) fun w y ρ1 H1 e1 m1 dy ⟨b, hy, hf, q⟩ => ?_⟩
  subst hy
  refine ⟨a, b, dv_int dv, dv_int dy, ?_⟩
  exact n _ _ H1 (e1.set hf (.inl ⟨_, _, rfl, rfl, .int _⟩)) (m1.tr (Mv.sub (gv_set (by rintro b ds z; cases z)))) q
theorem DS.par {i j : Nat} {ta : TA} (h : DAo K cp X ta ρ fun ps ρ1 => ∃ d e, oks ps = some [d, e] ∧ free ρ1 i ∧ free ρ1 j ∧ N ((ρ1.set i (.sh d)).set j (.sh e))) : DS K cp X (tPar i j ta) ρ N R B C := fun F A H0 H σ e hx Dd n r b c =>
  h F A H0 H σ e (hx _) _ fun vs ps ρ1 H1 e1 m1 o1 ⟨d, d', hp, fi, fj, q⟩ => by
    have z := oks_ok o1 hp
    cases z with
    | @cons v _ _ _ z1 z2 =>
      cases z2 with
      | @cons w _ _ _ z2 z3 =>
        cases z3
        refine ⟨v, w, rfl, ?_⟩
        have e2 := e1.set fi (.inl ⟨d, v, rfl, rfl, z1⟩)
        have s1 : ∀ a, Gv F (σ.set i (some v)) (ρ1.set i (.sh d)) a → Gv F σ ρ1 a := gv_set (by rintro b ds z; cases z)
        have fj2 : free (ρ1.set i (.sh d)) j := ⟨by rw [List.length_set]; exact fj.1, fun ds z => by
          by_cases w : i = j
          · subst w; rw [List.getElem?_set_self fi.1] at z; cases z
          · rw [List.getElem?_set_ne w] at z; exact fj.2 ds z⟩
        have e3 := e2.set fj2 (.inl ⟨d', w, rfl, rfl, Dv.mv (Mv.sub s1) _ _ z2⟩)
        have s2 : ∀ a, Gv F ((σ.set i (some v)).set j (some w)) ((ρ1.set i (.sh d)).set j (.sh d')) a → Gv F (σ.set i (some v)) (ρ1.set i (.sh d)) a := gv_set (by rintro b ds z; cases z)
        exact n _ _ H1 e3 (m1.tr (Mv.sub fun a g => s1 a (s2 a g))) q
theorem free_set {i j : Nat} {s : SV} (hi : i < ρ.length) (ns : ∀ b c, s ≠ .ow b c) (h : free ρ j) : free (ρ.set i s) j := ⟨by rw [List.length_set]; exact h.1, fun ds z => by
  by_cases w : i = j
  · subst w; rw [List.getElem?_set_self hi] at z; cases z; exact ns _ _ rfl
  · rw [List.getElem?_set_ne w] at z; exact h.2 ds z⟩
theorem DS.par3 {i j l : Nat} {ta : TA} (h : DAo K cp X ta ρ fun ps ρ1 => ∃ d e f, oks ps = some [d, e, f] ∧ free ρ1 i ∧ free ρ1 j ∧ free ρ1 l ∧ N (((ρ1.set i (.sh d)).set j (.sh e)).set l (.sh f))) : DS K cp X (tPar3 i j l ta) ρ N R B C := fun F A H0 H σ e hx Dd n r b c =>
  h F A H0 H σ e (hx _) _ fun vs ps ρ1 H1 e1 m1 o1 ⟨d, d', d'', hp, fi, fj, fl, q⟩ => by
    have z := oks_ok o1 hp
    cases z with
    | @cons v _ _ _ z1 z2 =>
      cases z2 with
      | @cons w _ _ _ z2 z3 =>
        cases z3 with
        | @cons u _ _ _ z3 z4 =>
          cases z4
          refine ⟨v, w, u, rfl, ?_⟩
          have nsh : ∀ {d : D} (b : Bool) (c : D), SV.sh d ≠ .ow b c := by rintro d b c z; cases z
          have e2 := e1.set fi (.inl ⟨d, v, rfl, rfl, z1⟩)
          have s1 : ∀ a, Gv F (σ.set i (some v)) (ρ1.set i (.sh d)) a → Gv F σ ρ1 a := gv_set nsh
          have fj2 := free_set (s := .sh d) fi.1 nsh fj
          have e3 := e2.set fj2 (.inl ⟨d', w, rfl, rfl, Dv.mv (Mv.sub s1) _ _ z2⟩)
          have s2 : ∀ a, Gv F ((σ.set i (some v)).set j (some w)) ((ρ1.set i (.sh d)).set j (.sh d')) a → Gv F (σ.set i (some v)) (ρ1.set i (.sh d)) a := gv_set nsh
          have fl2 := free_set (s := .sh d') fj2.1 nsh (free_set (s := .sh d) fi.1 nsh fl)
          have e4 := e3.set fl2 (.inl ⟨d'', u, rfl, rfl, Dv.mv (Mv.sub fun a g => s1 a (s2 a g)) _ _ z3⟩)
          exact n _ _ H1 e4 (m1.tr (Mv.sub fun a g => s1 a (s2 a (gv_set nsh a g)))) q
/-! ### slices -/
def DO (K : PySem.W.Frag) (cp : Cb) (X : XC) (t : TO) (ρ : List SV) (Φ : Option Int → List SV → Prop) : Prop :=
  ∀ F A H0 H σ, En K cp F A H0 H σ ρ → XOk K cp F A H0 X σ → ∀ Q : Option Int → Hp → Prop, (∀ b ρ' H', En K cp F A H0 H' σ ρ' → Mv (Gv F σ ρ) H (Gv F σ ρ') H' → Φ b ρ' → Q b H') → t σ H Q
theorem DO.nil {Φ : Option Int → List SV → Prop} (q : Φ none ρ) : DO K cp X tNoPart ρ Φ := fun F A H0 H σ e hx Q k => k none ρ H e (Mv.ex (Ex.rfl' H)) q
theorem DO.one {te : TE} {Φ : Option Int → List SV → Prop} (h : DEs K cp X te ρ fun d ρ1 => ∃ i : Int, d = .int i ∧ Φ (some i) ρ1) : DO K cp X (tPart te) ρ Φ := fun F A H0 H σ e hx Q k =>
  h.go e hx fun v d ρ1 H1 e1 m1 dv ⟨i, hd, φ⟩ => by subst hd; exact ⟨i, dv_int dv, k _ ρ1 H1 e1 m1 φ⟩
def cutD (xs : List D) (lo hi : Option Int) : List D := (xs.drop (HT.sIx xs.length 0 lo)).take (HT.sIx xs.length xs.length hi - HT.sIx xs.length 0 lo)
theorem cut_dva {vs : List V} {xs : List D} (h : DvA K cp G H vs xs) (lo hi : Option Int) : DvA K cp G H (cutV vs lo hi) (cutD xs lo hi) := by
  unfold cutV cutD
  rw [h.len]
  exact (h.drop _).take _
theorem DE.slL {te : TE} {tl th : TO} (h : DEo K cp X te ρ fun p ρ1 => DO K cp X tl ρ1 fun lo ρ2 => DO K cp X th ρ2 fun hi ρ3 => ∃ xs, p.at ρ3 = some (.lst xs) ∧ Φ (.n (.lst (cutD xs lo hi))) ρ3) : DE K cp X (tSl (rSlL K) te tl th) ρ Φ := fun F A H0 H σ e hx Q k =>
  h.go e hx fun v p ρ1 H1 e1 m1 o1 q => (show DO K cp X tl ρ1 _ from q) F A H0 H1 σ e1 hx _ fun lo ρ2 H2 e2 m2 q2 => (show DO K cp X th ρ2 _ from q2) F A H0 H2 σ e2 hx _ fun hi ρ3 H3 e3 m3 ⟨xs, hp, φ⟩ => by
    obtain ⟨a, vs, rfl, r, dv⟩ := dt_lst (((o1.mv m2).mv m3).dt e3 hp)
    exact ⟨a, vs, rfl, .inl (.inl r), fun p hp => k _ (.n (.lst (cutD xs lo hi))) ρ3 _ (((rx_new hp (cut_dva dv lo hi)).res e3).tr (m1.tr (m2.tr m3))) φ⟩
theorem DE.slT {te : TE} {tl th : TO} (h : DEs K cp X te ρ fun d ρ1 => DO K cp X tl ρ1 fun lo ρ2 => DO K cp X th ρ2 fun hi ρ3 => ∃ xs, d = .tup xs ∧ Φ (.d (.tup (cutD xs lo hi))) ρ3) : DE K cp X (tSl (rSlA K) te tl th) ρ Φ := fun F A H0 H σ e hx Q k =>
  h.go e hx fun v d ρ1 H1 e1 m1 dv q => (show DO K cp X tl ρ1 _ from q) F A H0 H1 σ e1 hx _ fun lo ρ2 H2 e2 m2 q2 => (show DO K cp X th ρ2 _ from q2) F A H0 H2 σ e2 hx _ fun hi ρ3 H3 e3 m3 ⟨xs, hd, φ⟩ => by
    subst hd
    have dv3 := Dv.mv (m2.tr m3) _ _ dv
    obtain ⟨a, vs, rfl, r, da⟩ := dt_tup (.inl dv3)
    refine ⟨a, vs, rfl, r, fun w => ?_, fun _ p hp => k _ (.d (.tup (cutD xs lo hi))) ρ3 _ (((rx_tup hp (e3.trk.no hp) (cut_dva da lo hi)).res e3).tr (m1.tr (m2.tr m3))) φ⟩
    have : cutD xs lo hi = xs := by
      unfold cutD
      rw [← da.len, w.1, w.2, List.drop_zero, da.len, Nat.sub_zero, List.take_length]
    rw [this] at φ
    exact k _ (.d (.tup xs)) ρ3 H3 ⟨e3, m1.tr (m2.tr m3), dv3⟩ φ
end
end DD
set_option maxHeartbeats 1000000
namespace DD
open PySem PySem.Spec PyProof.Rows L2 GL
section
variable {K : PySem.W.Frag} {cp : Cb} {X : XC} {ψ : AV → Prop} {F : Addr → Prop} {A : List (Nat × Addr)} {G : Addr → Prop} {H0 H H' H1 : Hp} {σ : L2.St} {v : V} {ρ ρ1 : List SV} {Φ : AV → List SV → Prop} {N : List SV → Prop} {R : AV → List SV → Prop} {B C : List SV → Prop}
theorem ifP {c : Prop} [Decidable c] {p q : Prop} (h : c) (hp : p) : if c then p else q := by rw [if_pos h]; exact hp
theorem ifN {c : Prop} [Decidable c] {p q : Prop} (h : ¬ c) (hp : q) : if c then p else q := by rw [if_neg h]; exact hp
theorem sh_d (x : D) : AV.sh (.d x) = some x := rfl
theorem sh_n (x : D) : AV.sh (.n x) = some x := rfl
theorem of_d (x : D) : OP.of (.d x) = .d x := rfl
theorem of_n (x : D) : OP.of (.n x) = .d x := rfl
theorem of_o (i : Nat) : OP.of (.o i) = .o i := rfl
theorem at_d (x : D) : OP.at ρ (.d x) = some x := rfl
def Nob : D → Prop
  | .ob _ _ _ => False
  | _ => True
theorem Nob.ne {x : D} (h : Nob x) : ∀ c ns ds, x ≠ .ob c ns ds := by rintro c ns ds rfl; exact h
theorem DE.isX {c : String} {te : TE} (hc : c ∈ ["int", "bool", "str", "list", "tuple", "dict"]) (hte : DEo K cp X te ρ fun p ρ1 => ∃ x, p.at ρ1 = some x ∧ Nob x ∧ Φ (.d (.bl (isT (tyD x) c))) ρ1) :
    DE K cp X (tCB (rIsi K) (tCons te (tCons (tC (.ty c)) tNil))) ρ Φ := fun F A H0 H σ e hx Q k =>
  hte.go e hx fun v p ρ1 H1 e1 m1 o1 ⟨x, hp, nx, φ⟩ => by
    refine ⟨v, .ty c, _, _, isT (tyD x) c, rfl, .ty c, ty_dv (o1.dt e1 hp) nx.ne fun a vs h => kt_cls h, ?_, k _ (.d (.bl _)) ρ1 H1 ⟨e1, m1, .bl _⟩ φ⟩
    exact kit_ty (kit_all _ (kinds_ty nx.ne) c hc)
theorem DE.isX2 {c d : String} {te : TE} (hc : c ∈ ["int", "bool", "str", "list", "tuple", "dict"]) (hd : d ∈ ["int", "bool", "str", "list", "tuple", "dict"]) (hte : DEo K cp X te ρ fun p ρ1 => ∃ x, p.at ρ1 = some x ∧ Nob x ∧ Φ (.d (.bl (isT (tyD x) c || isT (tyD x) d))) ρ1) :
    DE K cp X (tCB (rIsiT K) (tCons te (tCons (tTup (tCons (tC (.ty c)) (tCons (tC (.ty d)) tNil))) tNil))) ρ Φ := fun F A H0 H σ e hx Q k =>
  hte.go e hx fun v p ρ1 H1 e1 m1 o1 ⟨x, hp, nx, φ⟩ => by
    refine ⟨(show 2 ≤ sizeLine by decide), fun t ht => ?_⟩
    have ex : Ex H1 (upd H1 t (.tup [.ty c, .ty d])) := Ex.nw ht
    refine ⟨v, t, [.ty c, .ty d], _, [.type c, .type d], isT (tyD x) c || isT (tyD x) d, rfl, upd_same, .cons (.ty c) (.cons (.ty d) .nil), ty_dv (OPv.dt (e1.ex ex) (o1.mv (Mv.ex ex)) hp) nx.ne fun a vs h => kt_cls h, ?_, k _ (.d (.bl _)) ρ1 _ ⟨e1.ex ex, m1.tr (Mv.ex ex), .bl _⟩ φ⟩
    refine kitAny_cons (kit_ty (kit_all _ (kinds_ty nx.ne) c hc)) (fun e => ?_) fun e => by rw [e]; rfl
    rw [e, Bool.false_or]
    refine kitAny_cons (kit_ty (kit_all _ (kinds_ty nx.ne) d hd)) (fun e2 => ?_) fun e2 => e2
    rw [e2]; exact kitAny_nil
theorem DT.yes {Φ : Bool → List SV → Prop} (h : Φ true ρ) : DT K cp X tYes ρ Φ := fun F A H0 H σ e hx Q k => k true ρ H e (Mv.ex (Ex.rfl' H)) h
def nownB (ρ : List SV) (vs : List Nat) : Bool := vs.all fun i => match ρ[i]? with
  | some (.ow _ _) => false
  | some _ => true
  | none => false
theorem nown_of {vs : List Nat} (h : nownB ρ vs = true) : nown ρ vs := fun i hi => by
  have q := List.all_eq_true.mp h i hi
  cases e : ρ[i]? with
  | none => simp [e] at q
  | some s => exact ⟨(List.getElem?_eq_some_iff.mp e).1, fun b ds z => by cases z; simp [e] at q⟩
def freeB (ρ : List SV) (i : Nat) : Bool := match ρ[i]? with
  | some (.ow true _) => false
  | some _ => true
  | none => false
theorem free_of {i : Nat} (h : freeB ρ i = true) : free ρ i := by
  unfold freeB at h
  cases e : ρ[i]? with
  | none => simp [e] at h
  | some s => exact ⟨(List.getElem?_eq_some_iff.mp e).1, fun ds z => by rw [e] at z; cases z; simp [e] at h⟩
theorem DI.seqV {i : Nat} {d : D} {xs : List D} {Ψ : List D → List SV → Prop} (h : ρ[i]? = some (.sh d)) (hd : seqD d = some xs) (q : Ψ xs ρ) : DI K cp X (iSeq K (tVar i) (tVar i)) ρ Ψ := by
  cases d with
  | lst ds => cases hd; exact DI.seqL (DI.list (DE.var h ⟨_, rfl, _, rfl, q⟩))
  | tup ds => cases hd; exact DI.seqT (DI.tup (DE.var h ⟨_, rfl, _, rfl, q⟩))
  | _ => cases hd
/-- a comprehension that changes no slot: what is left of xs, each by f -/
theorem DE.lcP {wi : TI} {g : TG} {tt : TT} {te : TE} {vs : List Nat} {T : Type} {ts : List Nat} (xs : List T) (enc : T → D) (pd : T → Bool) (f : T → D) (hz : xs.length ≤ 900000)
    (hi : DI K cp X wi ρ fun ds ρ1 => ρ1 = ρ ∧ ds = xs.map enc) (hn : nown ρ vs)
    (hs : ∀ x ∈ xs, DG K cp g ts (enc x) (wipeS ρ vs) fun ρ3 => DT K cp XC.q tt ρ3 fun b ρ4 => b = pd x ∧ if b = true then DEs K cp XC.q te ρ4 (fun y ρ5 => y = f x ∧ wipeS ρ5 vs = wipeS ρ vs ∧ nown ρ5 vs) else wipeS ρ4 vs = wipeS ρ vs ∧ nown ρ4 vs)
    (hts : (ts.all fun i => vs.contains i) = true) (q : Φ (.n (.lst ((xs.filter pd).map f))) ρ) : DE K cp X (tLc wi g tt te vs) ρ Φ := by
  have hts : ∀ i ∈ ts, i ∈ vs := fun i hi => by simpa using List.all_eq_true.mp hts i hi
  refine DE.lc (fun F A H0 H σ e hx Q k => hi F A H0 H σ e hx Q fun J ds ρ1 H1 e1 m1 wk ⟨e2, e3⟩ => k J ds ρ1 H1 e1 m1 wk ?_)
  subst e2 e3
  refine ⟨ts, fun i acc ρ2 => ρ2 = ρ1 ∧ acc = ((xs.take i).filter pd).map f, hts, ⟨rfl, rfl⟩, by rw [List.length_map]; exact hz, ?_, ?_⟩
  · rintro i d acc ρ2 hd ⟨rfl, rfl⟩
    refine ⟨hn, ?_⟩
    rw [List.getElem?_map] at hd
    cases hx : xs[i]? with
    | none => rw [hx] at hd; cases hd
    | some x =>
      rw [hx] at hd
      cases hd
      have ht : xs.take (i + 1) = xs.take i ++ [x] := by rw [List.take_add_one, hx]; rfl
      refine fun F A H0 H σ e v dv Q k => hs x (List.mem_of_getElem? hx) F A H0 H σ e v dv Q fun σ' ρ3 e3 g3 w3 h3 => k σ' ρ3 e3 g3 w3 ?_
      refine DT.mono h3 fun b ρ4 ⟨hb, h4⟩ => ?_
      cases b with
      | true =>
        rw [if_pos rfl] at h4 ⊢
        refine DE.mono h4 fun r ρ5 ⟨d, hd, hf, h5, h6⟩ => ⟨d, hd, ρ2, ⟨h6, h5.symm, fun _ _ => rfl, rfl⟩, rfl, ?_⟩
        rw [hf, ht, List.filter_append, List.map_append, List.filter_cons_of_pos hb.symm]
        rfl
      | false =>
        rw [if_neg (by decide)] at h4 ⊢
        refine ⟨ρ2, ⟨h4.2, h4.1.symm, fun _ _ => rfl, rfl⟩, rfl, ?_⟩
        rw [ht, List.filter_append, List.filter_cons_of_neg (by rw [← hb]; decide)]
        simp
  · rintro acc ρ2 ⟨rfl, rfl⟩
    rw [List.length_map, List.take_length]
    exact q
/-- without a test -/
theorem DE.lcM {wi : TI} {g : TG} {te : TE} {vs : List Nat} {T : Type} {ts : List Nat} (xs : List T) (enc : T → D) (f : T → D) (hz : xs.length ≤ 900000)
    (hi : DI K cp X wi ρ fun ds ρ1 => ρ1 = ρ ∧ ds = xs.map enc) (hn : nown ρ vs)
    (hs : ∀ x ∈ xs, DG K cp g ts (enc x) (wipeS ρ vs) fun ρ3 => DEs K cp XC.q te ρ3 (fun y ρ5 => y = f x ∧ wipeS ρ5 vs = wipeS ρ vs ∧ nown ρ5 vs))
    (hts : (ts.all fun i => vs.contains i) = true) (q : Φ (.n (.lst (xs.map f))) ρ) : DE K cp X (tLc wi g tYes te vs) ρ Φ := by
  refine DE.lcP xs enc (fun _ => true) f hz hi hn (fun x hx F A H0 H σ e v dv Q k => hs x hx F A H0 H σ e v dv Q fun σ' ρ3 e3 g3 w3 h3 => k σ' ρ3 e3 g3 w3 (DT.yes ⟨rfl, by rw [if_pos rfl]; exact h3⟩)) hts ?_
  rw [List.filter_eq_self.mpr fun _ _ => rfl]
  exact q
theorem rl_sumM {T : Type} {xs : List T} {g : T → Int} (q : ψ (.d (.int (xs.map g).sum))) : RLd K cp (rSum K) [.lst (xs.map fun t => .int (g t))] ψ := by
  rw [show (xs.map fun t => D.int (g t)) = (xs.map g).map D.int by rw [List.map_map]; rfl]
  exact rl_sum q
theorem rl_allM {T : Type} {xs : List T} {g : T → Bool} (q : ψ (.d (.bl (xs.all g)))) : RLd K cp (rAll K) [.lst (xs.map fun t => .bl (g t))] ψ := by
  rw [show (xs.map fun t => D.bl (g t)) = (xs.map g).map D.bl by rw [List.map_map]; rfl]
  refine rl_all ?_
  rw [List.all_map]; exact q
theorem rl_anyM {T : Type} {xs : List T} {g : T → Bool} (q : ψ (.d (.bl (xs.any g)))) : RLd K cp (rAny K) [.lst (xs.map fun t => .bl (g t))] ψ := by
  rw [show (xs.map fun t => D.bl (g t)) = (xs.map g).map D.bl by rw [List.map_map]; rfl]
  refine rl_any ?_
  rw [List.any_map]; exact q
theorem r2_fdiv {i j : Int} (h : CDiv i j) (q : ψ (.d (.int (i / j)))) : R2d K cp (rI CDiv fun i j => .int (i / j)) (.int i) (.int j) ψ := r2_intC h (.int _) q
theorem r2_shl {i j : Int} (h : CShl i j) (q : ψ (.d (.int (i * 2 ^ j.toNat)))) : R2d K cp (rI CShl fun i j => .int (i * 2 ^ j.toNat)) (.int i) (.int j) ψ := r2_intC h (.int _) q
theorem r2_mod {i j : Int} (h : 0 < j) (q : ψ (.d (.int (i % j)))) : R2d K cp (rI (fun _ j => 0 < j) fun i j => .int (i % j)) (.int i) (.int j) ψ := r2_intC h (.int _) q
theorem r2_mul {i j : Int} (h : CMul i j) (q : ψ (.d (.int (i * j)))) : R2d K cp (rI CMul fun i j => .int (i * j)) (.int i) (.int j) ψ := r2_intC h (.int _) q
theorem cshl {i j : Int} (hi : i.natAbs < 2 ^ 64) (h0 : 0 ≤ j) (h1 : j ≤ 100000) : CShl i j := by
  have b := PyProof.Rows.intBits_le hi
  refine ⟨h0, ?_⟩
  have e : (2 : Int) ^ 27 = 134217728 := by decide
  rw [e]
  omega
theorem r2_ixTx {x : D} {xs : List D} {i : Int} {d : D} (hx : x = .tup xs) (h : atI xs i = some d) (q : ψ (.d d)) : R2d K cp (rIxT K) x (.int i) ψ := by subst hx; exact r2_ixT h q
theorem r2_ixLx {x : D} {xs : List D} {i : Int} {d : D} (hx : x = .lst xs) (h : atI xs i = some d) (q : ψ (.d d)) : R2d K cp (rIxL K) x (.int i) ψ := by subst hx; exact r2_ixL h q
end
end DD
set_option maxHeartbeats 1000000
/-! Comprehensions of two clauses. -/
namespace DD
open PySem PySem.Spec PyProof.Rows L2 GL
section
variable {K : PySem.W.Frag} {cp : Cb} {X : XC} {F : Addr → Prop} {A : List (Nat × Addr)} {H0 H H' H1 : Hp} {σ : L2.St} {ρ : List SV} {Φ : AV → List SV → Prop}
theorem DE.lc2P {wi wi1 : TI} {g g1 : TG} {tt tt1 : TT} {te : TE} {vs vs1 : List Nat} {T U : Type} {ts ts1 : List Nat} (xs : List T) (enc : T → D) (pd : T → Bool) (ys : T → List U) (enc1 : U → D) (pd1 : T → U → Bool) (f : T → U → D)
    (hz : ∀ n, (((xs.take n).filter pd).flatMap fun x => ((ys x).filter (pd1 x)).map (f x)).length ≤ 900000 ∧ ∀ x ∈ xs, (ys x).length ≤ 900000)
    (hi : DI K cp X wi ρ fun ds ρ1 => ρ1 = ρ ∧ ds = xs.map enc) (hn : nown ρ vs)
    (hs : ∀ x ∈ xs, DG K cp g ts (enc x) (wipeS ρ vs) fun ρ3 => DT K cp XC.q tt ρ3 fun b ρ4 => b = pd x ∧ wipeS ρ4 vs = wipeS ρ vs ∧ nown ρ4 vs ∧ (b = true → nown ρ4 vs1 ∧ DI K cp XC.q wi1 ρ4 fun es ρ5 => ρ5 = ρ4 ∧ es = (ys x).map enc1 ∧
      ∀ y ∈ ys x, DG K cp g1 ts1 (enc1 y) (wipeS ρ4 vs1) fun ρ6 => DT K cp XC.q tt1 ρ6 fun b1 ρ7 => b1 = pd1 x y ∧ if b1 = true then DEs K cp XC.q te ρ7 (fun z ρ8 => z = f x y ∧ wipeS ρ8 vs1 = wipeS ρ4 vs1 ∧ nown ρ8 vs1) else wipeS ρ7 vs1 = wipeS ρ4 vs1 ∧ nown ρ7 vs1))
    (hts : (ts.all fun i => vs.contains i) = true) (hts1 : (ts1.all fun i => vs1.contains i) = true)
    (q : Φ (.n (.lst ((xs.filter pd).flatMap fun x => ((ys x).filter (pd1 x)).map (f x)))) ρ) : DE K cp X (tLc2 wi g tt wi1 g1 tt1 te vs vs1) ρ Φ := fun F A H0 H σ e hx Q k =>
  hi F A H0 H σ e hx _ fun J ds ρ1 H1 e1 m1 wk ⟨er, ed⟩ => by
    subst er
    subst ed
    have hts : ∀ i ∈ ts, i ∈ vs := fun i hi => by simpa using List.all_eq_true.mp hts i hi
    have hts1 : ∀ i ∈ ts1, i ∈ vs1 := fun i hi => by simpa using List.all_eq_true.mp hts1 i hi
    intro D hD
    have h0D := e1.none0 hD
    have nF : ¬ F D := fun f => e1.notF hD (.inl f)
    have hA : ∀ x ∈ A, F x.2 := fun x hx => (e1.io x hx).1
    have hAD : ∀ x ∈ A, D ≠ x.2 := fun x hx z => nF (z ▸ hA x hx)
    let inn : T → List U → List DD.D := fun x us => (us.filter (pd1 x)).map (f x)
    let out : List T → List DD.D := fun zs => (zs.filter pd).flatMap fun x => inn x (ys x)
    have outs : ∀ {i : Nat} {x : T}, xs[i]? = some x → out (xs.take (i + 1)) = out (xs.take i) ++ (if pd x = true then inn x (ys x) else []) := fun {i x} hx => by
      have ht : xs.take (i + 1) = xs.take i ++ [x] := by rw [List.take_add_one, hx]; rfl
      show (List.filter pd (xs.take (i + 1))).flatMap _ = _
      rw [ht, List.filter_append, List.flatMap_append]
      congr 1
      by_cases h : pd x = true
      · rw [List.filter_cons_of_pos h, if_pos h]; simp [inn]
      · rw [List.filter_cons_of_neg h, if_neg h]; rfl
    let Pv : Nat → Hp → Prop := fun i H => ∃ ws, H D = some (.lst ws) ∧ DvA K cp (Gv (plus F D) σ ρ1) H ws (out (xs.take i)) ∧ En K cp (plus F D) A H0 H σ ρ1 ∧ Mv (Gv F σ ρ1) H1 (Gv (plus F D) σ ρ1) H
    have wl : (xs.map enc).length = xs.length := List.length_map ..
    refine ⟨fun i m H => m = xs.length - i ∧ i ≤ xs.length ∧ Pv i H, ⟨_, rfl, Nat.zero_le _, [], upd_same, .nil, e1.plus hD (Ex.nw hD) upd_same, (Mv.nw hD).tr ((Mv.ex (Ex.nw hD)).tr (Mv.sub gv_plus))⟩, ?_⟩
    rintro i m H2 ⟨rfl, hi, ws, hw, dw, e2, m2⟩
    by_cases hlt : i < xs.length
    · refine .inr ⟨wk.goes i H2 (by rw [wl]; exact hlt) ⟨_, m2⟩, Pv (i + 1), fun H' p => ⟨_, by omega, rfl, hlt, p⟩, fun x H3 yy => ?_⟩
      obtain ⟨ex, y⟩ := wk.yields i H2 x H3 (by rw [wl]; exact hlt) ⟨_, m2⟩ yy
      obtain ⟨d, hx, dv⟩ := y _ m2 e2.trk
      rw [List.getElem?_map] at hx
      cases hxi : xs[i]? with
      | none => rw [hxi] at hx; cases hx
      | some t =>
        rw [hxi] at hx
        cases hx
        have htm := List.mem_of_getElem? hxi
        have e3 := e2.ex ex
        have hw3 := ex _ _ hw
        have dw3 := DvA.mv (Mv.ex ex) _ _ dw
        have ew := (e3.h0 (.inr rfl) hAD hw3 h0D).wipe hn
        have sb : Mv (Gv (plus F D) σ ρ1) H3 (Gv (plus F D) (wipe σ vs) (wipeS ρ1 vs)) H3 := Mv.sub fun a g => (gv_wipe hn a).mp g
        refine hs t htm (plus F D) A _ H3 (wipe σ vs) ew x (Dv.mv sb _ _ dv) _ fun σ4 ρ4 e4 g4 w4 q4 => ?_
        have wq : wipe σ4 vs = wipe σ vs := by rw [w4 vs hts]; exact wipe_wipe vs fun i h => h
        refine ⟨wq, ?_⟩
        have m4 : Mv (Gv (plus F D) (wipe σ vs) (wipeS ρ1 vs)) H3 (Gv (plus F D) σ4 ρ4) H3 := Mv.sub g4
        refine (show DT K cp XC.q tt ρ4 _ from q4) (plus F D) A _ H3 σ4 e4 xq _ fun b ρ5 H5 e5 m5 ⟨hb, w5, n5, q5⟩ => ?_
        -- from the slots within to those outside
        have gq : ∀ a, Gv (plus F D) σ4 ρ5 a ↔ Gv (plus F D) σ ρ1 a := fun a => by
          rw [← gv_wipe (σ := σ4) n5 a, wq, w5, gv_wipe hn a]
        have fin : ∀ {H6 : Hp} {ws' : List V} {acc : List DD.D}, En K cp (plus F D) A H0 H6 σ4 ρ5 → Mv (Gv (plus F D) σ4 ρ5) H5 (Gv (plus F D) σ4 ρ5) H6 → H6 D = some (.lst ws') → DvA K cp (Gv (plus F D) σ4 ρ5) H6 ws' acc → acc = out (xs.take (i + 1)) → Pv (i + 1) H6 := fun {H6 ws' acc} e6 m6 h6 d6 ea => by
          subst ea
          obtain ⟨e7, m7⟩ := e3.back hn wq e6 (m4.tr (m5.tr m6)) n5 w5.symm (fun _ _ => rfl) rfl
          exact ⟨ws', h6, DvA.mv (Mv.sub fun a g => (gq a).mpr g) _ _ d6, e7, m2.tr ((Mv.ex ex).tr m7)⟩
        have hD5 := e5.fr D _ hAD upd_same
        have dw5 : DvA K cp (Gv (plus F D) σ4 ρ5) H5 ws (out (xs.take i)) := DvA.mv (sb.tr (m4.tr m5)) _ _ dw3
        cases b with
        | false =>
          refine iteF (fin (e5.h0b (.inr rfl) h0D) (Mv.ex (Ex.rfl' _)) hD5 dw5 ?_)
          rw [outs hxi, ← hb, if_neg (by decide), List.append_nil]
        | true =>
          obtain ⟨n51, q5⟩ := q5 rfl
          refine iteT (q5 (plus F D) A _ H5 σ4 e5 xq _ fun J1 es ρ6 H6 e6 m6 wk1 ⟨er6, ees, q6⟩ => ?_)
          subst er6
          subst ees
          have hD6 := e6.fr D _ hAD upd_same
          have e60 := e6.h0b (.inr rfl) h0D
          have dw6 := DvA.mv m6 _ _ dw5
          let P1 : Nat → Hp → Prop := fun j H => ∃ ws, H D = some (.lst ws) ∧ DvA K cp (Gv (plus F D) σ4 ρ6) H ws (out (xs.take i) ++ inn t ((ys t).take j)) ∧ En K cp (plus F D) A H0 H σ4 ρ6 ∧ Mv (Gv (plus F D) σ4 ρ6) H6 (Gv (plus F D) σ4 ρ6) H
          have wl1 : ((ys t).map enc1).length = (ys t).length := List.length_map ..
          refine ⟨fun j m H => m = (ys t).length - j ∧ j ≤ (ys t).length ∧ P1 j H, ⟨_, rfl, Nat.zero_le _, ws, hD6, by simpa [inn] using dw6, e60, Mv.ex (Ex.rfl' _)⟩, ?_⟩
          rintro j m H7 ⟨rfl, hj, us, hu, du, e7, m7⟩
          by_cases hlt1 : j < (ys t).length
          · refine .inr ⟨wk1.goes j H7 (by rw [wl1]; exact hlt1) ⟨_, m7⟩, P1 (j + 1), fun H' p => ⟨_, by omega, rfl, hlt1, p⟩, fun x1 H8 yy1 => ?_⟩
            obtain ⟨ex1, y1⟩ := wk1.yields j H7 x1 H8 (by rw [wl1]; exact hlt1) ⟨_, m7⟩ yy1
            obtain ⟨d1, hx1, dv1⟩ := y1 _ m7 e7.trk
            rw [List.getElem?_map] at hx1
            cases hyj : (ys t)[j]? with
            | none => rw [hyj] at hx1; cases hx1
            | some u =>
              rw [hyj] at hx1
              cases hx1
              have hum := List.mem_of_getElem? hyj
              have ht1 : (ys t).take (j + 1) = (ys t).take j ++ [u] := by rw [List.take_add_one, hyj]; rfl
              have e8 := e7.ex ex1
              have hu8 := ex1 _ _ hu
              have du8 := DvA.mv (Mv.ex ex1) _ _ du
              have ew1 := (e8.h0 (.inr rfl) hAD hu8 h0D).wipe n51
              have sb1 : Mv (Gv (plus F D) σ4 ρ6) H8 (Gv (plus F D) (wipe σ4 vs1) (wipeS ρ6 vs1)) H8 := Mv.sub fun a g => (gv_wipe n51 a).mp g
              refine q6 u hum (plus F D) A _ H8 (wipe σ4 vs1) ew1 x1 (Dv.mv sb1 _ _ dv1) _ fun σ9 ρ9 e9 g9 w9 q9 => ?_
              have wq1 : wipe σ9 vs1 = wipe σ4 vs1 := by rw [w9 vs1 hts1]; exact wipe_wipe vs1 fun i h => h
              refine ⟨wq1, ?_⟩
              have m9 : Mv (Gv (plus F D) (wipe σ4 vs1) (wipeS ρ6 vs1)) H8 (Gv (plus F D) σ9 ρ9) H8 := Mv.sub g9
              have fin1 : ∀ {ρx : List SV} {Hx : Hp}, En K cp (plus F D) A (upd H0 D (.lst us)) Hx σ9 ρx → Mv (Gv (plus F D) σ9 ρ9) H8 (Gv (plus F D) σ9 ρx) Hx → wipeS ρx vs1 = wipeS ρ6 vs1 → nown ρx vs1 →
                  Hx D = some (.lst us) ∧ En K cp (plus F D) A H0 Hx σ4 ρ6 ∧ Mv (Gv (plus F D) σ4 ρ6) H6 (Gv (plus F D) σ4 ρ6) Hx ∧ DvA K cp (Gv (plus F D) σ4 ρ6) Hx us (out (xs.take i) ++ inn t ((ys t).take j)) ∧ (∀ a, Gv (plus F D) σ4 ρ6 a → Gv (plus F D) σ9 ρx a) := fun {ρx Hx} ex' mx wx nx => by
                obtain ⟨ea, ma⟩ := e8.back n51 wq1 (ex'.h0b (.inr rfl) h0D) (m9.tr mx) nx wx.symm (fun _ _ => rfl) rfl
                refine ⟨ex'.fr D _ hAD upd_same, ea, m7.tr ((Mv.ex ex1).tr ma), DvA.mv ma _ _ du8, fun a ga => ?_⟩
                rw [← gv_wipe (σ := σ9) nx a, wq1, wx, gv_wipe n51 a]
                exact ga
              refine (show DT K cp XC.q tt1 ρ9 _ from q9) (plus F D) A _ H8 σ9 e9 xq _ fun b1 ρ10 H10 e10 m10 ⟨hb1, q10⟩ => ?_
              cases b1 with
              | true =>
                rw [if_pos rfl] at q10
                refine iteT (DEs.go (show DEs K cp XC.q te ρ10 _ from q10) e10 xq fun z zd ρ11 H11 e11 m11 dz ⟨hzf, w11, n11⟩ => ?_)
                obtain ⟨f1, f2, f3, f4, f5⟩ := fin1 e11 (m10.tr m11) w11 n11
                obtain ⟨p1, p2⟩ := en_put f2 nF hA h0D f1 (.lst (us ++ [z]))
                have l1 := f4.len
                have lz : us.length < sizeLine := by
                  rw [l1, List.length_append]
                  have a1 := (hz i).1
                  have a2 := (hz i).2 t htm
                  have a3 : (inn t ((ys t).take j)).length ≤ (ys t).length := by
                    show (((List.take j (ys t)).filter (pd1 t)).map (f t)).length ≤ _
                    rw [List.length_map]
                    exact Nat.le_trans (List.length_filter_le _ _) (by rw [List.length_take]; omega)
                  have a4 : (out (xs.take i)).length ≤ 900000 := a1
                  exact Nat.lt_of_lt_of_le (show _ < 1800001 by omega) (by decide)
                refine ⟨us, f1, lz, us ++ [z], upd_same, ?_, p1, f3.tr p2⟩
                have e12 : out (xs.take i) ++ inn t ((ys t).take (j + 1)) = (out (xs.take i) ++ inn t ((ys t).take j)) ++ [zd] := by
                  rw [List.append_assoc]
                  congr 1
                  show (((ys t).take (j + 1)).filter (pd1 t)).map (f t) = (((ys t).take j).filter (pd1 t)).map (f t) ++ [zd]
                  rw [ht1, List.filter_append, List.map_append, List.filter_cons_of_pos hb1.symm, hzf]
                  rfl
                rw [e12]
                exact DvA.mv p2 _ _ (f4.app (.cons (Dv.mv (Mv.sub f5) _ _ dz) .nil))
              | false =>
                rw [if_neg (by decide)] at q10
                obtain ⟨f1, f2, f3, f4, f5⟩ := fin1 e10 m10 q10.1 q10.2
                refine iteF ⟨us, f1, ?_, f2, f3⟩
                have e12 : inn t ((ys t).take (j + 1)) = inn t ((ys t).take j) := by
                  show (((ys t).take (j + 1)).filter (pd1 t)).map (f t) = (((ys t).take j).filter (pd1 t)).map (f t)
                  rw [ht1, List.filter_append, List.filter_cons_of_neg (by rw [← hb1]; decide)]
                  simp
                rw [e12]
                exact f4
          · have ej : j = (ys t).length := by omega
            subst ej
            refine .inl ⟨by have := wk1.stops H7 ⟨_, m7⟩; rw [wl1] at this; exact this, fin e7 (m6.tr m7) hu du ?_⟩
            rw [outs hxi, ← hb, if_pos rfl, List.take_length]
    · have ei : i = xs.length := by omega
      subst ei
      refine .inl ⟨by have := wk.stops H2 ⟨_, m2⟩; rw [wl] at this; exact this, ?_⟩
      rw [List.take_length] at dw
      exact k _ (.n (.lst (out xs))) ρ1 H2 ⟨D, rfl, nF, h0D, e2, hA, m1.tr m2, _, hw, .lst dw⟩ q
end
end DD
set_option maxHeartbeats 1000000
/-! ==, repr of data. -/
namespace DD
open PySem PySem.Spec PyProof.Rows L2 GL
mutual
def pyD : D → PyData
  | .non => .none | .bl b => .bool b | .int i => .int i | .str x => .str x
  | .lst ds => .list (pyA ds) | .tup ds => .tuple (pyA ds)
  | .dk _ _ => .none | .ob _ _ _ => .none
def pyA : List D → List PyData
  | [] => []
  | d :: ds => pyD d :: pyA ds
end
mutual
/-- no dict, no instance; texts are texts; no truth among numbers where b is true -/
def okD' (b : Bool) : D → Bool
  | .non => true | .bl _ => !b | .int _ => true | .str x => PyData.canLay0 (.str x)
  | .lst ds => okA' b ds | .tup ds => okA' b ds
  | .dk _ _ => false | .ob _ _ _ => false
def okA' (b : Bool) : List D → Bool
  | [] => true
  | d :: ds => okD' b d && okA' b ds
end
section
variable {K : PySem.W.Frag} {cp : Cb} {X : XC} {ψ : AV → Prop} {G : Addr → Prop} {H : Hp} {v : V}
mutual
theorem Dv.dp {b : Bool} : ∀ (d : D) (v : V), Dv K cp G H v d → okD' b d = true → Dp K H v (pyD d)
  | .non, _, h, _ => by cases h; exact .non
  | .bl b, _, h, _ => by cases h; exact .bl b
  | .int i, _, h, _ => by cases h; exact .int i
  | .str x, _, h, _ => by cases h; exact .str x
  | .lst ds, _, h, o => by
    cases h with | @lst a vs _ h1 n h2 => exact .lst (SqL.of h1) (DvA.dp ds vs h2 o)
  | .tup ds, _, h, o => by
    cases h with
    | @tup a vs _ h1 n h2 => exact .tup (SqT.of h1) (DvA.dp ds vs h2 o)
    | @kt a vs _ h1 h2 => exact .tup (h1 H) (DvA.dp ds vs h2 o)
  | .dk _ _, _, _, o => by cases o
  | .ob _ _ _, _, _, o => by cases o
theorem DvA.dp {b : Bool} : ∀ (ds : List D) (vs : List V), DvA K cp G H vs ds → okA' b ds = true → DpAll K H vs (pyA ds)
  | [], _, h, _ => by cases h; exact .nil
  | d :: ds, _, h, o => by
    cases h with
    | cons h1 h2 =>
      have o : (okD' b d && okA' b ds) = true := o
      rw [Bool.and_eq_true] at o
      exact .cons (Dv.dp d _ h1 o.1) (DvA.dp ds _ h2 o.2)
end
theorem dt_dp {b : Bool} {d : D} (h : Dt K cp G H v d) (o : okD' b d = true) : Dp K H v (pyD d) := by
  rcases h with h | ⟨a, rfl, u, h1, h⟩
  · exact Dv.dp d v h o
  · cases h with
    | lst h2 => exact .lst (SqL.of h1) (DvA.dp _ _ h2 o)
    | dk _ _ => cases o
    | ob _ _ => cases o
mutual
theorem ok_lay {b : Bool} : ∀ d : D, okD' b d = true → (pyD d).canLay0 = true
  | .non, _ => rfl
  | .bl _, _ => rfl
  | .int _, _ => rfl
  | .str x, h => h
  | .lst ds, h => by show PyData.canLay0 (.list _) = true; simp only [PyData.canLay0]; exact ok_layA ds h
  | .tup ds, h => by show PyData.canLay0 (.tuple _) = true; simp only [PyData.canLay0]; exact ok_layA ds h
  | .dk _ _, h => by cases h
  | .ob _ _ _, h => by cases h
theorem ok_layA {b : Bool} : ∀ ds : List D, okA' b ds = true → PyData.canLayAll0 (pyA ds) = true
  | [], _ => rfl
  | d :: ds, h => by
    have h : (okD' b d && okA' b ds) = true := h
    rw [Bool.and_eq_true] at h
    show PyData.canLayAll0 (_ :: _) = true
    simp only [PyData.canLayAll0, ok_lay d h.1, ok_layA ds h.2]; rfl
end
mutual
/-- == of data without truths tells the same data -/
theorem eqv_iff : ∀ x y : D, okD' true x = true → okD' true y = true → (PyData.eqv (pyD x) (pyD y) = true ↔ x = y)
  | .lst xs, y, hx, hy => by
    cases y with
    | lst ys => simp only [pyD, PyData.eqv, eqvA_iff xs ys hx hy, D.lst.injEq]
    | dk _ _ => cases hy
    | ob _ _ _ => cases hy
    | _ => simp [pyD, PyData.eqv]
  | .tup xs, y, hx, hy => by
    cases y with
    | tup ys => simp only [pyD, PyData.eqv, eqvA_iff xs ys hx hy, D.tup.injEq]
    | dk _ _ => cases hy
    | ob _ _ _ => cases hy
    | _ => simp [pyD, PyData.eqv]
  | .non, y, hx, hy => by
    cases y with
    | dk _ _ => cases hy
    | ob _ _ _ => cases hy
    | _ => simp [pyD, PyData.eqv]
  | .int i, y, hx, hy => by
    cases y with
    | dk _ _ => cases hy
    | ob _ _ _ => cases hy
    | bl _ => cases hy
    | _ => simp [pyD, PyData.eqv]
  | .str i, y, hx, hy => by
    cases y with
    | dk _ _ => cases hy
    | ob _ _ _ => cases hy
    | _ => simp [pyD, PyData.eqv]
  | .bl _, y, hx, hy => by cases hx
  | .dk _ _, y, hx, hy => by cases hx
  | .ob _ _ _, y, hx, hy => by cases hx
theorem eqvA_iff : ∀ xs ys : List D, okA' true xs = true → okA' true ys = true → (PyData.eqvAll (pyA xs) (pyA ys) = true ↔ xs = ys)
  | [], [], _, _ => by simp [pyA, PyData.eqvAll]
  | [], y :: ys, _, _ => by simp [pyA, PyData.eqvAll]
  | x :: xs, [], _, _ => by simp [pyA, PyData.eqvAll]
  | x :: xs, y :: ys, hx, hy => by
    have hx : (okD' true x && okA' true xs) = true := hx
    have hy : (okD' true y && okA' true ys) = true := hy
    rw [Bool.and_eq_true] at hx hy
    simp only [pyA, PyData.eqvAll, Bool.and_eq_true, eqv_iff x y hx.1 hy.1, eqvA_iff xs ys hx.2 hy.2, List.cons.injEq]
end
/-- data that == and repr serve: Z deep, of W's weight -/
structure Sz (b : Bool) (x : D) (Z W : Nat) : Prop where
  o : okD' b x = true
  s : (pyD x).showable = true
  l : (pyD x).leavesShort 100 = true
  z : (pyD x).depth ≤ Z
  w : (pyD x).weight ≤ W
structure SzA (b : Bool) (xs : List D) (Z W : Nat) : Prop where
  o : okA' b xs = true
  s : PyData.showableAll (pyA xs) = true
  l : PyData.leavesShortAll 100 (pyA xs) = true
  z : PyData.depthAll (pyA xs) ≤ Z
  w : PyData.weightAll (pyA xs) ≤ W
variable {b : Bool}
theorem Sz.le {x : D} {Z W Z' W' : Nat} (h : Sz b x Z W) (hZ : Z ≤ Z') (hW : W ≤ W') : Sz b x Z' W' := ⟨h.o, h.s, h.l, Nat.le_trans h.z hZ, Nat.le_trans h.w hW⟩
theorem SzA.le {x : List D} {Z W Z' W' : Nat} (h : SzA b x Z W) (hZ : Z ≤ Z') (hW : W ≤ W') : SzA b x Z' W' := ⟨h.o, h.s, h.l, Nat.le_trans h.z hZ, Nat.le_trans h.w hW⟩
theorem SzA.nil {Z W : Nat} : SzA b [] Z W := ⟨rfl, rfl, rfl, Nat.zero_le _, Nat.zero_le _⟩
theorem SzA.cons {x : D} {xs : List D} {Z W W' : Nat} (h : Sz b x Z W) (r : SzA b xs Z W') : SzA b (x :: xs) Z (W + 1 + W') :=
  ⟨by show (okD' b x && okA' b xs) = true; rw [h.o, r.o]; rfl, by show PyData.showableAll (_ :: _) = true; simp only [PyData.showableAll, h.s, r.s]; rfl, by show PyData.leavesShortAll 100 (_ :: _) = true; simp only [PyData.leavesShortAll, h.l, r.l]; rfl, by
    have h1 := h.z
    have h2 := r.z
    show PyData.depthAll (_ :: _) ≤ _
    simp only [PyData.depthAll]; omega, by
    have h1 := h.w
    have h2 := r.w
    show PyData.weightAll (_ :: _) ≤ _
    simp only [PyData.weightAll]; omega⟩
theorem Sz.lst {xs : List D} {Z W : Nat} (h : SzA b xs Z W) : Sz b (.lst xs) (Z + 1) W :=
  ⟨h.o, by simp only [pyD, PyData.showable]; exact h.s, by simp only [pyD, PyData.leavesShort]; exact h.l, by have := h.z; simp only [pyD, PyData.depth]; omega, by have := h.w; simp only [pyD, PyData.weight]; omega⟩
theorem Sz.tup {xs : List D} {Z W : Nat} (h : SzA b xs Z W) : Sz b (.tup xs) (Z + 1) W :=
  ⟨h.o, by simp only [pyD, PyData.showable]; exact h.s, by simp only [pyD, PyData.leavesShort]; exact h.l, by have := h.z; simp only [pyD, PyData.depth]; omega, by have := h.w; simp only [pyD, PyData.weight]; omega⟩
theorem Sz.non {Z W : Nat} : Sz b .non Z W := ⟨rfl, rfl, rfl, Nat.zero_le _, Nat.zero_le _⟩
theorem Sz.bl {c : Bool} {Z W : Nat} : Sz false (.bl c) Z W := ⟨rfl, rfl, rfl, by simp [pyD, PyData.depth], by simp [pyD, PyData.weight]⟩
theorem Sz.int {i : Int} {Z n : Nat} (h : i.natAbs < 2 ^ n) (hn : n ≤ 200) : Sz b (.int i) Z (n + 1) := by
  have h1 : i.natAbs < 10 ^ 65 := Nat.lt_of_lt_of_le h (Nat.le_trans (Nat.pow_le_pow_right (by decide) hn) (by decide))
  have h2 : i.natAbs = 0 ∨ i.natAbs.log2 < n := by
    by_cases h0 : i.natAbs = 0
    · exact .inl h0
    · exact .inr ((Nat.log2_lt h0).mpr h)
  refine ⟨rfl, ?_, ?_, by simp [pyD, PyData.depth], ?_⟩
  · simp only [pyD, PyData.showable, decide_eq_true_eq]
    rcases h2 with h2 | h2
    · rw [h2]; decide
    · omega
  · have e := int_text_length_le10 (k := 65) (by decide) h1
    simp only [pyD, PyData.leavesShort, decide_eq_true_eq]
    show (Str.ofString (toString i)).length ≤ 100
    rw [PySem.ofString_length]; omega
  · simp only [pyD, PyData.weight]
    split
    · omega
    · rename_i c
      rcases h2 with h2 | h2
      · exact absurd (by simp; omega) c
      · omega
theorem Sz.str {x : Str} {Z W : Nat} (h1 : PyData.canLay0 (.str x) = true) (h2 : PyData.leavesShort 100 (.str x) = true) (h3 : x.length ≤ W) : Sz b (.str x) Z W := ⟨h1, rfl, h2, by simp [pyD, PyData.depth], h3⟩
theorem pyA_map {T : Type} {f : T → D} {Z W : Nat} : ∀ {xs : List T}, (∀ x ∈ xs, Sz b (f x) Z W) → SzA b (xs.map f) Z (xs.length * (W + 1))
  | [], _ => SzA.nil
  | x :: xs, h => (SzA.cons (h x List.mem_cons_self) (pyA_map fun y hy => h y (List.mem_cons_of_mem _ hy))).le (Nat.le_refl _) (by rw [List.length_cons, Nat.succ_mul]; omega)
theorem Sz.shaped {x : D} {Z W : Nat} (h : Sz b x Z W) (hZ : Z ≤ 64) : SeqAt.shaped (pyD x) = true := by
  unfold SeqAt.shaped
  rw [ok_lay x h.o, Bool.true_and]
  exact decide_eq_true (Nat.le_trans h.z hZ)
/-- == of data without truths -/
theorem r2_eqD {x y : D} {Z W Z' W' : Nat} (hx : Sz true x Z W) (hy : Sz true y Z' W') (hZ : Z ≤ 64) (hZ' : Z' ≤ 64) (q : ∀ c : Bool, (c = true ↔ x = y) → ψ (.d (.bl c))) : R2d K cp (rEqX K) x y ψ := fun G H u w Q hu hw k =>
  .inr ⟨pyD x, pyD y, dt_dp hu hx.o, dt_dp hw hy.o, hx.shaped hZ, hy.shaped hZ', k _ (.d (.bl _)) H (rx_flat (.bl _)) (q _ (eqv_iff x y hx.o hy.o))⟩
/-- xs == [] -/
theorem r2_eqNil {xs : List D} (q : ψ (.d (.bl xs.isEmpty))) : R2d K cp (rEqX K) (.lst xs) (.lst []) ψ := fun G H u w Q hu hw k => by
  obtain ⟨a, vs, rfl, r, dv⟩ := dt_lst hu
  obtain ⟨a2, vs2, rfl, r2, dv2⟩ := dt_lst hw
  cases dv2
  refine .inl ⟨a, a2, vs, rfl, rfl, r, r2, ?_⟩
  have : vs.isEmpty = xs.isEmpty := by cases dv <;> rfl
  rw [this]
  exact k _ (.d (.bl _)) H (rx_flat (.bl _)) q
/-! repr(x) -/
mutual
theorem ok_nodict : ∀ d : D, okD' b d = true → (pyD d).hasDict = false
  | .non, _ => rfl
  | .bl _, _ => rfl
  | .int _, _ => rfl
  | .str x, h => rfl
  | .lst ds, h => by show PyData.hasDict (.list _) = false; simp only [PyData.hasDict]; exact ok_nodictA ds h
  | .tup ds, h => by show PyData.hasDict (.tuple _) = false; simp only [PyData.hasDict]; exact ok_nodictA ds h
  | .dk _ _, h => by cases h
  | .ob _ _ _, h => by cases h
theorem ok_nodictA : ∀ ds : List D, okA' b ds = true → PyData.hasDictAll (pyA ds) = false
  | [], _ => rfl
  | d :: ds, h => by
    have h : (okD' b d && okA' b ds) = true := h
    rw [Bool.and_eq_true] at h
    show PyData.hasDictAll (_ :: _) = false
    simp only [PyData.hasDictAll, ok_nodict d h.1, ok_nodictA ds h.2]; rfl
end
theorem rl_repr {x : D} {Z W : Nat} (hx : Sz b x Z W) (hZ : Z ≤ 60) (hW : W ≤ 100000) (q : ψ (.d (.str (pyD x).shown))) : RLd K cp (rReprX K) [x] ψ := fun G H us Q h k => by
  obtain ⟨u, rfl, hu⟩ := dta1 h
  refine .inr ⟨u, pyD x, rfl, dt_dp hu hx.o, hx.s, ok_nodict x hx.o, Nat.le_trans hx.z hZ, ?_, k _ (.d (.str _)) H (rx_flat (.str _)) q⟩
  have h1 := PyData.shown_le 100 (by decide) (pyD x) hx.l
  have h2 : (100 + 2) * (pyD x).weight ≤ 102 * 100000 := Nat.mul_le_mul (Nat.le_refl _) (Nat.le_trans hx.w hW)
  rw [sizeLine_eq]
  omega
end
end DD
set_option maxHeartbeats 1000000
/-! Instances made, fields stored; pairs walked; dicts by comprehension. -/
namespace DD
open PySem PySem.Spec PyProof.Rows L2 GL
section
variable {K : PySem.W.Frag} {cp : Cb} {X : XC} {ψ : AV → Prop} {F : Addr → Prop} {A : List (Nat × Addr)} {G : Addr → Prop} {H0 H H' H1 H2 : Hp} {σ : L2.St} {v : V} {ρ ρ1 : List SV} {Φ : AV → List SV → Prop} {N : List SV → Prop} {R : AV → List SV → Prop} {B C : List SV → Prop}
theorem argS_oks : ∀ {ps : List OP} {ds : List D}, oks ps = some ds → argS ρ ps = some (ds.map .sh)
  | [], ds, h => by cases h; rfl
  | .d d :: ps, ds, h => by
    obtain ⟨ds', h1, rfl⟩ := Option.map_eq_some_iff.mp (show (oks ps).map (d :: ·) = some ds from h)
    show (argS ρ ps).map (SV.sh d :: ·) = _
    rw [argS_oks h1]; rfl
  | .o i :: ps, ds, h => by cases h
/-- the new thing at D changes as it likes -/
theorem en_new {D : Addr} {o o' : HO} (e : En K cp (plus F D) A H0 H σ ρ) (nF : ¬ F D) (hA : ∀ x ∈ A, F x.2) (h0 : H0 D = none) (hD : H D = some o) (hD' : H' D = some o') (hm : ∀ a u, a ≠ D → H a = some u → Sm u H' a) (tb : LamX.Tabs cp.T H') (hk : OwK o) : En K cp (plus F D) A H0 H' σ ρ ∧ Mv (Gv (plus F D) σ ρ) H (Gv (plus F D) σ ρ) H' := by
  have m : Mv (Gv (plus F D) σ ρ) H (Gv (plus F D) σ ρ) H' := ⟨fun a u n h => ⟨n, hm a u (fun z => n (.inl (.inr z))) h⟩⟩
  refine ⟨⟨e.len, fun a f => ?_, fun a u hx q => ?_, tb, e.io, e.dj, e.ow, fun i s h => ?_⟩, m⟩
  · by_cases z : a = D
    · subst z; exact ⟨_, hD'⟩
    · obtain ⟨u, hu⟩ := e.tr a f; exact (hm a u z hu).is
  · exact (e.fr a u hx q).tr fun w hw => hm a w (ne_of_none q h0) hw
  · have ne : ∀ b ds a, s = .ow b ds → σ[i]? = some (some (.ref a)) → a ≠ D := fun b ds a q1 q2 => by
      subst q1
      have q := e.ow i b ds a h q2
      rintro rfl
      split at q
      · exact nF (hA _ q)
      · exact q.1 (.inr rfl)
    have z := e.sl i s h
    cases s with
    | no => trivial
    | sh d => obtain ⟨v, h1, h2⟩ := z; exact ⟨v, h1, Dv.mv m _ _ h2⟩
    | ow b c =>
      obtain ⟨a, h1, u, h2, h3⟩ := z
      exact ⟨a, h1, u, (hm a u (ne b c a rfl h1) h2).to h3.nt, h3.mv m⟩
/-- C(..): a new instance, as its __init__ leaves it -/
theorem make_ct {n c : Nat} {Ci : CtX} {E : XK} {ps : List OP} {vs : List V} {ds : List D} {Q : VK} {Φ : AV → Prop} {Ψ : Nat → List Str → List D → Prop} (e1 : En K cp F A H0 H1 σ ρ1) (o1 : Paired (OPv K cp F σ ρ1 H1) vs ps) (hd : oks ps = some ds) (hn : ps.length = n)
    (hc : Ci (.ow true (.ob c [] []) :: ds.map .sh) (fun r ρc => r = .d .non ∧ ∀ ob, ρc[0]? = some (.ow true ob) → Φ (.n ob)) fun i ns es _ => Ψ i ns es)
    (k : ∀ v r ρ' H', Res K cp F A H0 σ ρ1 H1 v r ρ' H' → ρ' = ρ1 → Φ r → Q v H')
    (kx : ∀ i es fs dd H', En K cp F A H0 H' σ ρ1 → H' dd = some (exd dd fs) → DvA K cp (Gv F σ ρ1) H' (fs.map (·.2)) es → Ψ i (fs.map (·.1)) es → E (.ref (cp.x i)) (some dd) H') :
    tMake (cp.c c) (spX K cp (n + 1) Ci) [] E (fun σ' H' Q' => σ' = σ ∧ H' = H1 ∧ Q' vs H1) σ H1 Q := by
    refine ⟨rfl, rfl, ?_⟩
    intro x dx hx hdx hne
    have hxdx : upd H1 dx (.own x) x = none := by rw [upd_ne (fun z => hne z.symm)]; exact hx
    have ex1 : Ex H1 (upd (upd H1 dx (.own x)) x (.ins (cp.c c) dx [])) := (Ex.nw hdx).tr (Ex.nw hxdx)
    have e2 := e1.plus hx ex1 (H' := upd (upd H1 dx (.own x)) x (.ins (cp.c c) dx [])) upd_same
    have dv := oks_ok o1 hd
    have m2 : Mv (Gv F σ ρ1) H1 (Gv (plus F x) σ ρ1) (upd (upd H1 dx (.own x)) x (.ins (cp.c c) dx [])) := (Mv.nw hx).tr ((Mv.ex ex1).tr (Mv.sub gv_plus))
    have dv2 := DvA.mv m2 _ _ dv
    have gx : Gv (plus F x) σ ρ1 x := .inl (.inr rfl)
    have pr : ∀ {us : List V} {es : List D}, DvA K cp (Gv (plus F x) σ ρ1) (upd (upd H1 dx (.own x)) x (.ins (cp.c c) dx [])) us es → Paired (PR K cp (Gv (plus F x) σ ρ1) (upd (upd H1 dx (.own x)) x (.ins (cp.c c) dx []))) us (es.map .sh) := by
      intro us
      induction us with
      | nil => intro es h; cases h; exact .nil
      | cons u us ih => intro es h; cases h with | cons a b => exact .cons a (ih b)
    have only : ∀ (i : Nat) (b : Bool) (d : D), (SV.ow true (.ob c [] []) :: ds.map SV.sh)[i]? = some (.ow b d) → i = 0 := fun i b d z => by
      cases i with
      | zero => rfl
      | succ i =>
        rw [List.getElem?_cons_succ, List.getElem?_map] at z
        cases q : ds[i]? with
        | none => rw [q] at z; cases z
        | some y => rw [q] at z; cases z
    have nF : ¬ F x := fun f => e1.notF hx (.inl f)
    have back : ∀ {H' : Hp} {ρc : List SV}, Bk K cp (.ow true (.ob c [] []) :: ds.map .sh) (.ref x :: (vs ++ [])) (upd (upd H1 dx (.own x)) x (.ins (cp.c c) dx [])) (Gv (plus F x) σ ρ1) H' ρc →
        ∃ ob, ρc[0]? = some (.ow true ob) ∧ OwOk K cp (Gv (plus F x) σ ρ1) H' x ob ∧ En K cp (plus F x) A H0 H' σ ρ1 ∧ Mv (Gv (plus F x) σ ρ1) (upd (upd H1 dx (.own x)) x (.ins (cp.c c) dx [])) (Gv (plus F x) σ ρ1) H' := fun {H' ρc} bk => by
      obtain ⟨ob, hob, u, hu, how⟩ := bk.ho 0 true _ x rfl rfl
      have hm' : ∀ a u, a ≠ x → (upd (upd H1 dx (.own x)) x (.ins (cp.c c) dx [])) a = some u → Sm u H' a := fun a u na ha => bk.hm a u (fun i b d h1 h2 => by
        have := only i b d h1
        subst this
        simp at h2
        exact na h2.symm) ha
      obtain ⟨e3, m3⟩ := en_new e2 nF (fun y hy => (e1.io y hy).1) (e1.none0 hx) upd_same hu hm' bk.tb trivial
      exact ⟨ob, hob, ⟨u, hu, how⟩, e3, m3⟩
    refine ⟨Gv (plus F x) σ ρ1, _, _, _, by rw [List.length_cons, List.append_nil, dv.len, ← hn]; congr 1; exact (dv.len.symm.trans (Paired.len o1)), (.cons (show PR K cp (Gv (plus F x) σ ρ1) _ (.ref x) (.ow true (.ob c [] [])) from ⟨rfl, x, rfl, gx, _, upd_same, .ob rfl .nil⟩) (by rw [List.append_nil]; exact pr dv2)), e2.trk, fun i j a b b' d d' h1 h2 _ _ => (only i b d h1).trans (only j b' d' h2).symm, e2.tb, hc, fun w r ρc H' F' φ hr bk => ?_, fun i es fs dd ρc H' ψ h1 h2 bk => ?_⟩
    · obtain ⟨er, φ⟩ := φ
      subst er
      obtain ⟨rfl, dvn⟩ := hr
      refine ⟨by cases dvn; rfl, ?_⟩
      obtain ⟨ob, hob, how, e3, m3⟩ := back bk
      exact k _ (.n ob) ρ1 H' ⟨x, rfl, nF, e1.none0 hx, e3, fun y hy => (e1.io y hy).1, m2.tr m3, how⟩ rfl (φ ob hob)
    · obtain ⟨ob, hob, how, e3, m3⟩ := back bk
      exact kx i es fs dd H' (e3.minus fun y hy => (e1.io y hy).1) h1 (DvA.mv (Mv.sub (gv_sub x)) _ _ h2) ψ
theorem DE.make {n c : Nat} {Ci : Ct} {E : XK} {t : TA} (h : DAo K cp X t ρ fun ps ρ1 => ∃ ds, oks ps = some ds ∧ ps.length = n ∧ Ci (.ow true (.ob c [] []) :: ds.map .sh) fun r ρc => r = .d .non ∧ ∀ ob, ρc[0]? = some (.ow true ob) → Φ (.n ob) ρ1) : DE K cp X (tMake (cp.c c) (spC K cp (n + 1) Ci) [] E t) ρ Φ := fun F A H0 H σ e hx Q k =>
  h F A H0 H σ e hx _ fun vs ps ρ1 H1 e1 m1 o1 ⟨ds, hd, hn, hc⟩ =>
    (make_ct (Ci := fun ss Φ _ => Ci ss Φ) (Φ := fun r => Φ r ρ1) (Ψ := fun _ _ _ => False) e1 o1 hd hn hc (fun v r ρ' H' rs er φ => k v r ρ' H' (rs.tr m1) (er ▸ φ)) fun _ _ _ _ _ _ _ _ z => z.elim).2.2
/-- .. whose __init__ may raise -/
theorem DE.makeX {n c : Nat} {Ci : CtX} {t : TA} (h : DAo K cp X t ρ fun ps ρ1 => ∃ ds, oks ps = some ds ∧ ps.length = n ∧ Ci (.ow true (.ob c [] []) :: ds.map .sh) (fun r ρc => r = .d .non ∧ ∀ ob, ρc[0]? = some (.ow true ob) → Φ (.n ob) ρ1) fun i ns es _ => X.P i ns es ρ1) : DE K cp X (tMake (cp.c c) (spX K cp (n + 1) Ci) [] X.E t) ρ Φ := fun F A H0 H σ e hx Q k =>
  h F A H0 H σ e hx _ fun vs ps ρ1 H1 e1 m1 o1 ⟨ds, hd, hn, hc⟩ =>
    (make_ct (Φ := fun r => Φ r ρ1) (Ψ := fun i ns es => X.P i ns es ρ1) e1 o1 hd hn hc (fun v r ρ' H' rs er φ => k v r ρ' H' (rs.tr m1) (er ▸ φ)) fun i es fs dd H' e2 h1 h2 h3 => hx.x i es fs dd _ _ e2 h1 h2 h3).2.2
theorem putF_new : ∀ {fs : List (Str × V)} {f : Str} {v : V}, f ∉ fs.map (·.1) → putF f v fs = fs ++ [(f, v)]
  | [], f, v, _ => rfl
  | (g, x) :: r, f, v, h => by
    show (if g = f then (g, v) :: r else (g, x) :: putF f v r) = _
    rw [if_neg (fun z => h (by rw [← z]; exact List.mem_cons_self)), putF_new fun z => h (List.mem_cons_of_mem _ z)]
    rfl
/-- self.f = e, a field that it did not have -/
theorem DS.fldN {i : Nat} {tv : TE} {f : Str} (h : DEs K cp X tv ρ fun y ρ1 => ∃ b c ns ds, ρ1[i]? = some (.ow b (.ob c ns ds)) ∧ Cls K (cp.c c) ∧ NoAttr K (cp.c c) f ∧ f ∉ ns ∧ ns.length < 1000 ∧ N (ρ1.set i (.ow b (.ob c (ns ++ [f]) (ds ++ [y]))))) : DS K cp X (sFld K (tVar i) tv f) ρ N R B C := fun F A H0 H σ e hx Dd n r b c =>
  h.go e (hx _) fun v y ρ1 H1 e1 m1 dv ⟨b, c, ns, ds, hb, hc, hn, hf, hl, q⟩ => by
    obtain ⟨a, ha, _⟩ := e1.sl i _ hb
    obtain ⟨dx, fs, h1, h2, h3⟩ := own_ob e1 hb ha
    have pe : putF f v fs = fs ++ [(f, v)] := putF_new (by rw [h2]; exact hf)
    obtain ⟨e2, m2⟩ := en_upd1 (o' := .ins (cp.c c) dx (fs ++ [(f, v)])) (ds' := .ob c (ns ++ [f]) (ds ++ [y])) e1 hb ha (.ob (by rw [List.map_append, h2]; rfl) (by rw [List.map_append]; exact h3.app (.cons dv .nil)))
    refine ⟨_, ha, a, cp.c c, dx, fs, rfl, h1, hc, hn, by rw [← h2, List.length_map] at hl; exact hl, ?_⟩
    rw [pe]
    exact n _ _ _ e2 (m1.tr m2) q
/-! ### pairs -/
theorem wk_pair {J : It} {xs ys : Nat → Option V} {n : Nat} {ds : List D} (hn : n = ds.length) (w : Walk J n (fun H' => ∃ G', Mv G H G' H') (YPair xs ys))
    (h : ∀ i x y, xs i = some x → ys i = some y → ∃ d e, ds[i]? = some (.tup [d, e]) ∧ Dv K cp G H x d ∧ Dv K cp G H y e) : Wk K cp J ds G H := by
  subst hn
  refine w.mono (fun _ z => z) fun i H1 x H2 hi _ yy => ?_
  obtain ⟨T, x', y', rfl, hT, rfl, h1, h2⟩ := yy
  refine ⟨Ex.nw hT, fun G2 m tr => ?_⟩
  obtain ⟨d, e, h3, h4, h5⟩ := h i x' y' h1 h2
  exact ⟨_, h3, .tup upd_same (tr.no hT) (.cons (Dv.mv (m.tr (Mv.ex (Ex.nw hT))) _ _ h4) (.cons (Dv.mv (m.tr (Mv.ex (Ex.nw hT))) _ _ h5) .nil))⟩
theorem DI.zip {ta : TA} {Ψ : List D → List SV → Prop} (h : DAo K cp X ta ρ fun ps ρ1 => ∃ xs ys, ps = [.d (.lst xs), .d (.lst ys)] ∧ Ψ ((xs.zip ys).map fun p => .tup [p.1, p.2]) ρ1) : DI K cp X (iZip K ta) ρ Ψ := fun F A H0 H σ e hx Q k =>
  h F A H0 H σ e hx _ fun vs ps ρ1 H1 e1 m1 o1 ⟨xs, ys, hp, ψ⟩ => by
    subst hp
    cases o1 with
    | cons o1 o2 =>
      cases o2 with
      | cons o2 o3 =>
        cases o3
        cases o1 with
        | @lst a us _ h1 n1 d1 =>
          cases o2 with
          | @lst b ws _ h2 n2 d2 =>
            refine ⟨a, b, us, ws, rfl, .inl (.inl h1), .inl (.inl h2), k _ _ ρ1 H1 e1 m1 (wk_pair (n := min us.length ws.length) (by rw [List.length_map, List.length_zip, d1.len, d2.len]) ((walk_zip rfl).mono (fun H' ⟨G', m⟩ => ⟨.inl (.inl (m.k _ _ n1 h1).2), .inl (.inl (m.k _ _ n2 h2).2)⟩) fun _ _ _ _ _ _ y => y) fun i x y hx hy => ?_) ψ⟩
            obtain ⟨d, h3, h4⟩ := d1.at hx
            obtain ⟨d', h5, h6⟩ := d2.at hy
            refine ⟨d, d', ?_, h4, h6⟩
            have hz : (xs.zip ys)[i]? = some (d, d') := List.getElem?_zip_eq_some.mpr ⟨h3, h5⟩
            rw [List.getElem?_map, hz]
            rfl
def enumD (xs : List D) : List D := (List.range xs.length).map fun (i : Nat) => .tup [.int (i : Int), xs.getD i .non]
theorem DI.enum {ta : TA} {Ψ : List D → List SV → Prop} (h : DAo K cp X ta ρ fun ps ρ1 => ∃ xs, ps = [.d (.lst xs)] ∧ Ψ (enumD xs) ρ1) : DI K cp X (iEnum K ta) ρ Ψ := fun F A H0 H σ e hx Q k =>
  h F A H0 H σ e hx _ fun vs ps ρ1 H1 e1 m1 o1 ⟨xs, hp, ψ⟩ => by
    subst hp
    cases o1 with
    | cons o1 o2 =>
      cases o2
      cases o1 with
      | @lst a us _ h1 n1 d1 =>
        refine ⟨a, us, rfl, .inl (.inl h1), k _ _ ρ1 H1 e1 m1 (wk_pair (n := us.length) (by unfold enumD; rw [List.length_map, List.length_range, d1.len]) (walk_enum.mono (fun H' ⟨G', m⟩ => .inl (.inl (m.k _ _ n1 h1).2)) fun _ _ _ _ _ _ y => y) fun i x y hx hy => ?_) ψ⟩
        obtain ⟨d, h3, h4⟩ := d1.at hy
        cases hx
        refine ⟨.int i, d, ?_, .int _, h4⟩
        unfold enumD
        rw [List.getElem?_map, List.getElem?_range (List.getElem?_eq_some_iff.mp h3).1]
        simp [List.getD, h3]
end
end DD
set_option maxHeartbeats 1000000
/-! sorted over data; tuples of the module. -/
namespace DD
open PySem PySem.Spec PyProof.Rows L2 GL
section
variable {X : Cx}
/-- sorted(xs): any data that are alike, by Python's order, stable -/
def rSortedD (K : PySem.W.Frag) : List V → Hp → VK → Prop := fun vs H Q => ∃ (a : Addr) (zs : List (V × PyData)), vs = [V.ref a] ∧ SqL K H a (zs.map (·.1)) ∧ (∀ z ∈ zs, Dp K H z.1 z.2) ∧ PySem.W.AllAlike (zs.map (·.2)) ∧ PySem.W.Sortable (zs.map (·.2)) ∧ (∀ z ∈ zs, z.2.depth ≤ 60) ∧
  ∀ p, H p = none → Q (.ref p) (upd H p (.lst ((zs.mergeSort (PySem.W.dataLe false (·.2))).map (·.1))))
theorem each_vals : ∀ {zs : List (V × PyData)} {us : List Value}, Vals (zs.map (·.1)) us → PySem.W.EachIs (fun (u : Value) (z : V × PyData) => RelV z.1 u) us zs
  | [], [], _ => .nil
  | z :: zs, u :: us, .cons a b => .cons a (each_vals b)
theorem vals_each : ∀ {zs : List (V × PyData)} {us : List Value}, PySem.W.EachIs (fun (u : Value) (z : V × PyData) => RelV z.1 u) us zs → Vals (zs.map (·.1)) us
  | [], [], _ => .nil
  | z :: zs, u :: us, .cons a b => .cons a (vals_each b)
theorem each_reads {pins : List (Addr × Obj)} {σ : L2.St} {H : Hp} {s : Shared} (I : Inv X pins σ H s) : ∀ {zs : List (V × PyData)} {us : List Value}, (∀ z ∈ zs, Dp X.K H z.1 z.2) → Vals (zs.map (·.1)) us → PySem.W.EachIs (fun (u : Value) (z : V × PyData) => ∃ as, Reads s.heap u z.2 as) us zs
  | [], [], _, _ => .nil
  | z :: zs, u :: us, h, .cons a b => .cons (Dp.reads I z.2 z.1 u (h z List.mem_cons_self) a) (each_reads I (fun y hy => h y (List.mem_cons_of_mem _ hy)) b)
theorem cr_sortedD {j : Nat} (rm : Room j X.A) : CallR X (.builtin "sorted") (rSortedD X.K) := by
  intro pins s σ H vs us Q I r h
  obtain ⟨a, zs, rfl, hs, hd, hal, hso, hz, q⟩ := h
  obtain ⟨its, rv, hl, hsz⟩ := I.list hs
  rw [Vals.ref1 r]
  have hu := rm.units
  refine PySem.W.sorted_data (R := fun (u : Value) (z : V × PyData) => RelV z.1 u) (enc := fun z : V × PyData => z.2) hl.isList (each_vals rv) (each_reads I hd rv) hal hso (by rw [List.length_map] at hsz; exact hsz) (fun b hb => by have := hz b hb; omega) fun out ho eo => ?_
  obtain ⟨ep, he'⟩ := PyProof.Rows.sortedAll_at s.heap its out.toArray
  have hlen : ((zs.mergeSort (PySem.W.dataLe false (·.2))).map (·.1)).length ≤ sizeLine := by
    rw [List.length_map, List.length_mergeSort]
    rw [List.length_map] at hsz
    exact hsz
  exact ⟨.ref _, upd H (s.heap.objs.size + 1) (.lst ((zs.mergeSort (PySem.W.dataLe false (·.2))).map (·.1))), I.laid (t' := s.toks) (fun _ _ => PyProof.Rows.sortedAll_old) (Nat.le_succ _) ⟨hlen, out, ep, vals_each eo, he'⟩, rfl, q _ (I.hok.fresh (Nat.le_succ _))⟩
end
section
variable {K : PySem.W.Frag} {cp : Cb} {X : XC} {ψ : AV → Prop} {G : Addr → Prop} {H : Hp} {v : V} {ρ : List SV} {Φ : AV → List SV → Prop}
def leD (x y : D) : Bool := PySem.W.dataLe false pyD x y
theorem dva_zip {b : Bool} : ∀ {vs : List V} {xs : List D}, DvA K cp G H vs xs → ∃ zs : List (V × D), zs.map (·.1) = vs ∧ zs.map (·.2) = xs ∧ ∀ z ∈ zs, Dv K cp G H z.1 z.2
  | [], [], _ => ⟨[], rfl, rfl, fun _ h => by cases h⟩
  | v :: vs, x :: xs, .cons a b' => by
    obtain ⟨zs, h1, h2, h3⟩ := dva_zip (b := b) b'
    exact ⟨(v, x) :: zs, by rw [List.map_cons, h1], by rw [List.map_cons, h2], fun z hz => by
      rcases List.mem_cons.mp hz with rfl | hz
      · exact a
      · exact h3 z hz⟩
theorem dva_of : ∀ {zs : List (V × D)}, (∀ z ∈ zs, Dv K cp G H z.1 z.2) → DvA K cp G H (zs.map (·.1)) (zs.map (·.2))
  | [], _ => .nil
  | z :: zs, h => .cons (h z List.mem_cons_self) (dva_of fun y hy => h y (List.mem_cons_of_mem _ hy))
theorem rl_sortedD {b : Bool} {xs : List D} (ho : ∀ x ∈ xs, okD' b x = true) (hd : ∀ x ∈ xs, (pyD x).depth ≤ 60) (hal : PySem.W.AllAlike (xs.map pyD)) (hso : PySem.W.Sortable (xs.map pyD)) (q : ψ (.n (.lst (xs.mergeSort leD)))) : RLd K cp (rSortedD K) [.lst xs] ψ := fun G H us Q h k => by
  obtain ⟨u, rfl, hu⟩ := dta1 h
  obtain ⟨p, vs, rfl, r, dv⟩ := dt_lst hu
  obtain ⟨zs, rfl, rfl, hz⟩ := dva_zip (b := b) dv
  have hm : ∀ z ∈ zs, z.2 ∈ zs.map (·.2) := fun z h => List.mem_map.mpr ⟨z, h, rfl⟩
  have e1 : (zs.map fun z => (z.1, pyD z.2)).map (·.1) = zs.map (·.1) := by rw [List.map_map]; rfl
  have e2 : (zs.map fun z => (z.1, pyD z.2)).map (·.2) = (zs.map (·.2)).map pyD := by rw [List.map_map, List.map_map]; rfl
  have e3 : ((zs.map fun z => (z.1, pyD z.2)).mergeSort (PySem.W.dataLe false (·.2))) = (zs.mergeSort fun a b => leD a.2 b.2).map fun z => (z.1, pyD z.2) :=
    (PySem.W.sort_maps (r := fun a b : V × D => leD a.2 b.2) (s := PySem.W.dataLe false (·.2)) (fun z : V × D => (z.1, pyD z.2)) (fun _ _ _ _ => rfl)).symm
  have e4 : (zs.mergeSort fun a b => leD a.2 b.2).map (·.2) = (zs.map (·.2)).mergeSort leD := PySem.W.sort_maps (r := fun a b : V × D => leD a.2 b.2) (s := leD) (·.2) fun _ _ _ _ => rfl
  refine ⟨p, zs.map fun z => (z.1, pyD z.2), rfl, by rw [e1]; exact .inl (.inl r), fun z h => ?_, by rw [e2]; exact hal, by rw [e2]; exact hso, fun z h => ?_, fun p hp => ?_⟩
  · obtain ⟨y, hy, rfl⟩ := List.mem_map.mp h
    exact Dv.dp y.2 y.1 (hz y hy) (ho _ (hm y hy))
  · obtain ⟨y, hy, rfl⟩ := List.mem_map.mp h
    exact hd _ (hm y hy)
  · have e5 : (((zs.mergeSort fun a b => leD a.2 b.2).map fun z => (z.1, pyD z.2)).map (·.1)) = (zs.mergeSort fun a b => leD a.2 b.2).map (·.1) := by rw [List.map_map]; rfl
    rw [e3, e5]
    have dvs : DvA K cp G H ((zs.mergeSort fun a b => leD a.2 b.2).map (·.1)) ((zs.map (·.2)).mergeSort leD) := by
      rw [← e4]
      exact dva_of fun z h => hz z (List.mem_mergeSort.mp h)
    exact k _ (.n (.lst ((zs.map (·.2)).mergeSort leD))) _ (rx_new hp dvs) q
/-- a tuple of texts that the module holds -/
theorem DE.kt {a : Addr} {zs : List Str} (h : ∀ H', SqT K H' a (zs.map V.str)) (q : Φ (.d (.tup (zs.map D.str))) ρ) : DE K cp X (tC (.ref a)) ρ Φ := fun F A H0 H σ e hx Q k => by
  have d : ∀ ys : List Str, DvA K cp (Gv F σ ρ) H (ys.map V.str) (ys.map D.str) := by
    intro ys
    induction ys with
    | nil => exact .nil
    | cons y ys ih => exact .cons (.str y) ih
  exact k _ (.d (.tup (zs.map D.str))) ρ H ⟨e, Mv.ex (Ex.rfl' H), .kt h (d zs)⟩ q
end
end DD
set_option maxHeartbeats 1000000
/-! len(set(ints)); dicts by comprehension. -/
namespace DD
open PySem PySem.Spec PyProof.Rows L2 GL
/-- how many there are, each once -/
def dist (ns : List Int) : Nat := (ns.foldl step_dedup []).length
theorem dd_len : ∀ (ns acc : List Int), (ns.foldl step_dedup acc).length ≤ acc.length + ns.length ∧ ((ns.foldl step_dedup acc).length = acc.length + ns.length ↔ ns.Nodup ∧ ∀ n ∈ ns, n ∉ acc)
  | [], acc => by simp
  | n :: ns, acc => by
    rw [List.foldl_cons, show step_dedup acc n = if (acc.any fun x => x == n) = true then acc else acc ++ [n] from rfl]
    by_cases h : (acc.any fun x => x == n) = true
    · have hm : n ∈ acc := by
        obtain ⟨x, hx, e⟩ := List.any_eq_true.mp h
        rw [← eq_of_beq e]; exact hx
      rw [if_pos h]
      obtain ⟨h1, h2⟩ := dd_len ns acc
      refine ⟨by rw [List.length_cons]; omega, ?_⟩
      rw [List.length_cons]
      constructor
      · intro e; omega
      · rintro ⟨_, q⟩
        exact absurd hm (q n List.mem_cons_self)
    · have hm : n ∉ acc := fun z => h (List.any_eq_true.mpr ⟨n, z, by simp⟩)
      rw [if_neg h]
      obtain ⟨h1, h2⟩ := dd_len ns (acc ++ [n])
      rw [List.length_append, List.length_singleton] at h1 h2
      refine ⟨by rw [List.length_cons]; omega, ?_⟩
      rw [List.length_cons, show acc.length + (ns.length + 1) = acc.length + 1 + ns.length by omega, h2, List.nodup_cons]
      constructor
      · rintro ⟨a, b⟩
        refine ⟨⟨fun z => b n z (by simp), a⟩, fun m hm' => ?_⟩
        rcases List.mem_cons.mp hm' with rfl | hm'
        · exact hm
        · exact fun z => b m hm' (by simp [z])
      · rintro ⟨⟨a, a2⟩, b⟩
        refine ⟨a2, fun m hm' z => ?_⟩
        rcases List.mem_append.mp z with z | z
        · exact b m (List.mem_cons_of_mem _ hm') z
        · exact a (by rw [← List.mem_singleton.mp z]; exact hm')
theorem dist_le (ns : List Int) : dist ns ≤ ns.length := by have := (dd_len ns []).1; simpa [dist] using this
theorem dist_iff (ns : List Int) : dist ns = ns.length ↔ ns.Nodup := by have := (dd_len ns []).2; simpa [dist] using this
theorem fm_eq (ns : List Int) : (firstMet (fun i => ns.getD i 0) ns.length).length = dist ns := by
  unfold firstMet dist
  congr 2
  apply List.ext_getElem?
  intro i
  rw [List.getElem?_map]
  by_cases h : i < ns.length
  · rw [List.getElem?_range h]
    simp [List.getD, List.getElem?_eq_getElem h]
  · rw [List.getElem?_eq_none (by rw [List.length_range]; omega), List.getElem?_eq_none (by omega)]
    rfl
section
variable {X : Cx}
def tLenSetI (K : PySem.W.Frag) (ta : TE) : TE := fun σ H Q => ta σ H fun x H1 => ∃ (l : Addr) (ns : List Int), x = .ref l ∧ SqL K H1 l (ns.map V.int) ∧ ns.length ≤ 4000 ∧ Q (.int (dist ns)) H1
theorem pe_lenSetI {a : Expr} {ta : TE} {p1 p2 p3 p4 : Pos} (hc : X.calm = true) (hg : Gl X "len") (hm : X.mg "len" = none) (hg2 : Gl X "set") (hm2 : X.mg "set" = none) (ha : PE X a ta)
    (na : starEach [a] X.env = (false, eval a X.env) :: starEach [] X.env := by rfl) : PE X (.Call (.Name "len" p1) [.Call (.Name "set" p2) [a] [] p3] [] p4) (tLenSetI X.K ta) := by
  refine ⟨fun pins s σ H Q I h => Call_ (ld_blt I hg hm boot_len (PyProof.Rows.callWith_builtin1 (PyProof.Rows.args_cons (Call_ (ld_blt I hg2 hm2 boot_set ?inner)) rfl) rfl rfl))⟩
  refine PyProof.Rows.callWith_type1 (PyProof.Rows.args_cons (thn (ha.run pins s σ H _ I h) fun v s1 ⟨x, H1, I1, r1, q1⟩ => PyProof.Rows.args_nil ?_) na) na rfl
  obtain ⟨l, ns, rfl, hq, hn, q1⟩ := q1
  cases r1
  obtain ⟨its, r, pl, hz⟩ := I1.list hq
  have hl : its.toArray.size = ns.length := by
    have := r.length
    rw [List.length_map] at this
    rw [List.size_toArray]; omega
  refine PySem.call_set_list (I1.ok.hd hc) pl.isList (ns := ns) (by simpa using r.ints) (by rw [hl]; show ns.length + 1 < 4096; omega) fun h' tk hS hk => PyProof.Rows.args_nil ?_
  rw [hl, fm_eq] at hS
  obtain ⟨o, es, ep, t, ho, hex, hd, _, _, _, hf, hnn⟩ := hS
  have I2 : Inv X pins σ H1 { s1 with heap := h', toks := tk } := I1.kept fun b u e => hk b u (Heap.lt_size e) e
  have dl := dist_le ns
  exact call_len_set ho hex hd hf (by rw [hnn] <;> omega) ⟨.int (dist ns), H1, I2.tok _, ⟨_, by rw [hnn]⟩, q1⟩
end
section
variable {K : PySem.W.Frag} {cp : Cb} {X : XC} {F : Addr → Prop} {A : List (Nat × Addr)} {G : Addr → Prop} {H0 H H' H1 : Hp} {σ : L2.St} {v : V} {ρ : List SV} {Φ : AV → List SV → Prop}
theorem DE.lenSet {te : TE} (h : DEo K cp X te ρ fun p ρ1 => ∃ ns : List Int, p.at ρ1 = some (.lst (ns.map D.int)) ∧ ns.length ≤ 4000 ∧ Φ (.d (.int (dist ns))) ρ1) : DE K cp X (tLenSetI K te) ρ Φ := fun F A H0 H σ e hx Q k =>
  h.go e hx fun v p ρ1 H1 e1 m1 o1 ⟨ns, hp, hn, φ⟩ => by
    obtain ⟨a, vs, rfl, r, dv⟩ := dt_lst (o1.dt e1 hp)
    rw [ints_of dv] at r
    exact ⟨a, ns, rfl, .inl (.inl r), hn, k _ (.d (.int _)) ρ1 H1 ⟨e1, m1, .int _⟩ φ⟩
end
end DD
set_option maxHeartbeats 1000000
/-! dicts by comprehension; d[k] = v. -/
namespace DD
open PySem PySem.Spec PyProof.Rows L2 GL
section
variable {K : PySem.W.Frag} {cp : Cb} {X : XC} {F : Addr → Prop} {A : List (Nat × Addr)} {G : Addr → Prop} {H0 H H' H1 : Hp} {σ : L2.St} {v : V} {ρ : List SV} {Φ : AV → List SV → Prop} {N : List SV → Prop} {R : AV → List SV → Prop} {B C : List SV → Prop}
theorem putK_new {kvs : List (Key × V)} {k : Key} {v : V} (h : k ∉ kvs.map (·.1)) : putK kvs k v = kvs ++ [(k, v)] := by
  unfold putK
  rw [if_neg]
  intro z
  obtain ⟨p, hp, e⟩ := List.any_eq_true.mp z
  exact h (List.mem_map.mpr ⟨p, hp, of_decide_eq_true e⟩)
/-- {k : v for g in wi if tt}, the keys unlike -/
theorem DE.dcP {wi : TI} {g : TG} {tt : TT} {tk tv : TE} {vs : List Nat} {T : Type} {ts : List Nat} (xs : List T) (enc : T → D) (pd : T → Bool) (kf : T → Key) (f : T → D) (hz : xs.length ≤ 900000) (hk : ((xs.filter pd).map kf).Nodup)
    (hi : DI K cp X wi ρ fun ds ρ1 => ρ1 = ρ ∧ ds = xs.map enc) (hn : nown ρ vs)
    (hs : ∀ x ∈ xs, DG K cp g ts (enc x) (wipeS ρ vs) fun ρ3 => DT K cp XC.q tt ρ3 fun b ρ4 => b = pd x ∧ if b = true then DEs K cp XC.q tk ρ4 (fun y ρ5 => keyOf y = some (kf x) ∧ DEs K cp XC.q tv ρ5 fun z ρ6 => z = f x ∧ wipeS ρ6 vs = wipeS ρ vs ∧ nown ρ6 vs) else wipeS ρ4 vs = wipeS ρ vs ∧ nown ρ4 vs)
    (hts : (ts.all fun i => vs.contains i) = true) (q : Φ (.n (.dk ((xs.filter pd).map kf) ((xs.filter pd).map f))) ρ) : DE K cp X (tDc wi g tt tk tv vs) ρ Φ := fun F A H0 H σ e hx Q k =>
  hi F A H0 H σ e hx _ fun J ds ρ1 H1 e1 m1 wk ⟨er, ed⟩ => by
    subst er
    subst ed
    have hts : ∀ i ∈ ts, i ∈ vs := fun i hi => by simpa using List.all_eq_true.mp hts i hi
    intro D hD
    have h0D := e1.none0 hD
    have nF : ¬ F D := fun f => e1.notF hD (.inl f)
    have hA : ∀ x ∈ A, F x.2 := fun x hx => (e1.io x hx).1
    have hAD : ∀ x ∈ A, D ≠ x.2 := fun x hx z => nF (z ▸ hA x hx)
    let Pv : Nat → Hp → Prop := fun i H => ∃ kvs : List (Key × V), H D = some (.dK kvs) ∧ kvs.map (·.1) = ((xs.take i).filter pd).map kf ∧ DvA K cp (Gv (plus F D) σ ρ1) H (kvs.map (·.2)) (((xs.take i).filter pd).map f) ∧ En K cp (plus F D) A H0 H σ ρ1 ∧ Mv (Gv F σ ρ1) H1 (Gv (plus F D) σ ρ1) H
    have wl : (xs.map enc).length = xs.length := List.length_map ..
    refine ⟨fun i m H => m = xs.length - i ∧ i ≤ xs.length ∧ Pv i H, ⟨_, rfl, Nat.zero_le _, [], upd_same, rfl, .nil, e1.plus hD (Ex.nw hD) upd_same, (Mv.nw hD).tr ((Mv.ex (Ex.nw hD)).tr (Mv.sub gv_plus))⟩, ?_⟩
    rintro i m H2 ⟨rfl, hi, kvs, hw, hkv, dw, e2, m2⟩
    by_cases hlt : i < xs.length
    · refine .inr ⟨wk.goes i H2 (by rw [wl]; exact hlt) ⟨_, m2⟩, Pv (i + 1), fun H' p => ⟨_, by omega, rfl, hlt, p⟩, fun x H3 yy => ?_⟩
      obtain ⟨ex, y⟩ := wk.yields i H2 x H3 (by rw [wl]; exact hlt) ⟨_, m2⟩ yy
      obtain ⟨d, hx, dv⟩ := y _ m2 e2.trk
      rw [List.getElem?_map] at hx
      cases hxi : xs[i]? with
      | none => rw [hxi] at hx; cases hx
      | some t =>
        rw [hxi] at hx
        cases hx
        have ht : xs.take (i + 1) = xs.take i ++ [t] := by rw [List.take_add_one, hxi]; rfl
        have e3 := e2.ex ex
        have hw3 := ex _ _ hw
        have dw3 := DvA.mv (Mv.ex ex) _ _ dw
        have ew := (e3.h0 (.inr rfl) hAD hw3 h0D).wipe hn
        have sb : Mv (Gv (plus F D) σ ρ1) H3 (Gv (plus F D) (wipe σ vs) (wipeS ρ1 vs)) H3 := Mv.sub fun a g => (gv_wipe hn a).mp g
        refine hs t (List.mem_of_getElem? hxi) (plus F D) A _ H3 (wipe σ vs) ew x (Dv.mv sb _ _ dv) _ fun σ4 ρ4 e4 g4 w4 q4 => ?_
        have wq : wipe σ4 vs = wipe σ vs := by rw [w4 vs hts]; exact wipe_wipe vs fun i h => h
        refine ⟨wq, ?_⟩
        have m4 : Mv (Gv (plus F D) (wipe σ vs) (wipeS ρ1 vs)) H3 (Gv (plus F D) σ4 ρ4) H3 := Mv.sub g4
        have fin : ∀ {ρx : List SV} {Hx : Hp}, En K cp (plus F D) A (upd H0 D (.dK kvs)) Hx σ4 ρx → Mv (Gv (plus F D) σ4 ρ4) H3 (Gv (plus F D) σ4 ρx) Hx → wipeS ρx vs = wipeS ρ1 vs → nown ρx vs →
            Hx D = some (.dK kvs) ∧ En K cp (plus F D) A H0 Hx σ ρ1 ∧ Mv (Gv F σ ρ1) H1 (Gv (plus F D) σ ρ1) Hx ∧ DvA K cp (Gv (plus F D) σ ρ1) Hx (kvs.map (·.2)) (((xs.take i).filter pd).map f) ∧ ∀ a, Gv (plus F D) σ ρ1 a → Gv (plus F D) σ4 ρx a := fun {ρx Hx} ex' mx wx nx => by
          obtain ⟨ea, ma⟩ := e3.back hn wq (ex'.h0b (.inr rfl) h0D) (m4.tr mx) nx wx.symm (fun _ _ => rfl) rfl
          refine ⟨ex'.fr D _ hAD upd_same, ea, m2.tr ((Mv.ex ex).tr ma), DvA.mv ma _ _ dw3, fun a ga => ?_⟩
          rw [← gv_wipe (σ := σ4) nx a, wq, wx, gv_wipe hn a]
          exact ga
        refine (show DT K cp XC.q tt ρ4 _ from q4) (plus F D) A _ H3 σ4 e4 xq _ fun b ρ5 H5 e5 m5 ⟨hb, q5⟩ => ?_
        cases b with
        | false =>
          rw [if_neg (by decide)] at q5
          obtain ⟨f1, f2, f3, f4, f5⟩ := fin e5 m5 q5.1 q5.2
          have e12 : (xs.take (i + 1)).filter pd = (xs.take i).filter pd := by
            rw [ht, List.filter_append, List.filter_cons_of_neg (by rw [← hb]; decide)]
            simp
          exact iteF ⟨kvs, f1, by rw [e12]; exact hkv, by rw [e12]; exact f4, f2, f3⟩
        | true =>
          rw [if_pos rfl] at q5
          refine iteT (DEs.go (show DEs K cp XC.q tk ρ5 _ from q5) e5 xq fun y yd ρ6 H6 e6 m6 dy ⟨hy, q6⟩ => DEs.go (show DEs K cp XC.q tv ρ6 _ from q6) e6 xq fun z zd ρ7 H7 e7 m7 dz ⟨hz', w7, n7⟩ => ?_)
          obtain ⟨f1, f2, f3, f4, f5⟩ := fin e7 (m5.tr (m6.tr m7)) w7 n7
          have e12 : (xs.take (i + 1)).filter pd = (xs.take i).filter pd ++ [t] := by rw [ht, List.filter_append, List.filter_cons_of_pos hb.symm]; rfl
          have hnk : kf t ∉ kvs.map (·.1) := by
            rw [hkv]
            have hp : ((xs.take (i + 1)).filter pd).map kf <+: (xs.filter pd).map kf := by
              have hp0 : xs.take (i + 1) <+: xs := List.take_prefix _ _
              obtain ⟨r, hr⟩ := hp0
              refine ⟨(r.filter pd).map kf, ?_⟩
              rw [← List.map_append, ← List.filter_append, hr]
            have nd := List.Sublist.nodup hp.sublist hk
            rw [e12, List.map_append, List.nodup_append] at nd
            intro z
            exact nd.2.2 _ z _ (by simp) rfl
          obtain ⟨p1, p2⟩ := en_new (o' := .dK (kvs ++ [(kf t, z)])) (H' := upd H7 D (.dK (kvs ++ [(kf t, z)]))) f2 nF hA h0D f1 upd_same (fun a u na ha => .of (by rw [upd_ne na]; exact ha)) (tabs_upd f2.tb f1 trivial) trivial
          have hlen : kvs.length < sizeLine := by
            have l1 : kvs.length = (((xs.take i).filter pd).map kf).length := by rw [← hkv, List.length_map]
            rw [List.length_map] at l1
            have l2 := List.length_filter_le pd (xs.take i)
            rw [List.length_take] at l2
            exact sz_ok (by omega)
          refine ⟨kvs, kf t, key_dv hy (Dv.mv m7 _ _ dy), f1, hlen, ?_⟩
          rw [putK_new hnk]
          refine ⟨kvs ++ [(kf t, z)], upd_same, by rw [e12, List.map_append, List.map_append, hkv]; rfl, ?_, p1, f3.tr p2⟩
          rw [e12, List.map_append, List.map_append]
          refine DvA.mv p2 _ _ (f4.app (.cons ?_ .nil))
          have := Dv.mv (Mv.sub f5) _ _ dz
          rw [hz'] at this
          exact this
    · have ei : i = xs.length := by omega
      subst ei
      refine .inl ⟨by have := wk.stops H2 ⟨_, m2⟩; rw [wl] at this; exact this, ?_⟩
      rw [List.take_length] at dw hkv
      exact k _ (.n (.dk ((xs.filter pd).map kf) ((xs.filter pd).map f))) ρ1 H2 ⟨D, rfl, nF, h0D, e2, hA, m1.tr m2, _, hw, .dk hkv dw⟩ q
end
end DD
set_option maxHeartbeats 2000000
/-! enumerate(tuple). -/
namespace DD
open PySem PySem.Spec PyProof.Rows L2 GL
set_option maxHeartbeats 2000000 in
theorem enum_mk {v : Value} {o : Obj} {Hq : Heap → Prop} (B : Begins v o Hq) :
    Meets (Builtin.«enumerate.__new__» ⟨[.type "enumerate", v], []⟩) (fun _ R s => Hq s.heap ∧
      R (.ok (.ret (.ref (s.heap.push o).objs.size))) { s with heap := (s.heap.push o).push { cls := .type "enumerate", data := .fields #[.none, .bool false, .ref s.heap.objs.size, rawInt 0, .none, .none] } }) :=
  .of_wp fun prog w A R s h => by
    obtain ⟨hp, gs, dr, tks, os⟩ := s
    obtain ⟨hq, h⟩ := h
    have hsub := sub_enumerate
    have it : ∀ {A' : Around} {E : Value → Shared → Prop} {Q : Value → Shared → Prop}, Q (.ref hp.objs.size) ⟨hp.push o, gs, dr, tks, os⟩ → wpAny (model prog w) A' (pyIter v) Q E ⟨hp, gs, dr, tks, os⟩ :=
      fun q => B.iter prog w _ _ ⟨hp, gs, dr, tks, os⟩ _ hq q
    wp_walk using it
    refine wpAny_stack_any fun st => wpAny_pure ?_
    split
    · rename_i c _ _ _ _ _
      cases (c == Value.type "enumerate") <;> (wp_walk using it; exact ⟨_, rfl, h⟩)
    · wp_walk using it
      exact ⟨_, rfl, h⟩
theorem enum_call {prog : Program} {w : World} {A : Around} {E : Value → Shared → Prop} {s : Shared} {v : Value} {o : Obj} {Hq : Heap → Prop} {Q : Value → Shared → Prop} (B : Begins v o Hq) (hq : Hq s.heap)
    (k : ∀ h', IsEnum h' (s.heap.objs.size + 1) s.heap.objs.size 0 .none → h'.get? s.heap.objs.size = some o → (∀ b u, s.heap.get? b = some u → h'.get? b = some u) → Q (.ref (s.heap.objs.size + 1)) { s with heap := h' }) :
    wpAny (model prog w) A (call (.type "enumerate") [v]) Q E s := by
  refine callType_new F.called_enumerate (by decide) (F.typeCall_enumerate_1 _) (F.newCall_enumerate_1 _) (fun obj => F.args_object_init_2 obj _) F.entry_enumerate_new (enum_mk B) ⟨hq, ?_⟩
  have sz : (s.heap.push o).objs.size = s.heap.objs.size + 1 := Heap.size_push ..
  let en : Obj := { cls := .type "enumerate", data := .fields #[.none, .bool false, .ref s.heap.objs.size, rawInt 0, .none, .none] }
  have g : ((s.heap.push o).push en).get? (s.heap.objs.size + 1) = some en := by
    have := Heap.get?_push_size (s.heap.push o) (o := en) rfl
    rwa [sz] at this
  show _ ∧ _
  rw [sz]
  exact ⟨⟨_, g, rfl⟩, k _ g (Heap.get?_push_of_some _ (Heap.get?_push_size _ B.free)) fun b u x => Heap.get?_push_of_some _ (Heap.get?_push_of_some _ x)⟩
theorem enum_end {prog : Program} {w : World} {A : Around} {E : Value → Shared → Prop} {s : Shared} {e it t : Addr} {i : Nat} {c : Int} {items : Array Value} {old : Value} {Q : Option Value → Shared → Prop} (hh : A.handled = none) (he : IsEnum s.heap e it c old)
    (hit : s.heap.IsTupleIter it t i) (ht : s.heap.IsTuple t items) (hx : items[i]? = none) (k : ∀ h', Heap.ExtBut it s.heap h' → Q none { s with heap := h' }) : wpAny (model prog w) A (pyNext (.ref e)) Q E s := by
  have ty : s.TypeIs (.ref e) "enumerate" := ⟨_, he, rfl⟩
  unfold pyNext
  refine wpAny_bind (wpAny_attempt (wpAny_callSpecial?_slot (name := Str.ofString "__next__") ty F.slot_enumerate_next (wpAny_call_entry F.slot_enumerate_next ty F.entry_enumerate_next ?_ (F.args_enumerate_next_1 _))))
  refine wpAny_bind (m := field (.ref e) 2) (wpAny_field he rfl (x := .ref it) rfl (wpAny_bind (wpAny_nextOf_tuple_end hh hit ht hx fun h' x xe ⟨o, ho, hc⟩ => ?_)))
  exact wpAny_bind (wpAny_isInstance (T := "StopIteration") (b := true) ⟨o, ho, hc⟩ isSubtype_stop (wpAny_pure (k _ xe)))
/-- the tuple at a, each item in a new pair with its number -/
def Itu (K : PySem.W.Frag) (a : Addr) : It :=
  ⟨fun i H => ∃ (xs : List V) (x : V), SqT K H a xs ∧ xs[i]? = some x, fun i H v H' => ∃ T x, v = .ref T ∧ H T = none ∧ H' = upd H T (.tup [.int (i : Nat), x]) ∧ ∀ xs, SqT K H a xs → xs[i]? = some x, fun i H => ∃ xs : List V, SqT K H a xs ∧ xs.length ≤ i⟩
theorem turn_enumT {P : Program} {w : World} {K : PySem.W.Frag} {elts : List Expr} {kk : Nat} {tpos : Pos} (a e it : Addr) :
    Turn P w K (.Tuple elts kk tpos) (Itu K a) [e, it] e (fun i h => (∃ old, IsEnum h e it ((i : Nat) : Int) old) ∧ h.IsTupleIter it a i ∧ e ≠ it ∧ a ≠ it ∧ a ≠ e) where
  mem := by simp
  obj := fun i h st b hb => by
    obtain ⟨⟨old, he⟩, ⟨o, ho, hc, hd⟩, _⟩ := st
    have z : b = e ∨ b = it := by simpa using hb
    rcases z with rfl | rfl
    · exact ⟨_, he, fun v q => nomatch q⟩
    · exact ⟨o, ho, fun v q => by rw [hd] at q; cases q⟩
  keep := fun i h h' st k => by
    obtain ⟨⟨old, he⟩, hi, ns⟩ := st
    exact ⟨⟨old, k e (by simp) _ he⟩, hi.at fun o q => k it (by simp) o q, ns⟩
  item := by
    intro X hP hw hK hc i pins s σ H E I hf st hg
    subst hP hw hK
    obtain ⟨⟨old, he⟩, hit, n1, n2, n3⟩ := st
    obtain ⟨xs, x, hq, hx⟩ := hg
    obtain ⟨its, rv, p, hz⟩ := I.tuple hq
    obtain ⟨u, hu, ru⟩ := rv.get hx
    have le : e < s.heap.objs.size := Heap.lt_size he
    have li : it < s.heap.objs.size := by obtain ⟨_, q, _⟩ := hit; exact Heap.lt_size q
    have lt : i < its.toArray.size := by rw [List.size_toArray]; exact (List.getElem?_eq_some_iff.mp hu).1
    refine wpAny_pyNext_enum_itemD (Draws.tuple (show X.A.in1.handled = none from I.ok.hd hc) it a n2 its.toArray) he ⟨hit, p⟩ lt n1 (by simp [n1, n3.symm]) fun y h1 tks hy ho hst hT hsz hk => ?_
    have ey : y = u := by
      have hy : its.toArray[i]? = some y := hy
      have hy2 : its[i]? = some y := by simpa using hy
      rw [hu] at hy2; exact (Option.some.inj hy2).symm
    subst ey
    refine ⟨_, rfl, wpAny_letOwnedTupleGo_enum (s := { s with heap := h1, toks := tks + 1 }) ho fun h2 he2 sb => ?_⟩
    have hT2 : h2.get? s.heap.objs.size = some { cls := .type "tuple", data := .seq #[.int i tks, y] } := (sb.2 _ (Nat.ne_of_gt le)).trans hT
    have I1 : Inv X pins σ (upd H s.heap.objs.size (.tup [.int (i : Nat), x])) { s with heap := h2, toks := tks + 1 } := by
      refine I.turnedNew (ch := [e, it]) (fun b ob hb q => ?_) hf (Nat.le_refl _) ⟨by show 2 ≤ sizeLine; decide, [.int i tks, y], .cons ⟨_, rfl⟩ (.cons ru .nil), _, hT2, rfl, _, rfl⟩
      have b1 : b ≠ e := fun z => hb (by simp [z])
      have b2 : b ≠ it := fun z => hb (by simp [z])
      exact (sb.2 b b1).trans (hk b ob b1 b2 q)
    refine ⟨.ref s.heap.objs.size, _, I1, rfl, ⟨_, x, rfl, I.hok.fresh (Nat.le_refl _), rfl, fun ys hy => by rw [I.tuple_inj hy hq]; exact hx⟩, ⟨⟨y, ?_⟩, hst.1.at fun o q => (sb.2 it n1.symm).trans q, n1, n2, n3⟩, fun b hb => ?_⟩
    · rw [show ((i + 1 : Nat) : Int) = (i : Int) + 1 by omega]
      exact he2
    · have lb : b < s.heap.objs.size := by
        have z : b = e ∨ b = it := by simpa using hb
        rcases z with rfl | rfl
        · exact le
        · exact li
      have nb : b ≠ s.heap.objs.size := Nat.ne_of_lt lb
      rw [upd_ne nb]
      exact (hf b hb).1
  done := by
    intro X hP hw hK hc i pins s σ H E I hf st hg
    subst hP hw hK
    obtain ⟨⟨old, he⟩, hit, n1, n2, n3⟩ := st
    obtain ⟨xs, hq, hx⟩ := hg
    obtain ⟨its, rv, p, hz⟩ := I.tuple hq
    obtain ⟨f0, f1, f2, f3, f4, f5⟩ := hf it (by simp)
    have hl := rv.length
    have gone : its.toArray[i]? = none := by simp; omega
    exact enum_end (I.ok.hd hc) he hit p gone fun h1 eb => ⟨rfl, I.turned (t' := s.toks) (fun b o hb q => eb b o hb q) f0 f1 f3 f4 f5⟩
  self := fun A i s Q E st h => by
    obtain ⟨⟨_, he⟩, _⟩ := st
    exact wpAny_pyIter_enum he h
def iEnumT (K : PySem.W.Frag) (ta : TA) : TI := fun σ H R => ta σ H fun vs H1 => ∃ a xs, vs = [.ref a] ∧ SqT K H1 a xs ∧ R (Itu K a) H1
theorem pi_enumT {X : Cx} {e : Expr} {ta : TA} {p1 p2 p3 : Pos} {elts : List Expr} {kk : Nat} (hg : Gl X "enumerate") (hm : X.mg "enumerate" = none) (ha : PA X [e] ta) (hs : starEach [e] X.env = [(false, eval e X.env)] := by rfl) :
    PI X (.Tuple elts kk p3) (.Call (.Name "enumerate" p1) [e] [] p2) (iEnumT X.K ta) := by
  refine ⟨fun pins s σ H R I h => Call_ (ld_blt I hg hm boot_enumerate (PyProof.Rows.callWith_type1 (thn (ha.run p2 pins s σ H _ I h) fun us s1 ⟨vs, H1, I1, r1, a, xs, ev, hq, q⟩ => ?_) hs rfl))⟩
  subst ev
  cases r1 with
  | cons r rr =>
    cases rr
    cases r
    obtain ⟨its, rv, pt, hz⟩ := I1.tuple hq
    have la : a < s1.heap.objs.size := pt.lt
    refine enum_call (begins_tuple a its.toArray) pt fun h1 he hit hk => wpAny_pyIter_enum he ?_
    have I2 : Inv X pins σ H1 { s1 with heap := h1 } := I1.kept (t' := s1.toks) hk
    refine ⟨s1.heap.objs.size + 1, [s1.heap.objs.size + 1, s1.heap.objs.size], _, _, H1, rfl, I2, turn_enumT a (s1.heap.objs.size + 1) s1.heap.objs.size, ⟨⟨.none, he⟩, ⟨_, hit, rfl, rfl⟩, Nat.succ_ne_self _, Nat.ne_of_lt la, Nat.ne_of_lt (Nat.lt_succ_of_lt la)⟩, fun b hb => ?_, q⟩
    have hle : s1.heap.objs.size ≤ b := by
      have z : b = s1.heap.objs.size + 1 ∨ b = s1.heap.objs.size := by simpa using hb
      rcases z with rfl | rfl
      · exact Nat.le_succ _
      · exact Nat.le_refl _
    exact I1.fpOk hle (I1.hok.fresh hle)
section
variable {K : PySem.W.Frag} {cp : Cb} {X : XC} {G : Addr → Prop} {H : Hp} {ρ : List SV}
theorem walk_enumT {a : Addr} {xs : List V} : Walk (Itu K a) xs.length (fun H => SqT K H a xs) (YPair (fun i => some (.int (i : Nat))) (fun i => xs[i]?)) := by
  refine ⟨fun i H hi q => ⟨xs, xs[i], q, by simp [hi]⟩, fun H q => ⟨xs, q, Nat.le_refl _⟩, fun i H v H' hi q y => ?_⟩
  obtain ⟨T, x, h1, h2, h3, h4⟩ := y
  exact ⟨T, .int (i : Nat), x, h1, h2, h3, rfl, h4 xs q⟩
theorem DI.enumT {ta : TA} {Ψ : List D → List SV → Prop} (h : DAo K cp X ta ρ fun ps ρ1 => ∃ xs, ps = [.d (.tup xs)] ∧ Ψ (enumD xs) ρ1) : DI K cp X (iEnumT K ta) ρ Ψ := fun F A H0 H σ e hx Q k =>
  h F A H0 H σ e hx _ fun vs ps ρ1 H1 e1 m1 o1 ⟨xs, hp, ψ⟩ => by
    subst hp
    cases o1 with
    | cons o1 o2 =>
      cases o2
      have key : ∀ {a : Addr} {us : List V}, (∀ G2 H2, Mv (Gv F σ ρ1) H1 G2 H2 → SqT K H2 a us) → DvA K cp (Gv F σ ρ1) H1 us xs → SqT K H1 a us → ∃ a' xs', [V.ref a] = [V.ref a'] ∧ SqT K H1 a' xs' ∧ Q (Itu K a') H1 := fun {a us} st d1 h1 => by
        refine ⟨a, us, rfl, h1, k _ _ ρ1 H1 e1 m1 (wk_pair (n := us.length) (by unfold enumD; rw [List.length_map, List.length_range, d1.len]) (walk_enumT.mono (fun H' ⟨G', m⟩ => st G' H' m) fun _ _ _ _ _ _ y => y) fun i x y hx hy => ?_) ψ⟩
        obtain ⟨d, h3, h4⟩ := d1.at hy
        cases hx
        refine ⟨.int i, d, ?_, .int _, h4⟩
        unfold enumD
        rw [List.getElem?_map, List.getElem?_range (List.getElem?_eq_some_iff.mp h3).1]
        simp [List.getD, h3]
      cases o1 with
      | @tup a us _ h1 n1 d1 => exact key (fun G2 H2 m => .inl (.inl (m.k _ _ n1 h1).2)) d1 (.inl (.inl h1))
      | @kt a us _ h1 d1 => exact key (fun G2 H2 m => h1 H2) d1 (h1 H1)
end
end DD
set_option maxHeartbeats 1000000
/-! Loops over encoded lists, slots that may be empty, tuples joined. -/
namespace DD
open PySem PySem.Spec PyProof.Rows L2 GL
section
variable {K : PySem.W.Frag} {cp : Cb} {X : XC} {F : Addr → Prop} {A : List (Nat × Addr)} {H0 H H' H1 : Hp} {σ : L2.St} {ρ : List SV} {Φ : AV → List SV → Prop} {N B C : List SV → Prop} {R : AV → List SV → Prop} {ψ : AV → Prop}
/-- a slot that is empty or holds a known datum -/
def so : Option D → SV
  | none => .no
  | some d => .sh d
theorem free_so {i : Nat} {o : Option D} (h : ρ[i]? = some (so o)) : free ρ i := by
  cases o with
  | none => exact free_of (by unfold freeB; rw [h]; rfl)
  | some d => exact free_of (by unfold freeB; rw [h]; rfl)
theorem r2_catTx {x y : D} {xs ys : List D} (hx : x = .tup xs) (hy : y = .tup ys) (hl : xs.length + ys.length ≤ sizeLine) (q : ψ (.d (.tup (xs ++ ys)))) : R2t K cp (rCatA K) x y ψ := by subst hx hy; exact r2_catT hl q
theorem DS.forM {wi : TI} {g : TG} {tb : TS} {T : Type} (xs : List T) (enc : T → D) (h : DI K cp X wi ρ fun ds ρ1 => ds = xs.map enc ∧ ∃ I : List T → List SV → Prop, I [] ρ1 ∧
    (∀ l x r ρ2, xs = l ++ x :: r → I l ρ2 → DGo K cp g (enc x) ρ2 fun ρ3 => DS K cp X tb ρ3 (I (l ++ [x])) R N (I (l ++ [x]))) ∧ ∀ ρ2, I xs ρ2 → N ρ2) : DS K cp X (tFor wi g tb) ρ N R B C := by
  refine DS.for fun F A H0 H σ e hx Q k => h F A H0 H σ e hx Q fun J ds ρ1 H1 e1 m1 wk ⟨ed, I, i0, hs, hd⟩ => ?_
  subst ed
  refine k J _ ρ1 H1 e1 m1 wk ⟨fun i ρ => I (xs.take i) ρ, (show I (xs.take 0) ρ1 by rw [List.take_zero]; exact i0), ?_, ?_⟩
  · intro i d ρ2 hi q
    rw [List.getElem?_map] at hi
    obtain ⟨x, hx, rfl⟩ := Option.map_eq_some_iff.mp hi
    have ht : xs.take (i + 1) = xs.take i ++ [x] := by rw [List.take_add_one, hx]; rfl
    show DGo K cp g (enc x) ρ2 fun ρ3 => DS K cp X tb ρ3 (I (xs.take (i + 1))) R N (I (xs.take (i + 1)))
    rw [ht]
    refine hs _ x (xs.drop (i + 1)) ρ2 ?_ q
    obtain ⟨hl, he⟩ := List.getElem?_eq_some_iff.mp hx
    rw [← he, ← List.drop_eq_getElem_cons hl, List.take_append_drop]
  · intro ρ2 q
    refine hd ρ2 ?_
    have : (xs.map enc).length = xs.length := List.length_map ..
    have q : I (xs.take (xs.map enc).length) ρ2 := q
    rw [this, List.take_length] at q
    exact q
theorem DE.tupOf {ta : TA} (h : DAo K cp X ta ρ fun ps ρ1 => ∃ x xs, ats ρ1 ps = some [x] ∧ seqD x = some xs ∧ Φ (.d (.tup xs)) ρ1) : DE K cp X (tCB (fun zs H Q => ∃ p ys, zs = [V.ref p] ∧ ((SqL K H p ys ∧ ∀ (l : Addr), H l = none → Q (V.ref l) (upd H l (HO.tup ys))) ∨ SqT K H p ys ∧ Q (V.ref p) H)) ta) ρ Φ :=
  DE.cbT fun F A H0 H σ e hx Q k => h F A H0 H σ e hx Q fun vs ps ρ1 H1 e1 m1 o1 ⟨x, xs, e2, es, q⟩ => k vs ps ρ1 H1 e1 m1 o1 ⟨_, e2, rl_tuple es q⟩
/-- an invariant that the walk leaves closed -/
inductive Keep (p : Prop) : Prop
  | a : p → Keep p
  | b : p → Keep p
theorem Keep.out {p : Prop} : Keep p → p
  | .a h => h
  | .b h => h
end
end DD
set_option maxHeartbeats 1000000
/-! xs != [], abs, powers. -/
namespace DD
open PySem PySem.Spec PyProof.Rows L2 GL
section
variable {K : PySem.W.Frag} {cp : Cb} {X : XC} {F : Addr → Prop} {A : List (Nat × Addr)} {H0 H H' H1 : Hp} {σ : L2.St} {ρ : List SV} {Φ : AV → List SV → Prop} {ψ : AV → Prop} {b : Bool}
theorem r2_neNil {xs : List D} (ho : okD' b (.lst xs) = true) (hs : SeqAt.shaped (pyD (.lst xs)) = true) (q : ψ (.d (.bl (!xs.isEmpty)))) : R2d K cp (rNeX K) (.lst xs) (.lst []) ψ := fun G H u w Q hu hw k =>
  .inr ⟨pyD (.lst xs), pyD (.lst []), dt_dp hu ho, dt_dp (b := b) hw rfl, hs, rfl, k _ (.d (.bl _)) H (rx_flat (.bl _)) (by
    have : PyData.eqv (pyD (.lst xs)) (pyD (.lst [])) = xs.isEmpty := by cases xs <;> rfl
    rw [this]; exact q)⟩
theorem pyA_ints : ∀ ns : List Int, pyA (ns.map D.int) = ns.map PyData.int
  | [] => rfl
  | n :: ns => by show _ :: pyA (ns.map D.int) = _; rw [pyA_ints ns]; rfl
theorem okA_ints : ∀ ns : List Int, okA' true (ns.map D.int) = true
  | [] => rfl
  | n :: ns => by show (_ && okA' true (ns.map D.int)) = true; rw [okA_ints ns]; rfl
theorem r2_neInts {ns : List Int} (q : ψ (.d (.bl (!ns.isEmpty)))) : R2d K cp (rNeX K) (.lst (ns.map .int)) (.lst []) ψ :=
  r2_neNil (b := true) (okA_ints ns) (by show SeqAt.shaped (.list (pyA (ns.map D.int))) = true; rw [pyA_ints]; exact shaped_ints ns) (by rw [List.isEmpty_map]; exact q)
theorem r2_pow {i j : Int} (h : CPow i j) (q : ψ (.d (.int (i ^ j.toNat)))) : R2d K cp (rI CPow fun i j => .int (i ^ j.toNat)) (.int i) (.int j) ψ := r2_intC h (.int _) q
theorem rl_abs {i : Int} (q : ψ (.d (.int (if i < 0 then -i else i)))) : RLd K cp (fun xs H Q => ∃ i, xs = [V.int i] ∧ Q (V.int (if i < 0 then -i else i)) H) [.int i] ψ := fun G H us Q h k => by
  obtain ⟨u, rfl, hu⟩ := dta1 h
  exact ⟨i, by rw [dt_int hu], k _ (.d (.int _)) H (rx_flat (.int _)) q⟩
/-- a rack of draws: cells, turn, left -/
def RkD (c : D) (n : Nat) : Prop := ∃ (ns : List Int) (t l : Int), c = .lst [.lst (ns.map .int), .int t, .int l] ∧ ns.length ≤ 63 ∧ 0 ≤ t ∧ t ≤ n ∧ 0 ≤ l
theorem RkD.more {c : D} {m n : Nat} (r : RkD c m) (h : m ≤ n) : RkD c n := by
  obtain ⟨ns, t, l, a, b, c, d, e⟩ := r
  exact ⟨ns, t, l, a, b, c, by omega, e⟩
def cDraw : Ct := fun ss Φ => ∃ c many n, ss = [.ow true c, .sh (.int many)] ∧ RkD c n ∧ n < 100000 ∧ 0 < many ∧ many < 1073741824 ∧ ∀ r c' s1, 0 ≤ r → r < many → RkD c' (n + 1) → Φ (.d (.int r)) (.ow true c' :: s1)
end
end DD
set_option maxHeartbeats 1000000
/-! ==, in, of data without truths and of any numbers. -/
namespace DD
open PySem PySem.Spec PyProof.Rows L2 GL
section
variable {K : PySem.W.Frag} {cp : Cb} {X : XC} {ψ : AV → Prop}
theorem u65 {k : Nat} {A : Around} (hr : Room k A) : A.units + 65 < cLine := by have := hr.un; omega
structure okS (x : D) : Prop where
  o : okD' true x = true
  z : (pyD x).depth ≤ 64
theorem okS.shaped {x : D} (h : okS x) : SeqAt.shaped (pyD x) = true := by
  unfold SeqAt.shaped
  rw [ok_lay (b := true) x h.o, Bool.true_and]
  exact decide_eq_true h.z
theorem r2_eqS {x y : D} (hx : okS x) (hy : okS y) (q : ∀ c : Bool, (c = true ↔ x = y) → ψ (.d (.bl c))) : R2d K cp (rEqX K) x y ψ := fun G H u w Q hu hw k =>
  .inr ⟨pyD x, pyD y, dt_dp hu hx.o, dt_dp hw hy.o, hx.shaped, hy.shaped, k _ (.d (.bl _)) H (rx_flat (.bl _)) (q _ (eqv_iff x y hx.o hy.o))⟩
theorem any_iff {x : D} (hx : okD' true x = true) : ∀ ys : List D, okA' true ys = true → (((pyA ys).any fun z => PyData.eqv z (pyD x)) = true ↔ x ∈ ys)
  | [], _ => by simp [pyA]
  | y :: ys, h => by
    obtain ⟨h1, h2⟩ := Bool.and_eq_true_iff.mp (show (okD' true y && okA' true ys) = true from h)
    show (PyData.eqv (pyD y) (pyD x) || (pyA ys).any fun z => PyData.eqv z (pyD x)) = true ↔ _
    rw [Bool.or_eq_true, eqv_iff y x h1 hx, any_iff hx ys h2, List.mem_cons, eq_comm]
theorem r2_inD {x : D} {ys : List D} (hx : okS x) (hy : okS (.lst ys)) (q : ∀ c : Bool, (c = true ↔ x ∈ ys) → ψ (.d (.bl c))) : R2d K cp (rInD K) x (.lst ys) ψ := fun G H u w Q hu hw k =>
  ⟨pyD x, pyA ys, dt_dp hu hx.o, dt_dp hw hy.o, hx.shaped, hy.shaped, k _ (.d (.bl _)) H (rx_flat (.bl _)) (q _ (any_iff hx.o ys hy.o))⟩
theorem okS_pair {w : Str} {n : Int} (h : PyData.canLay0 (.str w) = true) : okS (.tup [.str w, .int n]) :=
  ⟨by show (PyData.canLay0 (.str w) && (true && true)) = true; rw [h]; rfl, by simp [pyD, pyA, PyData.depth, PyData.depthAll]⟩
theorem okS_all {T : Type} {f : T → D} {Z : Nat} (hZ : Z ≤ 63) : ∀ {xs : List T}, (∀ x ∈ xs, okD' true (f x) = true ∧ (pyD (f x)).depth ≤ Z) → okA' true (xs.map f) = true ∧ PyData.depthAll (pyA (xs.map f)) ≤ Z
  | [], _ => ⟨rfl, Nat.zero_le _⟩
  | x :: xs, h => by
    obtain ⟨a, b⟩ := okS_all hZ (xs := xs) fun y hy => h y (List.mem_cons_of_mem _ hy)
    obtain ⟨c, d⟩ := h x (List.mem_cons_self ..)
    refine ⟨by show (okD' true (f x) && okA' true (xs.map f)) = true; rw [c, a]; rfl, ?_⟩
    show Nat.max _ (PyData.depthAll (pyA (xs.map f))) ≤ Z
    exact Nat.max_le.mpr ⟨d, b⟩
theorem okS_lst {T : Type} {f : T → D} {Z : Nat} (hZ : Z ≤ 63) {xs : List T} (h : ∀ x ∈ xs, okD' true (f x) = true ∧ (pyD (f x)).depth ≤ Z) : okS (.lst (xs.map f)) := by
  obtain ⟨a, b⟩ := okS_all hZ h
  refine ⟨a, ?_⟩
  show PyData.depthAll (pyA (xs.map f)) + 1 ≤ 64
  omega
end
end DD
set_option maxHeartbeats 1000000
/-! Own errors raised; lambdas handed to a def that asks them; great numbers. -/
namespace DD
open PySem PySem.Spec PyProof.Rows L2 GL LamX
/-- raise e: what is made is told -/
def tRz (Xc : Cx) (E : XK) (te : TE) : TS := fun _ σ H => te σ H fun x H1 => ∃ (a C : Addr) (d : Option Addr), x = .ref a ∧ H1 a = some (exo a C d) ∧ Xc.H_0 a = none ∧ Raises Xc (.ref C) ∧ E (.ref C) d (delH H1 a)
theorem ps_raiseD {X : Cx} {E : XK} {e : Expr} {te : TE} {pos : Pos} (hc : X.calm = true) (tk : Takes X fun cls d _ H => E cls d H) (hx : X.ex = []) (he : PE X e te) : PS X (.Raise (some e) none pos) (tRz X E te) := ps_raise hc tk (pmk_val hx he)
theorem ex_del {H H1 : Hp} {a : Addr} (e : Ex H H1) (ha : H a = none) : Ex H (delH H1 a) := fun b o h => by
  have n : b ≠ a := fun z => by rw [z, ha] at h; cases h
  rw [delH_ne n]; exact e b o h
section
variable {K : PySem.W.Frag} {cp : Cb} {X : XC} {F : Addr → Prop} {A : List (Nat × Addr)} {H0 H H' H1 : Hp} {σ : L2.St} {v : V} {ρ ρ1 : List SV} {Φ : AV → List SV → Prop} {ψ : AV → Prop} {N : List SV → Prop} {R : AV → List SV → Prop} {B C : List SV → Prop}
theorem DS.raise1 {Xc : Cx} {i : Nat} {f : Str} {E : XK} {te : TE} (hE : X.E = E) (hH : Xc.H_0 = X.h) (cl : ClsX Xc.K (cp.x i)) (h : DEs K cp X te ρ fun d ρ1 => X.P i [f] [d] ρ1) :
    DS K cp X (tRz Xc E (tCall (spC1 (cp.x i) f) [] (fun _ _ _ => False) (tCons te tNil))) ρ N R B C := fun F A H0 H σ e hx Dd n r b c =>
  h.go e (hx _) fun v d ρ1 H1 e1 m1 dv q => ⟨v, rfl, fun a H2 na e2 eo => by
    obtain ⟨dd, hne, h1, h2⟩ := eo
    have ed := ex_del e2 na
    refine ⟨a, cp.x i, some dd, rfl, h1, by rw [hH]; exact (hx σ).h a (e1.none0 na), raises_own cl.ox.exC cl.ox.tyC, ?_⟩
    rw [← hE]
    exact (hx _).x i [d] [(f, v)] dd ρ1 _ (e1.ex ed) (by rw [delH_ne hne]; exact h2) (.cons (Dv.mv (Mv.ex ed) _ _ dv) .nil) q⟩
theorem DS.raise2 {Xc : Cx} {i : Nat} {f g : Str} {E : XK} {te tg : TE} (hE : X.E = E) (hH : Xc.H_0 = X.h) (cl : ClsX Xc.K (cp.x i)) (h : DEs K cp X te ρ fun d ρ1 => DEs K cp X tg ρ1 fun y ρ2 => X.P i [g, f] [y, d] ρ2) :
    DS K cp X (tRz Xc E (tCall (spC2 (cp.x i) f g) [] (fun _ _ _ => False) (tCons te (tCons tg tNil)))) ρ N R B C := fun F A H0 H σ e hx Dd n r b c =>
  h.go e (hx _) fun v d ρ1 H1 e1 m1 dv q => DEs.go (show DEs K cp X tg ρ1 _ from q) e1 (hx _) fun w y ρ2 H2 e2 m2 dy q2 => ⟨v, w, rfl, fun a H3 na e3 eo => by
    obtain ⟨dd, hne, h1, h2⟩ := eo
    have ed := ex_del e3 na
    refine ⟨a, cp.x i, some dd, rfl, h1, by rw [hH]; exact (hx σ).h a (e2.none0 na), raises_own cl.ox.exC cl.ox.tyC, ?_⟩
    rw [← hE]
    exact (hx _).x i [y, d] [(g, w), (f, v)] dd ρ2 _ (e2.ex ed) (by rw [delH_ne hne]; exact h2) (.cons (Dv.mv (Mv.ex ed) _ _ dy) (.cons (Dv.mv (m2.tr (Mv.ex ed)) _ _ dv) .nil)) q2⟩
/-- a call that may raise -/
theorem DE.callY {n : Nat} {Cc : CtX} {E : XK} {t : TA} (hE : X.E = E) (h : DAo K cp X t ρ fun ps ρ1 => ∃ ss, argS ρ1 ps = some ss ∧ ps.length = n ∧ (slots ps).Nodup ∧ Cc ss (fun r ρc => Φ r (upds ρc 0 ps ρ1)) fun i ns es ρc => X.P i ns es (upds ρc 0 ps ρ1)) : DE K cp X (tCall (spX K cp n Cc) [] E t) ρ Φ := by
  rw [← hE]; exact DE.callX h
theorem DE.makeY {n c : Nat} {Ci : CtX} {E : XK} {t : TA} (hE : X.E = E) (h : DAo K cp X t ρ fun ps ρ1 => ∃ ds, oks ps = some ds ∧ ps.length = n ∧ Ci (.ow true (.ob c [] []) :: ds.map .sh) (fun r ρc => r = .d .non ∧ ∀ ob, ρc[0]? = some (.ow true ob) → Φ (.n ob) ρ1) fun i ns es _ => X.P i ns es ρ1) : DE K cp X (tMake (cp.c c) (spX K cp (n + 1) Ci) [] E t) ρ Φ := by
  rw [← hE]; exact DE.makeX h
/-! ### a lambda is asked within a try -/
theorem En.exK (e : En K cp F A H0 H σ ρ) (x : ExtK H H1) (tb : Tabs cp.T H1) : En K cp F A H0 H1 σ ρ ∧ Mv (Gv F σ ρ) H (Gv F σ ρ) H1 := by
  have sm : ∀ a o, H a = some o → Sm o H1 a := fun a o h => by
    cases o <;> first | exact x.2 a _ h | exact x.1 a _ h (fun _ z => by cases z)
  have m : Mv (Gv F σ ρ) H (Gv F σ ρ) H1 := ⟨fun a o n h => ⟨n, sm a o h⟩⟩
  refine en_upd e Alike.rfl' (fun a o _ h => sm a o h) tb fun i b ds a h1 h2 => ?_
  obtain ⟨a', q1, u, q2, q3⟩ := e.sl i _ h1
  rw [h2] at q1; cases q1
  exact ⟨u, (sm a u q2).to q3.nt, q3.mv m⟩
/-- what the def that asks hands back: None, or what res tells of the error -/
def TTd (K : PySem.W.Frag) (cp : Cb) (res : Nat → List Str → List D → Option D) : (XK → Hp → VK → Prop) → List V → Hp → VK → Prop := fun tl vs H Q => vs = [] ∧ ∀ (E : XK) (Qn : VK), (∀ v G, (∀ G', Ex G G' → Q .non G') → Qn v G) →
  (∀ (i : Nat) (es : List D) (fs : List (Str × V)) (dd : Addr) (G : Hp) (d : D) (F : Addr → Prop), G dd = some (exd dd fs) → Trk F G → DvA K cp F G (fs.map (·.2)) es → res i (fs.map (·.1)) es = some d → (∀ v G', Ex G G' → Dv K cp F G' v d → Q v G') → E (.ref (cp.x i)) (some dd) G) → tl E H Qn
mutual
/-- nothing in d is of the kinds that are told: lists, dicts, instances -/
def nolK (l k b : Bool) : D → Bool
  | .lst ds => !l && nolKA l k b ds
  | .dk _ ds => !k && nolKA l k b ds
  | .ob _ _ ds => !b && nolKA l k b ds
  | .tup ds => nolKA l k b ds
  | _ => true
def nolKA (l k b : Bool) : List D → Bool
  | [] => true
  | d :: ds => nolK l k b d && nolKA l k b ds
end
def hk (l k b : Bool) : HO → Prop
  | .lst _ => l = true
  | .dK _ => k = true
  | .ins _ _ _ => b = true
  | _ => False
section
variable {G G' : Addr → Prop} {l k b : Bool}
mutual
theorem Dv.nol (hG : ∀ a, G a → G' a ∨ ∃ o, H a = some o ∧ hk l k b o) : ∀ (d : D) (v : V), nolK l k b d = true → Dv K cp G' H v d → Dv K cp G H v d
  | .non, _, _, h => by cases h; exact .non
  | .bl b, _, _, h => by cases h; exact .bl b
  | .int i, _, _, h => by cases h; exact .int i
  | .str x, _, _, h => by cases h; exact .str x
  | .lst ds, _, hn, h => by
    have hn : (!l && nolKA l k b ds) = true := hn
    simp only [Bool.and_eq_true, Bool.not_eq_true'] at hn
    cases h with
    | @lst a vs _ h1 n h2 => exact .lst h1 (fun g => (hG a g).elim n fun ⟨o, q1, q2⟩ => by rw [h1] at q1; cases q1; rw [hn.1] at q2; cases q2) (DvA.nol hG ds vs hn.2 h2)
  | .tup ds, _, hn, h => by
    have hn : nolKA l k b ds = true := hn
    cases h with
    | @tup a vs _ h1 n h2 => exact .tup h1 (fun g => (hG a g).elim n fun ⟨o, q1, q2⟩ => by rw [h1] at q1; cases q1; cases q2) (DvA.nol hG ds vs hn h2)
    | @kt a vs _ h1 h2 => exact .kt h1 (DvA.nol hG ds vs hn h2)
  | .dk ks ds, _, hn, h => by
    have hn : (!k && nolKA l k b ds) = true := hn
    simp only [Bool.and_eq_true, Bool.not_eq_true'] at hn
    cases h with
    | @dk a kvs _ _ h1 n e h2 =>
      refine .dk h1 (fun g => (hG a g).elim n fun ⟨o, q1, q2⟩ => ?_) e (DvA.nol hG ds _ hn.2 h2)
      rcases h1 with h1 | ⟨o', h1⟩
      · rw [h1] at q1; cases q1; rw [hn.1] at q2; cases q2
      · rw [h1] at q1; cases q1; cases q2
  | .ob c ns ds, _, hn, h => by
    have hn : (!b && nolKA l k b ds) = true := hn
    simp only [Bool.and_eq_true, Bool.not_eq_true'] at hn
    cases h with
    | @ob a dx _ fs _ _ h1 n e h2 => exact .ob h1 (fun g => (hG a g).elim n fun ⟨o, q1, q2⟩ => by rw [h1] at q1; cases q1; rw [hn.1] at q2; cases q2) e (DvA.nol hG ds _ hn.2 h2)
theorem DvA.nol (hG : ∀ a, G a → G' a ∨ ∃ o, H a = some o ∧ hk l k b o) : ∀ (ds : List D) (vs : List V), nolKA l k b ds = true → DvA K cp G' H vs ds → DvA K cp G H vs ds
  | [], _, _, h => by cases h; exact .nil
  | d :: ds, _, hn, h => by
    have hn : (nolK l k b d && nolKA l k b ds) = true := hn
    simp only [Bool.and_eq_true] at hn
    cases h with
    | cons h1 h2 => exact .cons (Dv.nol hG d _ hn.1 h1) (DvA.nol hG ds _ hn.2 h2)
end
end
/-- what is owned, as data for a while -/
def lend : SV → SV
  | .ow _ c => .sh c
  | s => s
def kindOk (l k b : Bool) : SV → Bool
  | .ow _ (.lst _) => l
  | .ow _ (.dk _ _) => k
  | .ow _ (.ob _ _ _) => b
  | .ow _ _ => false
  | _ => true
theorem kind_hk {l k b c0 : Bool} {o : HO} {c : D} {G : Addr → Prop} (h : OwV K cp G H o c) (hk0 : kindOk l k b (.ow c0 c) = true) : hk l k b o := by
  cases h <;> exact hk0
theorem DE.lam {T : List (Addr × Str)} {n : Nat} {res : Nat → List Str → List D → Option D} {t : XK → TE} {l k b : Bool} {ρL : List SV} (hT : cp.T = T) (hn : n = 0) (hk0 : ρ.all (kindOk l k b) = true) (hL : ρ.map lend = ρL)
    (h : ∀ X' : XC, X'.P = (fun i ns es _ => ∃ d, res i ns es = some d ∧ nolK l k b d = true ∧ Φ (.d d) ρ) → DE K cp X' (t X'.E) ρL fun _ _ => Φ (.d .non) ρ) : DE K cp X (tLamG T n (TTd K cp res) t tNil) ρ Φ := fun F A H0 H σ e hx Q kk => by
  subst hT hn hL
  refine ⟨e.tb, fun H1 x1 t1 => ⟨Ex.rfl' _, rfl, rfl, fun E Qn hq hE => ?_⟩⟩
  obtain ⟨e1, m1⟩ := e.exK x1 t1
  let F' : Addr → Prop := fun a => F a ∧ ¬ ∃ i, DD.own σ ρ i a
  have noO : ∀ i a, ¬ DD.own σ (ρ.map lend) i a := fun i a ⟨b0, c0, q1, q2⟩ => by
    rw [List.getElem?_map] at q1
    cases z : ρ[i]? with
    | none => rw [z] at q1; cases q1
    | some s => rw [z] at q1; cases s <;> cases q1
  have gF : ∀ a, Gv F' σ (ρ.map lend) a → F' a := fun a g => g.elim id fun ⟨i, o⟩ => (noO i a o).elim
  have gS : ∀ a, F' a → Gv F σ ρ a := fun a g => .inl g.1
  have eL : En K cp F' [] H1 H1 σ (ρ.map lend) := by
    refine ⟨by rw [List.length_map]; exact e1.len, fun a f => e1.tr a f.1, fun a o _ h => .of h, e1.tb, fun y hy => by simp at hy, fun i j a o1 _ => (noO i a o1).elim, fun i b0 c0 a q1 q2 => (noO i a ⟨b0, c0, q1, q2⟩).elim, fun i s hs => ?_⟩
    rw [List.getElem?_map] at hs
    cases z : ρ[i]? with
    | none => rw [z] at hs; cases hs
    | some s0 =>
      rw [z] at hs
      have q := e1.sl i s0 z
      cases s0 with
      | no => cases hs; trivial
      | sh d => cases hs; obtain ⟨v, q1, q2⟩ := q; exact ⟨v, q1, Dv.mv (Mv.sub fun a g => gS a (gF a g)) _ _ q2⟩
      | ow b0 c =>
        cases hs
        obtain ⟨a, q1, u, q2, q3⟩ := q
        exact ⟨_, q1, OwOk.sh ⟨u, q2, q3.mv (Mv.sub fun a g => gS a (gF a g))⟩ fun g => (gF a g).2 ⟨i, b0, c, z, q1⟩⟩
  have keep : ∀ {H2 : Hp}, (∀ a o, H1 a = some o → Sm o H2 a) → Tabs cp.T H2 → En K cp F A H0 H2 σ ρ ∧ Mv (Gv F σ ρ) H1 (Gv F σ ρ) H2 := fun {H2} sm tb => by
    have m : Mv (Gv F σ ρ) H1 (Gv F σ ρ) H2 := ⟨fun a o n h => ⟨n, sm a o h⟩⟩
    refine en_upd e1 Alike.rfl' (fun a o _ h => sm a o h) tb fun i b ds a h1 h2 => ?_
    obtain ⟨a', q1, u, q2, q3⟩ := e1.sl i _ h1
    rw [h2] at q1; cases q1
    exact ⟨u, (sm a u q2).to q3.nt, q3.mv m⟩
  refine h ⟨E, _, fun _ => none⟩ rfl F' [] H1 H1 σ eL ⟨fun _ _ => rfl, fun i es fs dd ρ2 H2 e2 h1 h2 ⟨d, hd, hnl, φ⟩ => ?_⟩ Qn fun v r ρ1 H2 rs φ => ?_
  · obtain ⟨e3, m3⟩ := keep (fun a o h => e2.fr a o (fun x hx => by simp at hx) h) e2.tb
    refine hE i es fs dd H2 d F' h1 (fun a f => e3.tr a f.1) (DvA.mv (Mv.sub fun a g => .inl g) _ _ h2) hd fun v G' ex dv => ?_
    have e4 := e3.ex ex
    refine kk v (.d d) ρ G' ⟨e4, m1.tr (m3.tr (Mv.ex ex)), Dv.nol (fun a g => ?_) _ _ hnl dv⟩ φ
    by_cases z : ∃ i, DD.own σ ρ i a
    · obtain ⟨i, b0, c, z1, z2⟩ := z
      obtain ⟨a', q1, u, q2, q3⟩ := e4.sl i _ z1
      rw [z2] at q1; cases q1
      exact .inr ⟨u, q2, kind_hk (c0 := b0) q3 (List.all_eq_true.mp hk0 _ (List.mem_of_getElem? z1))⟩
    · exact .inl ⟨g.elim id fun w => (z w).elim, z⟩
  · have fin : (∀ a o, H1 a = some o → Sm o H2 a) ∧ Tabs cp.T H2 := by
      cases r with
      | d d => exact ⟨fun a o h => rs.1.fr a o (fun x hx => by simp at hx) h, rs.1.tb⟩
      | n c => obtain ⟨p, _, _, _, en, _⟩ := rs; exact ⟨fun a o h => en.fr a o (fun x hx => by simp at hx) h, en.tb⟩
      | o i => exact ⟨fun a o h => rs.1.fr a o (fun x hx => by simp at hx) h, rs.1.tb⟩
    obtain ⟨e3, m3⟩ := keep fin.1 fin.2
    exact hq v H2 fun G' ex => kk .non (.d .non) ρ G' ⟨e3.ex ex, m1.tr (m3.tr (Mv.ex ex)), .non⟩ φ
end
end DD
set_option maxHeartbeats 1000000
/-! Chains, great numbers, keywords, dicts that grow, a pair whose first is owned; a def with lambdas by its contract. -/
namespace DD
open PySem PySem.Spec PyProof.Rows L2 GL LamX
section
variable {K : PySem.W.Frag} {cp : Cb} {X : XC} {F : Addr → Prop} {A : List (Nat × Addr)} {H0 H H' H1 : Hp} {σ : L2.St} {v : V} {ρ ρ1 : List SV} {Φ : AV → List SV → Prop} {ψ : AV → Prop} {N : List SV → Prop} {R : AV → List SV → Prop} {B C : List SV → Prop}
theorem r2_fdivW {i j : Int} (h : CDivW i j) (q : ψ (.d (.int (i / j)))) : R2d K cp (rI CDivW fun i j => .int (i / j)) (.int i) (.int j) ψ := r2_intC h (.int _) q
theorem r2_mulW {i j : Int} (h : CMulW i j) (q : ψ (.d (.int (i * j)))) : R2d K cp (rI CMulW fun i j => .int (i * j)) (.int i) (.int j) ψ := r2_intC h (.int _) q
theorem cdivW {i j : Int} (h0 : 0 < j) (h1 : j < 2 ^ 100) : CDivW i j := wide_div h0 (b := 100) (by omega) (by decide) (by decide)
theorem cmulW {i j : Int} (a b : Nat) (ha : i.natAbs < 2 ^ a) (hb : j.natAbs < 2 ^ b) (h0 : 0 < a) (h1 : 0 < b) (h : a + b ≤ 1000000) : CMulW i j := wide_mul ha hb h0 h1 h
/-- a r b r' c -/
theorem DE.chain {r r' : R2} {ta tb tc : TE} (h : DEo K cp X ta ρ fun x ρ1 => DEo K cp X tb ρ1 fun y ρ2 => ∃ d e, x.at ρ2 = some d ∧ y.at ρ2 = some e ∧ R2d K cp r d e fun a => ∃ c, a = .d (.bl c) ∧ if c = true then DEo K cp X tc ρ2 (fun z ρ3 => ∃ e' f, y.at ρ3 = some e' ∧ z.at ρ3 = some f ∧ R2d K cp r' e' f fun a => Φ a ρ3) else Φ (.d (.bl false)) ρ2) :
    DE K cp X (tChain r r' ta tb tc) ρ Φ := fun F A H0 H σ e hx Q k =>
  h.go e hx fun v x ρ1 H1 e1 m1 o1 h1 => DEo.go h1 e1 hx fun w y ρ2 H2 e2 m2 o2 ⟨d, d', ex, ey, rd⟩ =>
    rd _ _ _ _ _ ((o1.mv m2).dt e2 ex) (o2.dt e2 ey) fun u a H3 x3 ⟨c, ea, φ⟩ => by
      subst ea
      obtain ⟨x4, x5⟩ := x3
      cases x5
      refine ⟨c, rfl, ?_⟩
      have e3 := e2.ex x4
      have m3 : Mv (Gv F σ ρ2) H2 (Gv F σ ρ2) H3 := Mv.ex x4
      cases c with
      | true =>
        rw [if_pos rfl] at φ
        exact iteT (DEo.go φ e3 hx fun z zz ρ3 H4 e4 m4 o4 ⟨e', f, ey', ez, rd'⟩ => rd' _ _ _ _ _ (((o2.mv m3).mv m4).dt e4 ey') (o4.dt e4 ez) fun u a H5 x5 φ => k u a ρ3 H5 ((x5.res e4).tr (m1.tr (m2.tr (m3.tr m4)))) φ)
      | false =>
        rw [if_neg (by decide)] at φ
        exact iteF (k _ (.d (.bl false)) ρ2 H3 ⟨e3, m1.tr (m2.tr m3), .bl _⟩ φ)
/-! ### keywords -/
theorem pd_imp {α β : Type} {P Q : α → β → Prop} (h : ∀ a b, P a b → Q a b) : ∀ {xs : List α} {ys : List β}, Paired P xs ys → Paired Q xs ys
  | [], [], _ => .nil
  | _ :: _, _ :: _, .cons a b => .cons (h _ _ a) (pd_imp h b)
def PGo (g : {α : Type} → List α → List α → List α) (ps qs : List OP) : Prop := ∀ (P : V → OP → Prop) (vs zs : List V), Paired P vs ps → Paired P zs qs → Paired P (g vs zs) (g ps qs)
theorem DE.kwX {n m c : Nat} {Cc : CtX} {E : XK} {g : {α : Type} → List α → List α → List α} {t tk : TA} (hE : X.E = E) (h : DAo K cp X t ρ fun ps ρ1 => DAo K cp X tk ρ1 fun qs ρ2 => ps.length = n ∧ qs.length = m ∧ PGo g ps qs ∧ ∃ ss, argS ρ2 (g ps qs) = some ss ∧ (g ps qs).length = c ∧ (slots (g ps qs)).Nodup ∧ Cc ss (fun r ρc => Φ r (upds ρc 0 (g ps qs) ρ2)) fun i ns es ρc => X.P i ns es (upds ρc 0 (g ps qs) ρ2)) :
    DE K cp X (tKw n m (spX K cp c Cc) g E t tk) ρ Φ := fun F A H0 H σ e hx Q k => by
  subst hE
  refine h F A H0 H σ e hx _ fun vs ps ρ1 H1 e1 m1 o1 h1 => (show DAo K cp X tk ρ1 _ from h1) F A H0 H1 σ e1 hx _ fun zs qs ρ2 H2 e2 m2 o2 ⟨l1, l2, pg, ss, hs, hn, hd, hc⟩ => ⟨(Paired.len o1).trans l1, (Paired.len o2).trans l2, ?_⟩
  have o1' : Paired (OPv K cp F σ ρ2 H2) vs ps := pd_imp (fun _ _ a => a.mv m2) o1
  exact call_ct (Ψ := X.P) e2 (pg _ _ _ o1' o2) hs hn hd hc (fun v r ρ3 H3 rs φ => k v r ρ3 H3 (rs.tr (m1.tr m2)) φ) fun i es fs dd ρ' H' e3 h1 h2 h3 => hx.x i es fs dd _ _ e3 h1 h2 h3
theorem DE.kwC {n m c : Nat} {Cc : Ct} {E : XK} {g : {α : Type} → List α → List α → List α} {t tk : TA} (h : DAo K cp X t ρ fun ps ρ1 => DAo K cp X tk ρ1 fun qs ρ2 => ps.length = n ∧ qs.length = m ∧ PGo g ps qs ∧ ∃ ss, argS ρ2 (g ps qs) = some ss ∧ (g ps qs).length = c ∧ (slots (g ps qs)).Nodup ∧ Cc ss fun r ρc => Φ r (upds ρc 0 (g ps qs) ρ2)) :
    DE K cp X (tKw n m (spC K cp c Cc) g E t tk) ρ Φ := fun F A H0 H σ e hx Q k => by
  refine h F A H0 H σ e hx _ fun vs ps ρ1 H1 e1 m1 o1 h1 => (show DAo K cp X tk ρ1 _ from h1) F A H0 H1 σ e1 hx _ fun zs qs ρ2 H2 e2 m2 o2 ⟨l1, l2, pg, ss, hs, hn, hd, hc⟩ => ⟨(Paired.len o1).trans l1, (Paired.len o2).trans l2, ?_⟩
  have o1' : Paired (OPv K cp F σ ρ2 H2) vs ps := pd_imp (fun _ _ a => a.mv m2) o1
  exact call_ct (Ψ := fun _ _ _ _ => False) (C := fun ss Φ _ => Cc ss Φ) e2 (pg _ _ _ o1' o2) hs hn hd hc (fun v r ρ3 H3 rs φ => k v r ρ3 H3 (rs.tr (m1.tr m2)) φ) fun _ _ _ _ _ _ _ _ _ z => z.elim
/-! ### dicts -/
theorem DE.dnew (q : Φ (.n (.dk [] [])) ρ) : DE K cp X tDNewK ρ Φ := fun F A H0 H σ e hx Q k p hp =>
  k _ (.n (.dk [] [])) ρ _ (Rx.res (r := .n (.dk [] [])) e ⟨p, rfl, hp, Ex.nw hp, _, upd_same, .dk rfl .nil⟩) q
/-- d[k] = e, d a name's own dict -/
theorem DS.dput {i : Nat} {ty tv : TE} (h : DEs K cp X tv ρ fun y ρ1 => (∃ b c, ρ1[i]? = some (.ow b c)) ∧ DEs K cp X ty ρ1 fun z ρ2 => ∃ b ks ds kk, keyOf z = some kk ∧ ρ2[i]? = some (.ow b (.dk ks ds)) ∧ ks.Nodup ∧ ks.length < sizeLine ∧ N (ρ2.set i (.ow b (.dk (putKs ks kk) (putDs ks ds kk y))))) :
    DS K cp X (sDPut (tVar i) ty tv) ρ N R B C := fun F A H0 H σ e hx Dd n r b c =>
  h.go e (hx _) fun v y ρ1 H1 e1 m1 dv ⟨⟨b, c, hb⟩, q⟩ => by
    obtain ⟨a, ha, _⟩ := e1.sl i _ hb
    refine ⟨_, ha, DEs.go (show DEs K cp X ty ρ1 _ from q) e1 (hx _) fun w z ρ2 H2 e2 m2 dz ⟨b, ks, ds, kk, hk, hb, hnd, hl, hn⟩ => ?_⟩
    obtain ⟨kvs, q1, q2, q3⟩ := own_dk e2 hb ha
    subst q2
    obtain ⟨p1, p2⟩ := put_ok (Dv.mv m2 _ _ dv) hnd q3
    obtain ⟨e3, m3⟩ := en_upd1 (o' := .dK (putK kvs kk v)) (ds' := .dk (putKs (kvs.map (·.1)) kk) (putDs (kvs.map (·.1)) ds kk y)) e2 hb ha (.dk p1 p2)
    exact ⟨a, _, rfl, .inl ⟨kvs, kk, q1, key_dv hk dz, by rw [List.length_map] at hl; exact hl, rfl⟩, n _ _ _ e3 (m1.tr (m2.tr m3)) hn⟩
/-- x, y = (e, c): x owns what e made, c a constant -/
theorem DS.ownTup {i j : Nat} {te : TE} {u : V} {d : D} (hu : Fla u d) (h : DE K cp X te ρ fun r ρ1 => ∃ ds, r = .n ds ∧ free ρ1 i ∧ i ≠ j ∧ free ρ1 j ∧ N ((ρ1.set i (.ow false ds)).set j (.sh d))) :
    DS K cp X (tAsg (tTup (tCons te (tCons (tC u) tNil))) (gTup K 2 (gCons (gName i) (gCons (gName j) gNil)))) ρ N R B C := fun F A H0 H σ e hx Dd n r b c =>
  h F A H0 H σ e (hx _) _ fun v a ρ1 H1 e1 ⟨ds, ea, hi, hij, hj, q⟩ => by
    subst ea
    obtain ⟨p, rfl, nf, h0, en, ha, mv, dv⟩ := e1
    refine ⟨(show 2 ≤ sizeLine by decide), fun t ht => ?_⟩
    have ex : Ex H1 (upd H1 t (.tup [.ref p, u])) := Ex.nw ht
    have en2 := en.ex ex
    have mv2 : Mv (Gv F σ ρ) H (Gv (plus F p) σ ρ1) (upd H1 t (.tup [.ref p, u])) := mv.tr (Mv.ex ex)
    obtain ⟨u0, hu0, dv0⟩ := dv
    obtain ⟨e2, g2⟩ := own_new en2 nf h0 ha hi ⟨u0, ex _ _ hu0, dv0.mv (Mv.ex ex)⟩
    have hj2 : free (ρ1.set i (.ow false ds)) j := ⟨by rw [List.length_set]; exact hj.1, fun es z => by rw [List.getElem?_set_ne hij] at z; exact hj.2 es z⟩
    have e3 := e2.set hj2 (x := some u) (s := .sh d) (.inl ⟨d, u, rfl, rfl, hu.dv⟩)
    refine ⟨t, [.ref p, u], rfl, .inl (.inl upd_same), rfl, _, _, rfl, _, _, rfl, rfl, ?_⟩
    exact n _ _ _ e3 (mv2.tr (Mv.sub fun a g => g2 a (gv_set (by rintro b ds z; cases z) a g))) q
end
section
variable {pg : Program} {w : World} {K : PySem.W.Frag} {mg : Str → Option Value} {bs : Heap} {cp : Cb} {X : XC}
/-- a def that makes lambdas, by its contract -/
theorem okXC {cx : CXT} {x q : Str} {st : Stmt} {f : Addr} {fd : FuncData} {N ps : List Str} {k : Nat} {C : CtX} {nos : List SV} (Fn : Fun K x q st f fd) (S : FnScope N ps (defScope st)) (hno : noS (N.length - ps.length) = nos)
    (hb : ∀ (cd : Value) (A : Around) (out : List Env) (s : Shared) (H : Hp) (E : XK), A.guards = some [] → CodeF K f cd → Room k (A.deeper (envOfC q (defScope st) s.heap.objs.size f cd)) → ∀ ss Φ Ψ, C ss Φ Ψ → ss.length = ps.length →
      ∃ t, PSs (cxOf cx pg w K mg bs N q (defScope st) f cd A out s H E) (defBody st) t ∧ DS K cp ⟨E, Ψ, H⟩ t (ss ++ nos) (Φ (.d .non)) Φ (fun _ => False) fun _ => False) :
    FnG pg w K mg bs cx (k + 1) f fd ps (spX K cp ps.length C) := by
  subst hno
  refine Fun.okGC Fn S (fun vs H Q E h => ?_) (fun cd A out s H vs Q E gd hcf hr h => ?_)
  · obtain ⟨_, _, _, _, h, _⟩ := h; exact h
  · obtain ⟨F, ss, Φ, Ψ, hl, pr, tr, dj, tb, hc, kk, kx⟩ := h
    obtain ⟨t, ht, hd⟩ := hb cd A out s H E gd hcf hr ss Φ Ψ hc (by rw [← Paired.len pr, hl])
    refine ⟨t, ht, ?_⟩
    exact body_ct hl pr tr dj tb kk kx hd
end
end DD
set_option maxHeartbeats 1000000
/-! Dicts as maps; bits; numbers in lists. -/
namespace DD
open PySem PySem.Spec PyProof.Rows L2 GL
theorem putKs_nodup {ks : List Key} {k : Key} (h : ks.Nodup) : (putKs ks k).Nodup := by
  unfold putKs
  split
  · exact h
  · rename_i c
    refine List.nodup_append.mpr ⟨h, by simp, fun a ha b hb => ?_⟩
    rw [List.mem_singleton.mp hb]
    rintro rfl
    exact c (any_key.mpr ha)
theorem putKs_len {ks : List Key} {k : Key} : (putKs ks k).length ≤ ks.length + 1 := by
  unfold putKs; split <;> simp
theorem put_len : ∀ {ks : List Key} {ds : List D} {k : Key} {d : D}, ks.Nodup → ks.length = ds.length → (putDs ks ds k d).length = (putKs ks k).length
  | [], [], k, d, _, _ => by simp [putKs, putDs]
  | k0 :: ks, d0 :: ds, k, d, hn, h => by
    have hn' := List.nodup_cons.mp hn
    have ih := put_len (ks := ks) (ds := ds) (k := k) (d := d) hn'.2 (by simpa using h)
    simp only [putDs]
    by_cases e : k0 = k
    · subst e
      rw [if_pos rfl]
      unfold putKs
      rw [if_pos (any_key.mpr List.mem_cons_self)]
      simp only [List.length_cons] at h ⊢
      omega
    · rw [if_neg e, List.length_cons, ih]
      unfold putKs
      by_cases m : k ∈ ks
      · rw [if_pos (any_key.mpr m), if_pos (any_key.mpr (List.mem_cons_of_mem _ m))]; rfl
      · rw [if_neg (fun z => m (any_key.mp z)), if_neg (fun z => (List.mem_cons.mp (any_key.mp z)).elim (fun w => e w.symm) m)]
        simp
theorem look_put : ∀ {ks : List Key} {ds : List D} {k k' : Key} {d : D}, ks.length = ds.length → lookK (putKs ks k) (putDs ks ds k d) k' = if k = k' then some d else lookK ks ds k'
  | [], [], k, k', d, _ => by simp [putKs, putDs, lookK]
  | k0 :: ks, d0 :: ds, k, k', d, h => by
    have ih := look_put (ks := ks) (ds := ds) (k := k) (k' := k') (d := d) (by simpa using h)
    by_cases e : k0 = k
    · subst e
      have e1 : putKs (k0 :: ks) k0 = k0 :: ks := by unfold putKs; rw [if_pos (any_key.mpr List.mem_cons_self)]
      rw [e1]
      simp only [putDs, if_pos, lookK]
      by_cases z : k0 = k'
      · rw [if_pos z, if_pos z]
      · rw [if_neg z, if_neg z, if_neg z]
    · have e1 : putKs (k0 :: ks) k = k0 :: putKs ks k := by
        unfold putKs
        by_cases m : k ∈ ks
        · rw [if_pos (any_key.mpr m), if_pos (any_key.mpr (List.mem_cons_of_mem _ m))]
        · rw [if_neg (fun z => m (any_key.mp z)), if_neg (fun z => (List.mem_cons.mp (any_key.mp z)).elim (fun w => e w.symm) m)]
          rfl
      rw [e1]
      simp only [putDs]
      rw [if_neg e]
      simp only [lookK]
      rw [ih]
      by_cases z : k0 = k'
      · subst z
        rw [if_pos rfl, if_neg (fun w => e w.symm), if_pos rfl]
      · rw [if_neg z, if_neg z]
/-- the item of a list of ints -/
def nth (ns : List Int) (i : Nat) : Int := ns.getD (i - 1) 0
theorem nth_at {ns : List Int} {i : Nat} (h1 : 1 ≤ i) (h2 : i ≤ ns.length) : atI (ns.map D.int) ((i : Int) - 1) = some (.int (nth ns i)) := by
  obtain ⟨j, rfl⟩ : ∃ j, i = j + 1 := ⟨i - 1, by omega⟩
  have e : ((j + 1 : Nat) : Int) - 1 = (j : Int) := by omega
  have hj : j < ns.length := by omega
  rw [e]
  refine atI_nat ?_
  rw [List.getElem?_map, List.getElem?_eq_getElem hj]
  unfold nth
  simp [List.getD, hj]
theorem nth_mem {ns : List Int} {i : Nat} (h1 : 1 ≤ i) (h2 : i ≤ ns.length) : nth ns i ∈ ns := by
  have hj : i - 1 < ns.length := by omega
  unfold nth
  rw [List.getD_eq_getElem?_getD, List.getElem?_eq_getElem hj]
  exact List.getElem_mem hj
theorem bits_log {z : Nat} (h : 1 ≤ z) : Builtin.Int.intBits (z : Int) = z.log2 + 1 := by
  unfold Builtin.Int.intBits
  have : ((z : Int) == 0) = false := by simp; omega
  rw [this]; simp
/-- the least L with z up to 2^L -/
def dbl (z : Nat) : Nat := Builtin.Int.intBits ((z : Int) - 1)
theorem dbl_ok {z : Nat} (h : 1 ≤ z) : z ≤ 2 ^ dbl z ∧ (1 ≤ dbl z → 2 ^ (dbl z - 1) < z) := by
  unfold dbl
  by_cases h1 : z = 1
  · subst h1; exact ⟨by decide, fun h => absurd h (by decide)⟩
  · have e : ((z : Int) - 1) = ((z - 1 : Nat) : Int) := by omega
    rw [e, bits_log (by omega)]
    have a := (Nat.log2_lt (show z - 1 ≠ 0 by omega)).mp (Nat.lt_succ_self (z - 1).log2)
    have b := Nat.log2_self_le (show z - 1 ≠ 0 by omega)
    refine ⟨by omega, fun _ => ?_⟩
    rw [Nat.add_sub_cancel]
    omega
theorem dbl_by {z L : Nat} (h : 1 ≤ z) (h1 : z ≤ 2 ^ L) (h2 : 1 ≤ L → 2 ^ (L - 1) < z) : L = dbl z := by
  obtain ⟨a, b⟩ := dbl_ok h
  refine Nat.le_antisymm ?_ ?_
  · refine Nat.le_of_not_lt fun c => ?_
    have q := h2 (by omega)
    have := Nat.pow_le_pow_right (n := 2) (by decide) (show dbl z ≤ L - 1 by omega)
    omega
  · refine Nat.le_of_not_lt fun c => ?_
    have q := b (by omega)
    have := Nat.pow_le_pow_right (n := 2) (by decide) (show L ≤ dbl z - 1 by omega)
    omega
theorem dbl_mono {a b : Nat} (h : 1 ≤ a) (hab : a ≤ b) : dbl a ≤ dbl b := by
  refine Nat.le_of_not_lt fun c => ?_
  have p := (dbl_ok (z := b) (by omega)).1
  have q := (dbl_ok h).2 (by omega)
  have := Nat.pow_le_pow_right (n := 2) (by decide) (show dbl b ≤ dbl a - 1 by omega)
  omega
theorem dbl_le {z m : Nat} (h : 1 ≤ z) (hm : z ≤ 2 ^ m) : dbl z ≤ m := by
  refine Nat.le_of_not_lt fun c => ?_
  have q := (dbl_ok h).2 (by omega)
  have := Nat.pow_le_pow_right (n := 2) (by decide) (show m ≤ dbl z - 1 by omega)
  omega
/-- numbers, by what they are -/
def numD : D → Bool
  | .int i => decide (0 ≤ i)
  | _ => false
def areNum (d : D) : Bool := match seqD d with
  | some xs => decide (1 ≤ xs.length) && decide (xs.length ≤ 400) && xs.all numD
  | none => false
def AllNob (d : D) : Prop := match seqD d with
  | some xs => ∀ x ∈ xs, Nob x
  | none => True
theorem num_list : ∀ {xs : List D}, xs.all numD = true → ∃ ns : List Int, xs = ns.map D.int ∧ ∀ n ∈ ns, 0 ≤ n
  | [], _ => ⟨[], rfl, by simp⟩
  | x :: xs, h => by
    rw [List.all_cons, Bool.and_eq_true] at h
    obtain ⟨ns, rfl, hn⟩ := num_list h.2
    cases x with
    | int i => exact ⟨i :: ns, rfl, fun n m => (List.mem_cons.mp m).elim (fun e => by rw [e]; exact of_decide_eq_true h.1) (hn n)⟩
    | _ => cases h.1
theorem num_all {ns : List Int} (h : ∀ n ∈ ns, 0 ≤ n) : (ns.map D.int).all numD = true := by
  rw [List.all_map, List.all_eq_true]
  exact fun n hn => decide_eq_true (h n hn)
end DD
namespace DD
open PySem PySem.Spec PyProof.Rows L2 GL
theorem flatL_ints : ∀ ns : List Int, flatL (ns.map D.int) = some (ns.map V.int)
  | [] => rfl
  | n :: ns => by simp only [List.map_cons, flatL, flatD, flatL_ints ns]
theorem inV_ints (j : Int) : ∀ ns : List Int, inV (V.int j) (ns.map V.int) = ns.any fun i => decide (i = j)
  | [] => rfl
  | n :: ns => by
    have ih := inV_ints j ns
    unfold inV at ih ⊢
    rw [List.map_cons, List.any_cons, List.any_cons, ih]
    congr 1
section
variable {K : PySem.W.Frag} {cp : Cb} {ψ : AV → Prop}
theorem r2_inInts {d : D} {ns : List Int} {j : Int} (h : seqD d = some (ns.map D.int)) (q : ψ (.d (.bl (ns.any fun i => decide (i = j))))) : R2d K cp (rIn K false) (.int j) d ψ := by
  refine r2_in (u := V.int j) rfl h (flatL_ints ns) ?_
  rw [inV_ints]
  exact q
end
end DD
namespace DD
open PySem PySem.Spec PyProof.Rows L2 GL
section
variable {K : PySem.W.Frag} {cp : Cb} {X : XC} {ρ : List SV} {Φ : AV → List SV → Prop}
theorem DE.neg {te : TE} (h : DEs K cp X te ρ fun d ρ1 => ∃ i : Int, d = .int i ∧ Φ (.d (.int (-i))) ρ1) : DE K cp X (tUn (rU fun i => .int (-i)) te) ρ Φ := fun F A H0 H σ e hx Q k =>
  h.go e hx fun v d ρ1 H1 e1 m1 dv ⟨i, hd, φ⟩ => by
    subst hd
    exact ⟨i, dv_int dv, k _ (.d (.int (-i))) ρ1 H1 ⟨e1, m1, .int _⟩ φ⟩
end
end DD
namespace DD
open PySem PySem.Spec PyProof.Rows L2 GL
/-- a draw below a bound that may be great -/
def cDrawW : Ct := fun ss Φ => ∃ c many n, ss = [.ow true c, .sh (.int many)] ∧ RkD c n ∧ n < 100000 ∧ 0 < many ∧ many < 2 ^ 101 ∧ ∀ r c' s1, 0 ≤ r → r < many → RkD c' (n + 1) → Φ (.d (.int r)) (.ow true c' :: s1)
def cOneD : Ct := fun ss Φ => ∃ c x xs n, ss = [.ow true c, .sh x] ∧ seqD x = some xs ∧ xs ≠ [] ∧ xs.length < 1000000 ∧ RkD c n ∧ n < 100000 ∧ ∀ y c' s1, y ∈ xs → RkD c' (n + 1) → Φ (.d y) (.ow true c' :: s1)
theorem cdivW2 {i j : Int} (h0 : 0 < j) (h1 : j < 2 ^ 101) : CDivW i j := wide_div h0 (b := 101) (by omega) (by decide) (by decide)
/-- the rack that a law makes by itself, as an owner -/
theorem rk_own {K : PySem.W.Frag} {cp : Cb} {G : Addr → Prop} {H : Hp} {p c : Addr} {n : Nat} (r : Rk H p c n) (nc : ¬ G c) : ∃ d, RkD d n ∧ OwOk K cp G H p d := by
  obtain ⟨ns, t, l, h1, h2, h3, h4, h5, h6, h7⟩ := r.ex
  exact ⟨_, ⟨ns, t, l, rfl, h4, h5, h6, h7⟩, _, h1, .lst (.cons (.lst h2 nc (ints_dva ns)) (.cons (.int t) (.cons (.int l) .nil)))⟩
end DD
set_option maxHeartbeats 1000000
namespace DD
open PySem PySem.Spec PyProof.Rows L2 GL
theorem cut_nat {xs : List D} {a b : Nat} (ha : a ≤ xs.length) : cutD xs (some (a : Int)) (some (b : Int)) = (xs.drop a).take (b - a) := by
  unfold cutD
  rw [HT.sIx_nat, HT.sIx_nat, Nat.min_eq_left ha]
  by_cases h : b ≤ xs.length
  · rw [Nat.min_eq_left h]
  · rw [Nat.min_eq_right (by omega), List.take_of_length_le (by rw [List.length_drop]; omega), List.take_of_length_le (by rw [List.length_drop]; omega)]
theorem cut_lo {xs : List D} {a : Nat} : cutD xs (some (a : Int)) none = xs.drop a := by
  unfold cutD
  rw [HT.sIx_nat, HT.sIx_none]
  by_cases h : a ≤ xs.length
  · rw [Nat.min_eq_left h, List.take_of_length_le (by rw [List.length_drop]; omega)]
  · rw [Nat.min_eq_right (by omega), List.drop_of_length_le (Nat.le_refl _), List.drop_of_length_le (by omega)]; simp
theorem cut_hi {xs : List D} {b : Nat} : cutD xs none (some (b : Int)) = xs.take b := by
  unfold cutD
  rw [HT.sIx_nat, HT.sIx_none, List.drop_zero]
  by_cases h : b ≤ xs.length
  · rw [Nat.min_eq_left h]; simp
  · rw [Nat.min_eq_right (by omega), List.take_of_length_le (by omega), List.take_of_length_le (by omega)]
theorem cut_ints {ns : List Int} {a b : Nat} (ha : a ≤ ns.length) : cutD (ns.map D.int) (some (a : Int)) (some (b : Int)) = ((ns.drop a).take (b - a)).map D.int := by
  rw [cut_nat (by rw [List.length_map]; exact ha), List.map_take, List.map_drop]
end DD
set_option maxHeartbeats 1000000
/-! A comprehension over a range whose turns draw. -/
namespace DD
open PySem PySem.Spec PyProof.Rows L2 GL
section
variable {K : PySem.W.Frag} {cp : Cb} {X : XC} {ρ : List SV} {Φ : AV → List SV → Prop}
theorem DE.lcRk {wi : TI} {g : TG} {te : TE} {vs ts : List Nat} {c : D} {n : Nat} (m k : Nat) (R : D → List SV) (Pd : Nat → Int → Prop) (hm : m ≤ 900000) (hr : RkD c n)
    (hi : DI K cp X wi (R c) fun ds ρ1 => ρ1 = R c ∧ ds = intD 0 m) (hts : (ts.all fun i => vs.contains i) = true) (hn : ∀ c, nown (R c) vs)
    (hs : ∀ (i : Nat) (c : D) (n' : Nat), i < m → RkD c n' → n' ≤ n + k * i → DG K cp g ts (.int (0 + (i : Int))) (wipeS (R c) vs) fun ρ3 => DEs K cp XC.q te ρ3 fun y ρ5 => ∃ c' z, y = .int z ∧ Pd i z ∧ RkD c' (n' + k) ∧ Turned vs (R c) ρ5 (R c'))
    (q : ∀ (ns : List Int) (c' : D), ns.length = m → (∀ x ∈ ns, ∃ i, i < m ∧ Pd i x) → RkD c' (n + k * m) → Φ (.n (.lst (ns.map .int))) (R c')) : DE K cp X (tLc wi g tYes te vs) (R c) Φ := by
  have hts : ∀ i ∈ ts, i ∈ vs := fun i hi => by simpa using List.all_eq_true.mp hts i hi
  refine DE.lc (fun F A H0 H σ e hx Q kk => hi F A H0 H σ e hx Q fun J ds ρ1 H1 e1 m1 wk ⟨e2, e3⟩ => kk J ds ρ1 H1 e1 m1 wk ?_)
  subst e2 e3
  refine ⟨ts, fun i acc ρ => ∃ (ns : List Int) (c' : D) (n' : Nat), ρ = R c' ∧ acc = ns.map .int ∧ ns.length = i ∧ (∀ x ∈ ns, ∃ j, j < m ∧ Pd j x) ∧ RkD c' n' ∧ n' ≤ n + k * i, hts, ⟨[], c, n, rfl, rfl, rfl, by simp, hr, by simp⟩, by rw [intD_len]; exact hm, ?_, ?_⟩
  · rintro i d acc ρ2 hd ⟨ns, c', n', rfl, rfl, hl, hp, hk, hle⟩
    have hi2 : i < m := by
      obtain ⟨h, _⟩ := List.getElem?_eq_some_iff.mp hd
      rw [intD_len] at h; exact h
    rw [intD_get hi2] at hd
    cases hd
    refine ⟨hn c', fun F A H0 H σ e v dv Q kk => hs i c' n' hi2 hk hle F A H0 H σ e v dv Q fun σ' ρ3 e3 g3 w3 h3 => kk σ' ρ3 e3 g3 w3 (DT.yes ?_)⟩
    rw [if_pos rfl]
    refine DE.mono h3 fun r ρ5 ⟨y, hy, c2, z, ez, pz, hk2, tn⟩ => ⟨y, hy, R c2, tn, ns ++ [z], c2, n' + k, rfl, by rw [ez]; simp, by rw [List.length_append, hl]; rfl, fun x hx => ?_, hk2, by rw [Nat.mul_succ]; omega⟩
    rcases List.mem_append.mp hx with h | h
    · exact hp x h
    · rw [List.mem_singleton.mp h]; exact ⟨i, hi2, pz⟩
  · rintro acc ρ2 ⟨ns, c', n', rfl, rfl, hl, hp, hk, hle⟩
    rw [intD_len] at hl hle
    exact q ns c' hl hp (hk.more hle)
end
end DD
set_option maxHeartbeats 1000000
/-! The law's own body, from its rack on, over data. -/
namespace DD
open PySem PySem.Spec PyProof.Rows L2 GL LamX
theorem rep_get {α : Type} {k i : Nat} {x s : α} (h : (List.replicate k x)[i]? = some s) : s = x := by
  rw [List.getElem?_replicate] at h
  split at h
  · cases h; rfl
  · cases h
theorem en_law {K : PySem.W.Frag} {cp : Cb} {H1 : Hp} {p d : Addr} {m k : Nat} {a : V} (r : Rk H1 p d m) (tb : Tabs cp.T H1) : ∃ c, RkD c m ∧ En K cp (fun _ => False) [] (fun _ => none) H1 (some a :: some (.ref p) :: List.replicate k none) (.no :: .ow false c :: List.replicate k .no) := by
  have np : d ≠ p := by obtain ⟨ns, t, l, h1, h2, h3, _⟩ := r.ex; exact h3
  have only : ∀ {c : D} {i : Nat} {x : Addr}, own (some a :: some (V.ref p) :: List.replicate k none) (SV.no :: SV.ow false c :: List.replicate k SV.no) i x → i = 1 ∧ x = p := fun {c i x} ⟨b, e, h1, h2⟩ => by
    rcases i with _ | _ | i
    · cases h1
    · cases h1; cases h2; exact ⟨rfl, rfl⟩
    · exact absurd (rep_get (by simpa using h1)) (by intro z; cases z)
  obtain ⟨c, hc, ho⟩ := rk_own (K := K) (cp := cp) (G := fun x => x = p) r np
  refine ⟨c, hc, ⟨by simp, fun _ f => f.elim, fun _ _ _ h => by simp at h, tb, fun y hy => by simp at hy, fun i j x h1 h2 => (only h1).1.trans (only h2).1.symm, fun i b e x h1 h2 => ?_, fun i s h => ?_⟩⟩
  · obtain ⟨rfl, rfl⟩ := only ⟨b, e, h1, h2⟩
    cases h1
    exact ⟨fun f => f, rfl⟩
  · rcases i with _ | _ | i
    · cases h; trivial
    · cases h
      obtain ⟨u, hu, hv⟩ := ho
      exact ⟨p, rfl, u, hu, hv.mv (Mv.sub fun x g => g.elim False.elim fun ⟨i, o⟩ => (only o).2)⟩
    · have := rep_get (show (List.replicate k SV.no)[i]? = some s by simpa using h)
      subst this; trivial
theorem law_go {K : PySem.W.Frag} {cp : Cb} {H1 : Hp} {p d : Addr} {m k : Nat} {a : V} {t : TS} {Q : VK} {σ : L2.St} (r : Rk H1 p d m) (tb : Tabs cp.T H1) (hσ : σ = some a :: some (.ref p) :: List.replicate k none) (q : ∀ H', Q (.bl true) H')
    (h : ∀ c, RkD c m → DS K cp XC.q t (.no :: .ow false c :: List.replicate k .no) (fun _ => False) (fun r _ => r = .d (.bl true)) (fun _ => False) fun _ => False) : t { nx := fun _ H' => Q .non H', rt := Q } σ H1 := by
  subst hσ
  obtain ⟨c, hc, e⟩ := en_law (K := K) (k := k) (a := a) r tb
  refine h c hc _ _ _ _ _ e (fun _ => xq) _ (fun _ _ _ _ _ z => z.elim) (fun v r σ' ρ' H' fi hr => ?_) (fun _ _ _ _ _ z => z.elim) fun _ _ _ _ _ z => z.elim
  subst hr
  rw [dv_bl fi.2]
  exact q H'
end DD
set_option maxHeartbeats 1000000
/-! !=; instances that are no list; tuples made of lists, deep. -/
namespace DD
open PySem PySem.Spec PyProof.Rows L2 GL
section
variable {K : PySem.W.Frag} {cp : Cb} {X : XC} {ψ : AV → Prop} {F : Addr → Prop} {A : List (Nat × Addr)} {G : Addr → Prop} {H0 H H' H1 : Hp} {σ : L2.St} {v : V} {ρ ρ1 : List SV} {Φ : AV → List SV → Prop} {N : List SV → Prop} {R : AV → List SV → Prop} {B C : List SV → Prop}
theorem r2_neS {x y : D} (hx : okS x) (hy : okS y) (q : ∀ c : Bool, (c = true ↔ x = y) → ψ (.d (.bl (!c)))) : R2d K cp (rNeX K) x y ψ := fun G H u w Q hu hw k =>
  .inr ⟨pyD x, pyD y, dt_dp hu hx.o, dt_dp hw hy.o, hx.shaped, hy.shaped, k _ (.d (.bl _)) H (rx_flat (.bl _)) (q _ (eqv_iff x y hx.o hy.o))⟩
theorem r2_neSame {x : D} (hx : okS x) (q : ψ (.d (.bl false))) : R2d K cp (rNeX K) x x ψ := r2_neS hx hx fun c h => by
  rw [h.mpr rfl]; exact q
theorem okS_ints (ns : List Int) : okS (.lst (ns.map .int)) := okS_lst (Z := 0) (by decide) fun n _ => ⟨rfl, by simp [pyD, PyData.depth]⟩
theorem okS_intsT (ns : List Int) : okS (.tup (ns.map .int)) := by
  obtain ⟨a, b⟩ := okS_all (Z := 1) (f := D.int) (by decide) (xs := ns) fun n _ => ⟨rfl, by simp [pyD, PyData.depth]⟩
  refine ⟨a, ?_⟩
  show PyData.depth (.tuple (pyA (ns.map .int))) ≤ 64
  simp only [PyData.depth]
  omega
theorem okS_int2 (i j : Int) : okS (.tup [.int i, .int j]) := okS_intsT [i, j]
theorem ob_ty {c : Nat} {ns : List Str} {ds : List D} (h : Dt K cp G H v (.ob c ns ds)) (t : InsC K (cp.c c)) : TyX K H v (.ref (cp.c c)) := by
  rcases h with h | ⟨a, rfl, u, h1, h⟩
  · cases h with
    | ob e _ _ _ => exact t.ty e
  · cases h with
    | ob _ _ => exact t.ty h1
theorem DE.isX2o {c d : String} {te : TE} (hte : DEo K cp X te ρ fun p ρ1 => ∃ i ns ds, p.at ρ1 = some (.ob i ns ds) ∧ InsC K (cp.c i) ∧ PySem.W.kitOne K (.ref (cp.c i)) (.type c) = some false ∧ PySem.W.kitOne K (.ref (cp.c i)) (.type d) = some false ∧ Φ (.d (.bl false)) ρ1) :
    DE K cp X (tCB (rIsiT K) (tCons te (tCons (tTup (tCons (tC (.ty c)) (tCons (tC (.ty d)) tNil))) tNil))) ρ Φ := fun F A H0 H σ e hx Q k =>
  hte.go e hx fun v p ρ1 H1 e1 m1 o1 ⟨i, ns, ds, hp, ti, k1, k2, φ⟩ => by
    refine ⟨(show 2 ≤ sizeLine by decide), fun t ht => ?_⟩
    have ex : Ex H1 (upd H1 t (.tup [.ty c, .ty d])) := Ex.nw ht
    refine ⟨v, t, [.ty c, .ty d], _, [.type c, .type d], false, rfl, upd_same, .cons (.ty c) (.cons (.ty d) .nil), ob_ty (OPv.dt (e1.ex ex) (o1.mv (Mv.ex ex)) hp) ti, ?_, k _ (.d (.bl _)) ρ1 _ ⟨e1.ex ex, m1.tr (Mv.ex ex), .bl _⟩ φ⟩
    exact kitAny_cons k1 (fun _ => kitAny_cons k2 (fun _ => kitAny_nil) fun e2 => by cases e2) fun e2 => by cases e2
/-- isinstance(x, C), C an own class -/
theorem DE.isO {i j : Nat} {b : Bool} {te : TE} (hk : PySem.W.kitOne K (.ref (cp.c i)) (.ref (cp.c j)) = some b) (hte : DEo K cp X te ρ fun p ρ1 => ∃ ns ds, p.at ρ1 = some (.ob i ns ds) ∧ InsC K (cp.c i) ∧ Φ (.d (.bl b)) ρ1) :
    DE K cp X (tCB (rIsi K) (tCons te (tCons (tC (.ref (cp.c j))) tNil))) ρ Φ := fun F A H0 H σ e hx Q k =>
  hte.go e hx fun v p ρ1 H1 e1 m1 o1 ⟨ns, ds, hp, ti, φ⟩ => by
    exact ⟨v, .ref (cp.c j), _, _, b, rfl, .own _, ob_ty (o1.dt e1 hp) ti, hk, k _ (.d (.bl _)) ρ1 H1 ⟨e1, m1, .bl _⟩ φ⟩
/-- what a list or tuple, n deep, is when it is made fixed -/
def fixN : Nat → D → D
  | 0, d => d
  | n + 1, d => match seqD d with
    | some xs => .tup (xs.map (fixN n))
    | none => d
def okF : Nat → D → Prop
  | 0, d => seqD d = none ∧ Nob d
  | n + 1, d => match seqD d with
    | some xs => xs.length ≤ 900000 ∧ ∀ x ∈ xs, okF n x
    | none => Nob d
def cFix (n : Nat) : Ct := fun ss Φ => ∃ d, ss = [.sh d] ∧ okF n d ∧ ∀ ss', Φ (.d (fixN n d)) ss'
theorem okF_ints {d : D} {ns : List Int} (h : seqD d = some (ns.map .int)) (hl : ns.length ≤ 900000) : okF 1 d := by
  unfold okF
  rw [h]
  refine ⟨by rw [List.length_map]; exact hl, fun x hx => ?_⟩
  obtain ⟨n, _, rfl⟩ := List.mem_map.mp hx
  exact ⟨rfl, trivial⟩
theorem fixN_ints {d : D} {ns : List Int} (h : seqD d = some (ns.map .int)) : fixN 1 d = .tup (ns.map .int) := by
  unfold fixN
  rw [h]
  show D.tup ((ns.map D.int).map (fixN 0)) = _
  congr 1
  rw [List.map_map]; rfl
end
end DD
namespace DD
open PySem PySem.Spec PyProof.Rows L2 GL
section
variable {K : PySem.W.Frag} {cp : Cb} {X : XC} {ρ : List SV} {N : List SV → Prop} {R : AV → List SV → Prop} {B C : List SV → Prop}
/-- what follows, hidden behind a name for a while -/
theorem DS.seqH {t1 t2 : TS} (h : ∀ t, t2 = t → DS K cp X t1 ρ (fun ρ1 => DS K cp X t ρ1 N R B C) R B C) : DS K cp X (tSeq t1 t2) ρ N R B C := DS.seq (h t2 rfl)
end
end DD
set_option maxHeartbeats 1000000
/-! == and != by an own __eq__; is True; a tuple so many times. -/
namespace DD
open PySem PySem.Spec PyProof.Rows L2 GL
section
variable {K : PySem.W.Frag} {cp : Cb} {X : XC} {ψ : AV → Prop} {F : Addr → Prop} {A : List (Nat × Addr)} {G : Addr → Prop} {H0 H H' H1 : Hp} {σ : L2.St} {v : V} {ρ ρ1 : List SV} {Φ : AV → List SV → Prop}
theorem DE.opO {c : Nat} {neg : Bool} {Cc : Ct} {E : XK} {ta tb : TE} (h : DEs K cp X ta ρ fun x ρ1 => DEs K cp X tb ρ1 fun y ρ2 => ∃ ns ds ns' ds', x = .ob c ns ds ∧ y = .ob c ns' ds' ∧ Cc [.sh x, .sh y] fun r _ => ∃ b, r = .d (.bl b) ∧ Φ (.d (.bl (b != neg))) ρ2) :
    DE K cp X (tOp (rOwn (cp.c c) (spC K cp 2 Cc) E neg) ta tb) ρ Φ := fun F A H0 H σ e hx Q k =>
  h.go e hx fun v x ρ1 H1 e1 m1 dv q => DEs.go (show DEs K cp X tb ρ1 _ from q) e1 hx fun w y ρ2 H2 e2 m2 dw ⟨ns, ds, ns', ds', ex, ey, hc⟩ => by
    have dv2 := Dv.mv m2 _ _ dv
    have o : Paired (OPv K cp F σ ρ2 H2) [v, w] [.d x, .d y] := .cons dv2 (.cons dw .nil)
    subst ex ey
    have dv3 := dv2
    have dw3 := dw
    cases dv3 with
    | ob g1 _ _ _ =>
      cases dw3 with
      | ob g2 _ _ _ =>
        refine ⟨_, _, _, _, _, _, rfl, rfl, g1, g2, ?_⟩
        refine call_ct (C := fun ss Φ _ => Cc ss Φ) (Φ := fun r ρ' => ∃ b, r = .d (.bl b) ∧ Φ (.d (.bl (b != neg))) ρ') (Ψ := fun _ _ _ _ => False) e2 o rfl rfl (by simp [slots]) hc (fun u r ρ' H' rs φ => ?_) fun _ _ _ _ _ _ _ _ _ z => z.elim
        obtain ⟨b, rfl, φ⟩ := φ
        exact ⟨b, by cases rs.2.2; rfl, k _ (.d (.bl _)) ρ' H' ⟨rs.1, (m1.tr m2).tr rs.2.1, .bl _⟩ φ⟩
theorem r2_isBl {a b : Bool} (q : ψ (.d (.bl (decide (a = b))))) : R2d K cp rIsB (.bl a) (.bl b) ψ := fun G H u w Q hu hw k => by
  exact ⟨a, b, dt_bl hu, dt_bl hw, k _ (.d (.bl _)) H (rx_flat (.bl _)) q⟩
/-- tuple * int -/
theorem r2_repT {xs : List D} {n : Int} (h0 : 2 ≤ n) (h1 : n ≤ 1000) (hx : xs ≠ []) (hl : xs.length ≤ 1000) (q : ψ (.d (.tup (List.replicate n.toNat xs).flatten))) : R2t K cp (rRepT K) (.tup xs) (.int n) ψ := fun G H a b Q tr ha hb k => by
  obtain ⟨p, vs, rfl, r, dv⟩ := dt_tup ha
  have dr : ∀ m : Nat, DvA K cp G H (List.replicate m vs).flatten (List.replicate m xs).flatten := by
    intro m
    induction m with
    | zero => exact .nil
    | succ m ih => rw [List.replicate_succ, List.replicate_succ, List.flatten_cons, List.flatten_cons]; exact dv.app ih
  refine ⟨p, n, vs, rfl, dt_int hb, r, fun e => hx (by subst e; cases dv; rfl), h0, h1, by rw [dv.len]; exact hl, fun p hp => ?_⟩
  exact k _ (.d (.tup (List.replicate n.toNat xs).flatten)) _ (rx_tup hp (tr.no hp) (dr n.toNat)) q
end
end DD
set_option maxHeartbeats 1000000
/-! Texts: of ints, joined, of parts; str by an own __str__; a lambda asked with a word beside it. -/
namespace DD
open PySem PySem.Spec PyProof.Rows L2 GL LamX
section
variable {K : PySem.W.Frag} {cp : Cb} {X : XC} {ψ : AV → Prop} {F : Addr → Prop} {A : List (Nat × Addr)} {G : Addr → Prop} {H0 H H' H1 : Hp} {σ : L2.St} {v : V} {ρ ρ1 : List SV} {Φ : AV → List SV → Prop}
theorem rl_strI {i : Int} (h : i.natAbs.log2 < 1920) (q : ψ (.d (.str (toString i)))) : RLd K cp (fun xs H Q => ∃ i : Int, xs = [V.int i] ∧ i.natAbs.log2 < 1920 ∧ Q (V.str (toString i)) H) [.int i] ψ := fun G H us Q h2 k => by
  obtain ⟨u, rfl, hu⟩ := dta1 h2
  exact ⟨i, by rw [dt_int hu], h, k _ (.d (.str (toString i))) H (rx_flat (.str _)) q⟩
theorem strs_of2 {G : Addr → Prop} {H : Hp} : ∀ {vs : List V} {ys : List Str}, DvA K cp G H vs (ys.map .str) → vs = ys.map V.str
  | _, [], .nil => rfl
  | _, _ :: _, .cons h r => by rw [dv_str h, strs_of2 r]; rfl
theorem DE.join {to te : TE} (h : DEs K cp X to ρ fun d ρ1 => ∃ a, d = .str a ∧ DEs K cp X te ρ1 fun e ρ2 => ∃ ys : List Str, seqD e = some (ys.map .str) ∧ (ys.map (·.length)).sum + ys.length * a.length ≤ 16777216 ∧ Φ (.d (.str (Txt.join a ys))) ρ2) :
    DE K cp X (tM1 (fun x xs H Q => ∃ a p, ∃ ys : List Str, x = .str a ∧ xs = [.ref p] ∧ (SqL K H p (ys.map V.str) ∨ SqT K H p (ys.map V.str)) ∧ (ys.map (·.length)).sum + ys.length * a.length ≤ 16777216 ∧ Q (.str (Txt.join a ys)) H) to te) ρ Φ := fun F A H0 H σ e hx Q k =>
  h.go e hx fun v x ρ1 H1 e1 m1 dv ⟨a, hx', q⟩ => by
    subst hx'
    have := dv_str dv
    subst this
    refine ⟨⟨a, rfl⟩, DEs.go (show DEs K cp X te ρ1 _ from q) e1 hx fun w y ρ2 H2 e2 m2 dw ⟨ys, hs, hl, φ⟩ => ?_⟩
    obtain ⟨p, vs, rfl, hq, dva⟩ := dt_seq (.inl dw) hs
    rw [strs_of2 dva] at hq
    exact ⟨a, p, ys, rfl, rfl, hq, hl, k _ (.d (.str _)) ρ2 H2 ⟨e2, m1.tr m2, .str _⟩ φ⟩
/-- the parts of an f-string -/
def DJ (K : PySem.W.Frag) (cp : Cb) (X : XC) (ts : List TE) (acc : Str) (ρ : List SV) (Ψ : Str → List SV → Prop) : Prop :=
  ∀ F A H0 H σ, En K cp F A H0 H σ ρ → XOk K cp F A H0 X σ → ∀ Q : Str → Hp → Prop, (∀ out ρ' H', En K cp F A H0 H' σ ρ' → Mv (Gv F σ ρ) H (Gv F σ ρ') H' → Ψ out ρ' → Q out H') → tJs ts acc σ H Q
theorem DJ.nil {acc : Str} {Ψ : Str → List SV → Prop} (q : Ψ acc ρ) : DJ K cp X [] acc ρ Ψ := fun F A H0 H σ e hx Q k => k acc ρ H e (Mv.ex (Ex.rfl' H)) q
theorem DJ.cons {t : TE} {ts : List TE} {acc : Str} {Ψ : Str → List SV → Prop} (h : DEs K cp X t ρ fun d ρ1 => ∃ y, d = .str y ∧ (acc ++ y).length ≤ sizeLine ∧ DJ K cp X ts (acc ++ y) ρ1 Ψ) : DJ K cp X (t :: ts) acc ρ Ψ := fun F A H0 H σ e hx Q k =>
  h.go e hx fun v x ρ1 H1 e1 m1 dv ⟨y, hx', hl, q⟩ => by
    subst hx'
    exact ⟨y, dv_str dv, hl, q F A H0 H1 σ e1 hx Q fun out ρ' H' e2 m2 φ => k out ρ' H' e2 (m1.tr m2) φ⟩
theorem DE.joined {ts : List TE} (h : DJ K cp X ts Str.empty ρ fun out ρ1 => Φ (.d (.str out)) ρ1) : DE K cp X (fun σ H Q => tJs ts Str.empty σ H fun out H1 => Q (.str out) H1) ρ Φ := fun F A H0 H σ e hx Q k =>
  h F A H0 H σ e hx _ fun out ρ' H' e1 m1 φ => k _ (.d (.str out)) ρ' H' ⟨e1, m1, .str _⟩ φ
theorem DE.fmtI {te : TE} (h : DEs K cp X te ρ fun d ρ1 => ∃ i : Int, d = .int i ∧ i.natAbs.log2 < 1920 ∧ Φ (.d (.str (toString i))) ρ1) : DE K cp X (tFmt te) ρ Φ := fun F A H0 H σ e hx Q k =>
  h.go e hx fun v x ρ1 H1 e1 m1 dv ⟨i, hx', hl, φ⟩ => by
    subst hx'
    exact .inr ⟨i, dv_int dv, hl, k _ (.d (.str _)) ρ1 H1 ⟨e1, m1, .str _⟩ φ⟩
theorem DE.fmtS {te : TE} (h : DEs K cp X te ρ fun d ρ1 => ∃ y : Str, d = .str y ∧ y.length ≤ sizeLine ∧ Φ (.d (.str y)) ρ1) : DE K cp X (tFmt te) ρ Φ := fun F A H0 H σ e hx Q k =>
  h.go e hx fun v x ρ1 H1 e1 m1 dv ⟨y, hx', hl, φ⟩ => by
    subst hx'
    exact .inl ⟨y, dv_str dv, hl, k _ (.d (.str _)) ρ1 H1 ⟨e1, m1, .str _⟩ φ⟩
/-- str(x) by the own __str__ -/
theorem DE.strO {c : Nat} {Cc : Ct} {E : XK} {ta : TE} (h : DEs K cp X ta ρ fun x ρ1 => ∃ ns ds, x = .ob c ns ds ∧ Cc [.sh x] fun r _ => ∃ z, r = .d (.str z) ∧ Φ (.d (.str z)) ρ1) :
    DE K cp X (tCB (rStrO (cp.c c) (spC K cp 1 Cc) E) (tCons ta tNil)) ρ Φ := fun F A H0 H σ e hx Q k =>
  h.go e hx fun v x ρ1 H1 e1 m1 dv ⟨ns, ds, ex, hc⟩ => by
    have o : Paired (OPv K cp F σ ρ1 H1) [v] [.d x] := .cons dv .nil
    subst ex
    have dv3 := dv
    cases dv3 with
    | ob g1 _ _ _ =>
      refine ⟨_, _, _, rfl, g1, ?_⟩
      refine call_ct (C := fun ss Φ _ => Cc ss Φ) (Φ := fun r ρ' => ∃ z, r = .d (.str z) ∧ Φ (.d (.str z)) ρ') (Ψ := fun _ _ _ _ => False) e1 o rfl rfl (by simp [slots]) hc (fun u r ρ' H' rs φ => ?_) fun _ _ _ _ _ _ _ _ _ z => z.elim
      obtain ⟨z, rfl, φ⟩ := φ
      exact ⟨z, dv_str rs.2.2, k _ (.d (.str z)) ρ' H' ⟨rs.1, m1.tr rs.2.1, rs.2.2⟩ φ⟩
/-- what the def that asks hands back, a word beside: nv, or what res tells of the error -/
def TTs (K : PySem.W.Frag) (cp : Cb) (res : Str → Nat → List Str → List D → Option D) (nv : V) : (XK → Hp → VK → Prop) → List V → Hp → VK → Prop := fun tl vs H Q => ∃ y, vs = [.str y] ∧ ∀ (E : XK) (Qn : VK), (∀ v G, (∀ G', Ex G G' → Q nv G') → Qn v G) →
  (∀ (i : Nat) (es : List D) (fs : List (Str × V)) (dd : Addr) (G : Hp) (d : D) (F : Addr → Prop), G dd = some (exd dd fs) → Trk F G → DvA K cp F G (fs.map (·.2)) es → res y i (fs.map (·.1)) es = some d → (∀ v G', Ex G G' → Dv K cp F G' v d → Q v G') → E (.ref (cp.x i)) (some dd) G) → tl E H Qn
theorem DE.lam1 {nd : D} {nv : V} {y : Str} {T : List (Addr × Str)} {n : Nat} {res : Str → Nat → List Str → List D → Option D} {t : XK → TE} {l k b : Bool} {ρL : List SV} (hT : cp.T = T) (hn : n = 1) (hnv : Fla nv nd) (hk0 : ρ.all (kindOk l k b) = true) (hL : ρ.map lend = ρL)
    (h : ∀ X' : XC, X'.P = (fun i ns es _ => ∃ d, res y i ns es = some d ∧ nolK l k b d = true ∧ Φ (.d d) ρ) → DE K cp X' (t X'.E) ρL fun _ _ => Φ (.d nd) ρ) : DE K cp X (tLamG T n (TTs K cp res nv) t (tCons (tC (.str y)) tNil)) ρ Φ := fun F A H0 H σ e hx Q kk => by
  subst hT hn hL
  refine ⟨e.tb, fun H1 x1 t1 => ⟨Ex.rfl' _, rfl, y, rfl, fun E Qn hq hE => ?_⟩⟩
  obtain ⟨e1, m1⟩ := e.exK x1 t1
  let F' : Addr → Prop := fun a => F a ∧ ¬ ∃ i, DD.own σ ρ i a
  have noO : ∀ i a, ¬ DD.own σ (ρ.map lend) i a := fun i a ⟨b0, c0, q1, q2⟩ => by
    rw [List.getElem?_map] at q1
    cases z : ρ[i]? with
    | none => rw [z] at q1; cases q1
    | some s => rw [z] at q1; cases s <;> cases q1
  have gF : ∀ a, Gv F' σ (ρ.map lend) a → F' a := fun a g => g.elim id fun ⟨i, o⟩ => (noO i a o).elim
  have gS : ∀ a, F' a → Gv F σ ρ a := fun a g => .inl g.1
  have eL : En K cp F' [] H1 H1 σ (ρ.map lend) := by
    refine ⟨by rw [List.length_map]; exact e1.len, fun a f => e1.tr a f.1, fun a o _ h => .of h, e1.tb, fun y hy => by simp at hy, fun i j a o1 _ => (noO i a o1).elim, fun i b0 c0 a q1 q2 => (noO i a ⟨b0, c0, q1, q2⟩).elim, fun i s hs => ?_⟩
    rw [List.getElem?_map] at hs
    cases z : ρ[i]? with
    | none => rw [z] at hs; cases hs
    | some s0 =>
      rw [z] at hs
      have q := e1.sl i s0 z
      cases s0 with
      | no => cases hs; trivial
      | sh d => cases hs; obtain ⟨v, q1, q2⟩ := q; exact ⟨v, q1, Dv.mv (Mv.sub fun a g => gS a (gF a g)) _ _ q2⟩
      | ow b0 c =>
        cases hs
        obtain ⟨a, q1, u, q2, q3⟩ := q
        exact ⟨_, q1, OwOk.sh ⟨u, q2, q3.mv (Mv.sub fun a g => gS a (gF a g))⟩ fun g => (gF a g).2 ⟨i, b0, c, z, q1⟩⟩
  have keep : ∀ {H2 : Hp}, (∀ a o, H1 a = some o → Sm o H2 a) → Tabs cp.T H2 → En K cp F A H0 H2 σ ρ ∧ Mv (Gv F σ ρ) H1 (Gv F σ ρ) H2 := fun {H2} sm tb => by
    have m : Mv (Gv F σ ρ) H1 (Gv F σ ρ) H2 := ⟨fun a o n h => ⟨n, sm a o h⟩⟩
    refine en_upd e1 Alike.rfl' (fun a o _ h => sm a o h) tb fun i b ds a h1 h2 => ?_
    obtain ⟨a', q1, u, q2, q3⟩ := e1.sl i _ h1
    rw [h2] at q1; cases q1
    exact ⟨u, (sm a u q2).to q3.nt, q3.mv m⟩
  refine h ⟨E, _, fun _ => none⟩ rfl F' [] H1 H1 σ eL ⟨fun _ _ => rfl, fun i es fs dd ρ2 H2 e2 h1 h2 ⟨d, hd, hnl, φ⟩ => ?_⟩ Qn fun v r ρ1 H2 rs φ => ?_
  · obtain ⟨e3, m3⟩ := keep (fun a o h => e2.fr a o (fun x hx => by simp at hx) h) e2.tb
    refine hE i es fs dd H2 d F' h1 (fun a f => e3.tr a f.1) (DvA.mv (Mv.sub fun a g => .inl g) _ _ h2) hd fun v G' ex dv => ?_
    have e4 := e3.ex ex
    refine kk v (.d d) ρ G' ⟨e4, m1.tr (m3.tr (Mv.ex ex)), Dv.nol (fun a g => ?_) _ _ hnl dv⟩ φ
    by_cases z : ∃ i, DD.own σ ρ i a
    · obtain ⟨i, b0, c, z1, z2⟩ := z
      obtain ⟨a', q1, u, q2, q3⟩ := e4.sl i _ z1
      rw [z2] at q1; cases q1
      exact .inr ⟨u, q2, kind_hk (c0 := b0) q3 (List.all_eq_true.mp hk0 _ (List.mem_of_getElem? z1))⟩
    · exact .inl ⟨g.elim id fun w => (z w).elim, z⟩
  · have fin : (∀ a o, H1 a = some o → Sm o H2 a) ∧ Tabs cp.T H2 := by
      cases r with
      | d d => exact ⟨fun a o h => rs.1.fr a o (fun x hx => by simp at hx) h, rs.1.tb⟩
      | n c => obtain ⟨p, _, _, _, en, _⟩ := rs; exact ⟨fun a o h => en.fr a o (fun x hx => by simp at hx) h, en.tb⟩
      | o i => exact ⟨fun a o h => rs.1.fr a o (fun x hx => by simp at hx) h, rs.1.tb⟩
    obtain ⟨e3, m3⟩ := keep fin.1 fin.2
    exact hq v H2 fun G' ex => kk nv (.d nd) ρ G' ⟨e3.ex ex, m1.tr (m3.tr (Mv.ex ex)), hnv.dv⟩ φ
end
end DD
set_option maxHeartbeats 1000000
/-! Loops and comprehensions over nothing. -/
namespace DD
open PySem PySem.Spec PyProof.Rows L2 GL LamX
section
variable {K : PySem.W.Frag} {cp : Cb} {X : XC} {ρ : List SV} {Φ : AV → List SV → Prop} {N : List SV → Prop} {R : AV → List SV → Prop} {B C : List SV → Prop}
theorem DE.lcE {wi : TI} {g : TG} {tt : TT} {te : TE} {vs : List Nat} (hi : DI K cp X wi ρ fun ds ρ1 => ρ1 = ρ ∧ ds = []) (hn : nown ρ vs) (q : Φ (.n (.lst [])) ρ) : DE K cp X (tLc wi g tt te vs) ρ Φ :=
  DE.lcP (ts := []) ([] : List D) id (fun _ => false) id (by simp) hi hn (fun x hx => by simp at hx) rfl q
theorem DE.lc2E {wi wi1 : TI} {g g1 : TG} {tt tt1 : TT} {te : TE} {vs vs1 : List Nat} (hi : DI K cp X wi ρ fun ds ρ1 => ρ1 = ρ ∧ ds = []) (hn : nown ρ vs) (q : Φ (.n (.lst [])) ρ) : DE K cp X (tLc2 wi g tt wi1 g1 tt1 te vs vs1) ρ Φ :=
  DE.lc2P (ts := []) (ts1 := []) ([] : List D) id (fun _ => false) (fun _ => ([] : List D)) id (fun _ _ => false) (fun _ d => d) (fun n => by simp) hi hn (fun x hx => by simp at hx) rfl rfl q
theorem DE.dcE {wi : TI} {g : TG} {tt : TT} {tk tv : TE} {vs : List Nat} (hi : DI K cp X wi ρ fun ds ρ1 => ρ1 = ρ ∧ ds = []) (hn : nown ρ vs) (q : Φ (.n (.dk [] [])) ρ) : DE K cp X (tDc wi g tt tk tv vs) ρ Φ :=
  DE.dcP (ts := []) ([] : List D) id (fun _ => false) (fun _ => .inl 0) id (by simp) (by simp) hi hn (fun x hx => by simp at hx) rfl q
theorem DS.forE {wi : TI} {g : TG} {tb : TS} (hi : DI K cp X wi ρ fun ds ρ1 => ds = [] ∧ N ρ1) : DS K cp X (tFor wi g tb) ρ N R B C :=
  DS.for fun F A H0 H σ e hx Q k => hi F A H0 H σ e hx Q fun J ds ρ1 H1 e1 m1 wk ⟨ed, n⟩ => k J ds ρ1 H1 e1 m1 wk ⟨fun _ ρ => ρ = ρ1, rfl, fun i d ρ2 h _ => (by subst ed; simp at h), fun ρ2 h => (by subst h; exact n)⟩
theorem rl_strS {ψ : AV → Prop} {a : Str} (q : ψ (.d (.str a))) : RLd K cp (fun xs H Q => ∃ a : Str, xs = [V.str a] ∧ Q (V.str a) H) [.str a] ψ := fun G H us Q h2 k => by
  obtain ⟨u, rfl, hu⟩ := dta1 h2
  exact ⟨a, by rw [dt_str hu], k _ (.d (.str a)) H (rx_flat (.str _)) q⟩
end
end DD
namespace Mine
open PySem PySem.Spec PyProof.Rows L2 GL LamX DD
def topS (i : Nat) : Stmt := PySem.Challenge.pw_priceblind_k10_ranks_of_sizes.main.body.getD i (.Pass ⟨0, 0, 0, 0⟩)
def clsBody : Stmt → List Stmt
  | .ClassDef _ _ _ b _ _ _ _ _ _ _ => b
  | _ => []
abbrev s_is_integer : Stmt := topS 4
abbrev N_is_integer : List Str := ["value"]
abbrev P_is_integer : List Str := ["value"]
theorem sc_is_integer : FnScope N_is_integer P_is_integer (defScope s_is_integer) := ⟨rfl, rfl, rfl, by decide +kernel, rfl, by decide +kernel, by decide +kernel⟩
abbrev s_is_within : Stmt := topS 5
abbrev N_is_within : List Str := ["value", "least", "most"]
abbrev P_is_within : List Str := ["value", "least", "most"]
theorem sc_is_within : FnScope N_is_within P_is_within (defScope s_is_within) := ⟨rfl, rfl, rfl, by decide +kernel, rfl, by decide +kernel, by decide +kernel⟩
abbrev s_is_q : Stmt := topS 6
abbrev N_is_q : List Str := ["value"]
abbrev P_is_q : List Str := ["value"]
theorem sc_is_q : FnScope N_is_q P_is_q (defScope s_is_q) := ⟨rfl, rfl, rfl, by decide +kernel, rfl, by decide +kernel, by decide +kernel⟩
abbrev s_is_size : Stmt := topS 7
abbrev N_is_size : List Str := ["value"]
abbrev P_is_size : List Str := ["value"]
theorem sc_is_size : FnScope N_is_size P_is_size (defScope s_is_size) := ⟨rfl, rfl, rfl, by decide +kernel, rfl, by decide +kernel, by decide +kernel⟩
abbrev s_rank_by : Stmt := topS 16
abbrev N_rank_by : List Str := ["size"]
abbrev P_rank_by : List Str := ["size"]
theorem sc_rank_by : FnScope N_rank_by P_rank_by (defScope s_rank_by) := ⟨rfl, rfl, rfl, by decide +kernel, rfl, by decide +kernel, by decide +kernel⟩
abbrev s_things_of : Stmt := topS 20
abbrev N_things_of : List Str := ["regions", "_", "payload", "room", "thing"]
abbrev P_things_of : List Str := ["regions"]
theorem sc_things_of : FnScope N_things_of P_things_of (defScope s_things_of) := ⟨rfl, rfl, rfl, by decide +kernel, rfl, by decide +kernel, by decide +kernel⟩
abbrev s_files_of : Stmt := topS 21
abbrev N_files_of : List Str := ["regions", "word", "serial", "size"]
abbrev P_files_of : List Str := ["regions"]
theorem sc_files_of : FnScope N_files_of P_files_of (defScope s_files_of) := ⟨rfl, rfl, rfl, by decide +kernel, rfl, by decide +kernel, by decide +kernel⟩
abbrev s_placed : Stmt := topS 23
abbrev N_placed : List Str := ["q", "regions", "rows", "at", "rank", "payload", "room", "behind"]
abbrev P_placed : List Str := ["q", "regions"]
theorem sc_placed : FnScope N_placed P_placed (defScope s_placed) := ⟨rfl, rfl, rfl, by decide +kernel, rfl, by decide +kernel, by decide +kernel⟩
abbrev s_rank_taking : Stmt := topS 24
abbrev N_rank_taking : List Str := ["q", "regions", "size", "region"]
abbrev P_rank_taking : List Str := ["q", "regions", "size"]
theorem sc_rank_taking : FnScope N_rank_taking P_rank_taking (defScope s_rank_taking) := ⟨rfl, rfl, rfl, by decide +kernel, rfl, by decide +kernel, by decide +kernel⟩
abbrev s_ascend : Stmt := topS 25
abbrev N_ascend : List Str := ["values", "one", "other"]
abbrev P_ascend : List Str := ["values"]
theorem sc_ascend : FnScope N_ascend P_ascend (defScope s_ascend) := ⟨rfl, rfl, rfl, by decide +kernel, rfl, by decide +kernel, by decide +kernel⟩
abbrev s_are_let : Stmt := topS 26
abbrev N_are_let : List Str := ["q", "puts", "value", "checks"]
abbrev P_are_let : List Str := ["q", "puts", "value"]
theorem sc_are_let : FnScope N_are_let P_are_let (defScope s_are_let) := ⟨rfl, rfl, rfl, by decide +kernel, rfl, by decide +kernel, by decide +kernel⟩
abbrev s_Uare_regions : Stmt := topS 30
abbrev N_Uare_regions : List Str := ["puts", "value", "region"]
abbrev P_Uare_regions : List Str := ["puts", "value"]
theorem sc_Uare_regions : FnScope N_Uare_regions P_Uare_regions (defScope s_Uare_regions) := ⟨rfl, rfl, rfl, by decide +kernel, rfl, by decide +kernel, by decide +kernel⟩
abbrev s_Uranks_fit : Stmt := topS 31
abbrev N_Uranks_fit : List Str := ["regions", "rank", "payload", "room", "_", "size", "region"]
abbrev P_Uranks_fit : List Str := ["regions"]
theorem sc_Uranks_fit : FnScope N_Uranks_fit P_Uranks_fit (defScope s_Uranks_fit) := ⟨rfl, rfl, rfl, by decide +kernel, rfl, by decide +kernel, by decide +kernel⟩
abbrev s_Userials_fit : Stmt := topS 33
abbrev N_Userials_fit : List Str := ["regions", "things", "holes", "word", "serial", "size", "shades", "serials", "_", "payload"]
abbrev P_Userials_fit : List Str := ["regions"]
theorem sc_Userials_fit : FnScope N_Userials_fit P_Userials_fit (defScope s_Userials_fit) := ⟨rfl, rfl, rfl, by decide +kernel, rfl, by decide +kernel, by decide +kernel⟩
abbrev s_Urooms_hold : Stmt := topS 34
abbrev N_Urooms_hold : List Str := ["q", "regions", "region"]
abbrev P_Urooms_hold : List Str := ["q", "regions"]
theorem sc_Urooms_hold : FnScope N_Urooms_hold P_Urooms_hold (defScope s_Urooms_hold) := ⟨rfl, rfl, rfl, by decide +kernel, rfl, by decide +kernel, by decide +kernel⟩
abbrev s_Urooms_are_later : Stmt := topS 35
abbrev N_Urooms_are_later : List Str := ["regions", "last", "rank", "payload", "_", "word", "serial", "size", "room", "thing"]
abbrev P_Urooms_are_later : List Str := ["regions"]
theorem sc_Urooms_are_later : FnScope N_Urooms_are_later P_Urooms_are_later (defScope s_Urooms_are_later) := ⟨rfl, rfl, rfl, by decide +kernel, rfl, by decide +kernel, by decide +kernel⟩
abbrev s_Uhave_passed : Stmt := topS 36
abbrev N_Uhave_passed : List Str := ["q", "regions", "free", "region", "rank", "_", "room", "size", "ahead", "least"]
abbrev P_Uhave_passed : List Str := ["q", "regions"]
theorem sc_Uhave_passed : FnScope N_Uhave_passed P_Uhave_passed (defScope s_Uhave_passed) := ⟨rfl, rfl, rfl, by decide +kernel, rfl, by decide +kernel, by decide +kernel⟩
abbrev s_text_of : Stmt := topS 38
abbrev N_text_of : List Str := ["q", "puts", "regions", "items", "rank", "payload", "room"]
abbrev P_text_of : List Str := ["q", "puts", "regions"]
theorem sc_text_of : FnScope N_text_of P_text_of (defScope s_text_of) := ⟨rfl, rfl, rfl, by decide +kernel, rfl, by decide +kernel, by decide +kernel⟩
abbrev s_fixed : Stmt := topS 41
abbrev N_fixed : List Str := ["value", "item"]
abbrev P_fixed : List Str := ["value"]
theorem sc_fixed : FnScope N_fixed P_fixed (defScope s_fixed) := ⟨rfl, rfl, rfl, by decide +kernel, rfl, by decide +kernel, by decide +kernel⟩
abbrev s_rank_of : Stmt := topS 43
abbrev N_rank_of : List Str := ["size"]
abbrev P_rank_of : List Str := ["size"]
theorem sc_rank_of : FnScope N_rank_of P_rank_of (defScope s_rank_of) := ⟨rfl, rfl, rfl, by decide +kernel, rfl, by decide +kernel, by decide +kernel⟩
abbrev s_check_q : Stmt := topS 44
abbrev N_check_q : List Str := ["q"]
abbrev P_check_q : List Str := ["q"]
theorem sc_check_q : FnScope N_check_q P_check_q (defScope s_check_q) := ⟨rfl, rfl, rfl, by decide +kernel, rfl, by decide +kernel, by decide +kernel⟩
abbrev s_check_size : Stmt := topS 45
abbrev N_check_size : List Str := ["size"]
abbrev P_check_size : List Str := ["size"]
theorem sc_check_size : FnScope N_check_size P_check_size (defScope s_check_size) := ⟨rfl, rfl, rfl, by decide +kernel, rfl, by decide +kernel, by decide +kernel⟩
abbrev s_Layout_init : Stmt := (clsBody (topS 46)).getD 0 (.Pass ⟨0, 0, 0, 0⟩)
abbrev N_Layout_init : List Str := ["self", "q", "puts", "regions", "kept"]
abbrev P_Layout_init : List Str := ["self", "q", "puts", "regions"]
theorem sc_Layout_init : FnScope N_Layout_init P_Layout_init (defScope s_Layout_init) := ⟨rfl, rfl, rfl, by decide +kernel, rfl, by decide +kernel, by decide +kernel⟩
abbrev s_Layout_eq : Stmt := (clsBody (topS 46)).getD 1 (.Pass ⟨0, 0, 0, 0⟩)
abbrev N_Layout_eq : List Str := ["self", "other"]
abbrev P_Layout_eq : List Str := ["self", "other"]
theorem sc_Layout_eq : FnScope N_Layout_eq P_Layout_eq (defScope s_Layout_eq) := ⟨rfl, rfl, rfl, by decide +kernel, rfl, by decide +kernel, by decide +kernel⟩
abbrev s_Layout_str : Stmt := (clsBody (topS 46)).getD 2 (.Pass ⟨0, 0, 0, 0⟩)
abbrev N_Layout_str : List Str := ["self"]
abbrev P_Layout_str : List Str := ["self"]
theorem sc_Layout_str : FnScope N_Layout_str P_Layout_str (defScope s_Layout_str) := ⟨rfl, rfl, rfl, by decide +kernel, rfl, by decide +kernel, by decide +kernel⟩
abbrev s_empty : Stmt := topS 47
abbrev N_empty : List Str := ["q"]
abbrev P_empty : List Str := ["q"]
theorem sc_empty : FnScope N_empty P_empty (defScope s_empty) := ⟨rfl, rfl, rfl, by decide +kernel, rfl, by decide +kernel, by decide +kernel⟩
abbrev s_check_layout : Stmt := topS 48
abbrev N_check_layout : List Str := ["layout"]
abbrev P_check_layout : List Str := ["layout"]
theorem sc_check_layout : FnScope N_check_layout P_check_layout (defScope s_check_layout) := ⟨rfl, rfl, rfl, by decide +kernel, rfl, by decide +kernel, by decide +kernel⟩
abbrev s_places : Stmt := topS 49
abbrev N_places : List Str := ["layout", "rows", "_", "payload", "room", "row", "word", "serial", "place", "size"]
abbrev P_places : List Str := ["layout"]
theorem sc_places : FnScope N_places P_places (defScope s_places) := ⟨rfl, rfl, rfl, by decide +kernel, rfl, by decide +kernel, by decide +kernel⟩
abbrev s_length : Stmt := topS 50
abbrev N_length : List Str := ["layout", "_", "payload"]
abbrev P_length : List Str := ["layout"]
theorem sc_length : FnScope N_length P_length (defScope s_length) := ⟨rfl, rfl, rfl, by decide +kernel, rfl, by decide +kernel, by decide +kernel⟩
abbrev s_live : Stmt := topS 51
abbrev N_live : List Str := ["layout", "_", "size"]
abbrev P_live : List Str := ["layout"]
theorem sc_live : FnScope N_live P_live (defScope s_live) := ⟨rfl, rfl, rfl, by decide +kernel, rfl, by decide +kernel, by decide +kernel⟩
abbrev s_room_for : Stmt := topS 52
abbrev N_room_for : List Str := ["layout", "size"]
abbrev P_room_for : List Str := ["layout", "size"]
theorem sc_room_for : FnScope N_room_for P_room_for (defScope s_room_for) := ⟨rfl, rfl, rfl, by decide +kernel, rfl, by decide +kernel, by decide +kernel⟩
abbrev s_Lruler : Stmt := topS 54
abbrev N_Lruler : List Str := ["script", "cell"]
abbrev P_Lruler : List Str := ["script"]
theorem sc_Lruler : FnScope N_Lruler P_Lruler (defScope s_Lruler) := ⟨rfl, rfl, rfl, by decide +kernel, rfl, by decide +kernel, by decide +kernel⟩
abbrev s_Lnotch : Stmt := topS 55
abbrev N_Lnotch : List Str := ["ruler", "many", "rest", "at", "cell", "mixed"]
abbrev P_Lnotch : List Str := ["ruler", "many"]
theorem sc_Lnotch : FnScope N_Lnotch P_Lnotch (defScope s_Lnotch) := ⟨rfl, rfl, rfl, by decide +kernel, rfl, by decide +kernel, by decide +kernel⟩
abbrev s_Lone : Stmt := topS 56
abbrev N_Lone : List Str := ["ruler", "some"]
abbrev P_Lone : List Str := ["ruler", "some"]
theorem sc_Lone : FnScope N_Lone P_Lone (defScope s_Lone) := ⟨rfl, rfl, rfl, by decide +kernel, rfl, by decide +kernel, by decide +kernel⟩
abbrev s_Lis_refused : Stmt := topS 57
abbrev N_Lis_refused : List Str := ["ask", "part", "caught", "error"]
abbrev P_Lis_refused : List Str := ["ask", "part"]
theorem sc_Lis_refused : FnScope N_Lis_refused P_Lis_refused (defScope s_Lis_refused) := ⟨rfl, rfl, rfl, by decide +kernel, rfl, by decide +kernel, by decide +kernel⟩
abbrev s_Lsize_right : Stmt := topS 58
abbrev N_Lsize_right : List Str := ["size", "told"]
abbrev P_Lsize_right : List Str := ["size"]
theorem sc_Lsize_right : FnScope N_Lsize_right P_Lsize_right (defScope s_Lsize_right) := ⟨rfl, rfl, rfl, by decide +kernel, rfl, by decide +kernel, by decide +kernel⟩
abbrev s_law : Stmt := topS 59
abbrev N_law : List Str := ["script", "ruler", "far", "sizes", "turn", "size", "q", "none", "odd", "bad"]
abbrev P_law : List Str := ["script"]
theorem sc_law : FnScope N_law P_law (defScope s_law) := ⟨rfl, rfl, rfl, by decide +kernel, rfl, by decide +kernel, by decide +kernel⟩
abbrev s_BadNumber_init : Stmt := (clsBody (topS 10)).getD 0 (.Pass ⟨0, 0, 0, 0⟩)
abbrev N_BadNumber_init : List Str := ["self", "part"]
theorem sc_BadNumber_init : FnScope N_BadNumber_init N_BadNumber_init (defScope s_BadNumber_init) := ⟨rfl, rfl, rfl, by decide +kernel, rfl, by decide +kernel, by decide +kernel⟩
abbrev s_BadLayout_init : Stmt := (clsBody (topS 11)).getD 0 (.Pass ⟨0, 0, 0, 0⟩)
abbrev N_BadLayout_init : List Str := ["self", "part"]
theorem sc_BadLayout_init : FnScope N_BadLayout_init N_BadLayout_init (defScope s_BadLayout_init) := ⟨rfl, rfl, rfl, by decide +kernel, rfl, by decide +kernel, by decide +kernel⟩

structure Txt (K : PySem.W.Frag) (mg : Str → Option Value) (fs : Nat → Addr) (fd : Nat → FuncData) (tk : Nat → Tok) (cs : Nat → Addr) (cp : Nat → Addr) : Prop where
  f_is_integer : Fun K "is_integer" "is_integer" s_is_integer (fs 0) (fd 0)
  m_is_integer : mg "is_integer" = some (.ref (fs 0))
  f_is_within : Fun K "is_within" "is_within" s_is_within (fs 1) (fd 1)
  m_is_within : mg "is_within" = some (.ref (fs 1))
  f_is_q : Fun K "is_q" "is_q" s_is_q (fs 2) (fd 2)
  m_is_q : mg "is_q" = some (.ref (fs 2))
  f_is_size : Fun K "is_size" "is_size" s_is_size (fs 3) (fd 3)
  m_is_size : mg "is_size" = some (.ref (fs 3))
  f_rank_by : Fun K "rank_by" "rank_by" s_rank_by (fs 4) (fd 4)
  m_rank_by : mg "rank_by" = some (.ref (fs 4))
  f_things_of : Fun K "things_of" "things_of" s_things_of (fs 5) (fd 5)
  m_things_of : mg "things_of" = some (.ref (fs 5))
  f_files_of : Fun K "files_of" "files_of" s_files_of (fs 6) (fd 6)
  m_files_of : mg "files_of" = some (.ref (fs 6))
  f_placed : Fun K "placed" "placed" s_placed (fs 7) (fd 7)
  m_placed : mg "placed" = some (.ref (fs 7))
  f_rank_taking : Fun K "rank_taking" "rank_taking" s_rank_taking (fs 8) (fd 8)
  m_rank_taking : mg "rank_taking" = some (.ref (fs 8))
  f_ascend : Fun K "ascend" "ascend" s_ascend (fs 9) (fd 9)
  m_ascend : mg "ascend" = some (.ref (fs 9))
  f_are_let : Fun K "are_let" "are_let" s_are_let (fs 10) (fd 10)
  m_are_let : mg "are_let" = some (.ref (fs 10))
  f_Uare_regions : Fun K "_are_regions" "_are_regions" s_Uare_regions (fs 11) (fd 11)
  m_Uare_regions : mg "_are_regions" = some (.ref (fs 11))
  f_Uranks_fit : Fun K "_ranks_fit" "_ranks_fit" s_Uranks_fit (fs 12) (fd 12)
  m_Uranks_fit : mg "_ranks_fit" = some (.ref (fs 12))
  f_Userials_fit : Fun K "_serials_fit" "_serials_fit" s_Userials_fit (fs 13) (fd 13)
  m_Userials_fit : mg "_serials_fit" = some (.ref (fs 13))
  f_Urooms_hold : Fun K "_rooms_hold" "_rooms_hold" s_Urooms_hold (fs 14) (fd 14)
  m_Urooms_hold : mg "_rooms_hold" = some (.ref (fs 14))
  f_Urooms_are_later : Fun K "_rooms_are_later" "_rooms_are_later" s_Urooms_are_later (fs 15) (fd 15)
  m_Urooms_are_later : mg "_rooms_are_later" = some (.ref (fs 15))
  f_Uhave_passed : Fun K "_have_passed" "_have_passed" s_Uhave_passed (fs 16) (fd 16)
  m_Uhave_passed : mg "_have_passed" = some (.ref (fs 16))
  f_text_of : Fun K "text_of" "text_of" s_text_of (fs 17) (fd 17)
  m_text_of : mg "text_of" = some (.ref (fs 17))
  f_fixed : Fun K "fixed" "fixed" s_fixed (fs 18) (fd 18)
  m_fixed : mg "fixed" = some (.ref (fs 18))
  f_rank_of : Fun K "rank_of" "rank_of" s_rank_of (fs 19) (fd 19)
  m_rank_of : mg "rank_of" = some (.ref (fs 19))
  f_check_q : Fun K "check_q" "check_q" s_check_q (fs 20) (fd 20)
  m_check_q : mg "check_q" = some (.ref (fs 20))
  f_check_size : Fun K "check_size" "check_size" s_check_size (fs 21) (fd 21)
  m_check_size : mg "check_size" = some (.ref (fs 21))
  f_Layout_init : Fun K "__init__" "Layout.__init__" s_Layout_init (fs 22) (fd 22)
  f_Layout_eq : Fun K "__eq__" "Layout.__eq__" s_Layout_eq (fs 23) (fd 23)
  f_Layout_str : Fun K "__str__" "Layout.__str__" s_Layout_str (fs 24) (fd 24)
  f_empty : Fun K "empty" "empty" s_empty (fs 25) (fd 25)
  m_empty : mg "empty" = some (.ref (fs 25))
  f_check_layout : Fun K "check_layout" "check_layout" s_check_layout (fs 26) (fd 26)
  m_check_layout : mg "check_layout" = some (.ref (fs 26))
  f_places : Fun K "places" "places" s_places (fs 27) (fd 27)
  m_places : mg "places" = some (.ref (fs 27))
  f_length : Fun K "length" "length" s_length (fs 28) (fd 28)
  m_length : mg "length" = some (.ref (fs 28))
  f_live : Fun K "live" "live" s_live (fs 29) (fd 29)
  m_live : mg "live" = some (.ref (fs 29))
  f_room_for : Fun K "room_for" "room_for" s_room_for (fs 30) (fd 30)
  m_room_for : mg "room_for" = some (.ref (fs 30))
  f_Lruler : Fun K "_law_ruler" "_law_ruler" s_Lruler (fs 31) (fd 31)
  m_Lruler : mg "_law_ruler" = some (.ref (fs 31))
  f_Lnotch : Fun K "_law_notch" "_law_notch" s_Lnotch (fs 32) (fd 32)
  m_Lnotch : mg "_law_notch" = some (.ref (fs 32))
  f_Lone : Fun K "_law_one" "_law_one" s_Lone (fs 33) (fd 33)
  m_Lone : mg "_law_one" = some (.ref (fs 33))
  f_Lis_refused : Fun K "_law_is_refused" "_law_is_refused" s_Lis_refused (fs 34) (fd 34)
  m_Lis_refused : mg "_law_is_refused" = some (.ref (fs 34))
  f_Lsize_right : Fun K "_law_size_right" "_law_size_right" s_Lsize_right (fs 35) (fd 35)
  m_Lsize_right : mg "_law_size_right" = some (.ref (fs 35))
  f_law : Fun K "law" "law" s_law (fs 36) (fd 36)
  m_law : mg "law" = some (.ref (fs 36))
  c_LEAST_Q : mg "LEAST_Q" = some (.int 2 (tk 0))
  c_GREATEST_Q : mg "GREATEST_Q" = some (.int 64 (tk 1))
  c_GREATEST_SIZE : mg "GREATEST_SIZE" = some (.int 4096 (tk 2))
  c_LAST_RANK : mg "LAST_RANK" = some (.int 12 (tk 3))
  z_abs : mg "abs" = none
  z_all : mg "all" = none
  z_bool : mg "bool" = none
  z_int : mg "int" = none
  z_isinstance : mg "isinstance" = none
  z_len : mg "len" = none
  z_list : mg "list" = none
  z_range : mg "range" = none
  z_repr : mg "repr" = none
  z_set : mg "set" = none
  z_sorted : mg "sorted" = none
  z_str : mg "str" = none
  z_sum : mg "sum" = none
  z_tuple : mg "tuple" = none
  z_zip : mg "zip" = none
  x_StripError : ClsX K (cs 0)
  m_StripError : mg "StripError" = some (.ref (cs 0))
  k_StripError : PySem.W.keepIn K (.ref (cs 0)) = true
  q_StripError : PySem.W.excIn K (cs 0) [.type "ValueError", .type "Exception", .type "BaseException", .type "object"] "ValueError.__new__" = true
  x_BadNumber : ClsX K (cs 1)
  m_BadNumber : mg "BadNumber" = some (.ref (cs 1))
  f_BadNumber_init : Fun K "__init__" "BadNumber.__init__" s_BadNumber_init (fs 37) (fd 37)
  i_BadNumber : PySem.W.findIn K (.ref (cs 1)) "__init__" = some (some (.ref (fs 37)))
  t_BadNumber : PySem.W.typeIn K (.ref (fs 37)) = some (.type "function")
  n_BadNumber_part : PySem.W.findIn K (.ref (cs 1)) "part" = some none
  x_BadLayout : ClsX K (cs 2)
  m_BadLayout : mg "BadLayout" = some (.ref (cs 2))
  f_BadLayout_init : Fun K "__init__" "BadLayout.__init__" s_BadLayout_init (fs 38) (fd 38)
  i_BadLayout : PySem.W.findIn K (.ref (cs 2)) "__init__" = some (some (.ref (fs 38)))
  t_BadLayout : PySem.W.typeIn K (.ref (fs 38)) = some (.type "function")
  n_BadLayout_part : PySem.W.findIn K (.ref (cs 2)) "part" = some none
  m_Layout : mg "Layout" = some (.ref (cp 0))
  k_Layout : Mk K (cp 0) (fs 22)
  c_Layout : Cls K (cp 0)
  t_Layout : InsC K (cp 0)
  n_Layout_q : NoAttr K (cp 0) "q"
  n_Layout_puts : NoAttr K (cp 0) "puts"
  n_Layout_regions : NoAttr K (cp 0) "regions"
  o_Layout : OwnE K (cp 0) (fs 23)
  st_Layout : PySem.W.findIn K (.ref (cp 0)) "__str__" = some (some (.ref (fs 24)))
  sf_Layout : PySem.W.isFn K (.ref (fs 24)) = true
  ino_n1 : PySem.W.kitOne K (.type "NoneType") (.ref (cs 1)) = some false
  isc_11 : PySem.W.kitOne K (.ref (cs 1)) (.ref (cs 1)) = some true
  exm_1 : PySem.W.exmOne K (.ref (cs 1)) (.ref (cs 0)) = some true
  isl : PySem.W.kitOne K (.ref (cp 0)) (.ref (cp 0)) = some true
section
variable {K : PySem.W.Frag} {mg : Str → Option Value} {fs : Nat → Addr} {fd : Nat → FuncData} {tk : Nat → Tok} {cs : Nat → Addr} {cp : Nat → Addr}
theorem b_is_integer (T : Txt K mg fs fd tk cs cp) : Binds K (fd 0) P_is_integer [] := T.f_is_integer.binds fun _ _ _ _ _ _ us hl => match us, hl with | [_], _ => rfl
theorem b_is_within (T : Txt K mg fs fd tk cs cp) : Binds K (fd 1) P_is_within [] := T.f_is_within.binds fun _ _ _ _ _ _ us hl => match us, hl with | [_, _, _], _ => rfl
theorem b_is_q (T : Txt K mg fs fd tk cs cp) : Binds K (fd 2) P_is_q [] := T.f_is_q.binds fun _ _ _ _ _ _ us hl => match us, hl with | [_], _ => rfl
theorem b_is_size (T : Txt K mg fs fd tk cs cp) : Binds K (fd 3) P_is_size [] := T.f_is_size.binds fun _ _ _ _ _ _ us hl => match us, hl with | [_], _ => rfl
theorem b_rank_by (T : Txt K mg fs fd tk cs cp) : Binds K (fd 4) P_rank_by [] := T.f_rank_by.binds fun _ _ _ _ _ _ us hl => match us, hl with | [_], _ => rfl
theorem b_things_of (T : Txt K mg fs fd tk cs cp) : Binds K (fd 5) P_things_of [] := T.f_things_of.binds fun _ _ _ _ _ _ us hl => match us, hl with | [_], _ => rfl
theorem b_files_of (T : Txt K mg fs fd tk cs cp) : Binds K (fd 6) P_files_of [] := T.f_files_of.binds fun _ _ _ _ _ _ us hl => match us, hl with | [_], _ => rfl
theorem b_placed (T : Txt K mg fs fd tk cs cp) : Binds K (fd 7) P_placed [] := T.f_placed.binds fun _ _ _ _ _ _ us hl => match us, hl with | [_, _], _ => rfl
theorem b_rank_taking (T : Txt K mg fs fd tk cs cp) : Binds K (fd 8) P_rank_taking [] := T.f_rank_taking.binds fun _ _ _ _ _ _ us hl => match us, hl with | [_, _, _], _ => rfl
theorem b_ascend (T : Txt K mg fs fd tk cs cp) : Binds K (fd 9) P_ascend [] := T.f_ascend.binds fun _ _ _ _ _ _ us hl => match us, hl with | [_], _ => rfl
theorem b_are_let (T : Txt K mg fs fd tk cs cp) : Binds K (fd 10) P_are_let [] := T.f_are_let.binds fun _ _ _ _ _ _ us hl => match us, hl with | [_, _, _], _ => rfl
theorem b_Uare_regions (T : Txt K mg fs fd tk cs cp) : Binds K (fd 11) P_Uare_regions [] := T.f_Uare_regions.binds fun _ _ _ _ _ _ us hl => match us, hl with | [_, _], _ => rfl
theorem b_Uranks_fit (T : Txt K mg fs fd tk cs cp) : Binds K (fd 12) P_Uranks_fit [] := T.f_Uranks_fit.binds fun _ _ _ _ _ _ us hl => match us, hl with | [_], _ => rfl
theorem b_Userials_fit (T : Txt K mg fs fd tk cs cp) : Binds K (fd 13) P_Userials_fit [] := T.f_Userials_fit.binds fun _ _ _ _ _ _ us hl => match us, hl with | [_], _ => rfl
theorem b_Urooms_hold (T : Txt K mg fs fd tk cs cp) : Binds K (fd 14) P_Urooms_hold [] := T.f_Urooms_hold.binds fun _ _ _ _ _ _ us hl => match us, hl with | [_, _], _ => rfl
theorem b_Urooms_are_later (T : Txt K mg fs fd tk cs cp) : Binds K (fd 15) P_Urooms_are_later [] := T.f_Urooms_are_later.binds fun _ _ _ _ _ _ us hl => match us, hl with | [_], _ => rfl
theorem b_Uhave_passed (T : Txt K mg fs fd tk cs cp) : Binds K (fd 16) P_Uhave_passed [] := T.f_Uhave_passed.binds fun _ _ _ _ _ _ us hl => match us, hl with | [_, _], _ => rfl
theorem b_text_of (T : Txt K mg fs fd tk cs cp) : Binds K (fd 17) P_text_of [] := T.f_text_of.binds fun _ _ _ _ _ _ us hl => match us, hl with | [_, _, _], _ => rfl
theorem b_fixed (T : Txt K mg fs fd tk cs cp) : Binds K (fd 18) P_fixed [] := T.f_fixed.binds fun _ _ _ _ _ _ us hl => match us, hl with | [_], _ => rfl
theorem b_rank_of (T : Txt K mg fs fd tk cs cp) : Binds K (fd 19) P_rank_of [] := T.f_rank_of.binds fun _ _ _ _ _ _ us hl => match us, hl with | [_], _ => rfl
theorem b_check_q (T : Txt K mg fs fd tk cs cp) : Binds K (fd 20) P_check_q [] := T.f_check_q.binds fun _ _ _ _ _ _ us hl => match us, hl with | [_], _ => rfl
theorem b_check_size (T : Txt K mg fs fd tk cs cp) : Binds K (fd 21) P_check_size [] := T.f_check_size.binds fun _ _ _ _ _ _ us hl => match us, hl with | [_], _ => rfl
theorem b_Layout_init (T : Txt K mg fs fd tk cs cp) : Binds K (fd 22) P_Layout_init [] := T.f_Layout_init.binds fun _ _ _ _ _ _ us hl => match us, hl with | [_, _, _, _], _ => rfl
theorem b_Layout_eq (T : Txt K mg fs fd tk cs cp) : Binds K (fd 23) P_Layout_eq [] := T.f_Layout_eq.binds fun _ _ _ _ _ _ us hl => match us, hl with | [_, _], _ => rfl
theorem b_Layout_str (T : Txt K mg fs fd tk cs cp) : Binds K (fd 24) P_Layout_str [] := T.f_Layout_str.binds fun _ _ _ _ _ _ us hl => match us, hl with | [_], _ => rfl
theorem b_empty (T : Txt K mg fs fd tk cs cp) : Binds K (fd 25) P_empty [] := T.f_empty.binds fun _ _ _ _ _ _ us hl => match us, hl with | [_], _ => rfl
theorem b_check_layout (T : Txt K mg fs fd tk cs cp) : Binds K (fd 26) P_check_layout [] := T.f_check_layout.binds fun _ _ _ _ _ _ us hl => match us, hl with | [_], _ => rfl
theorem b_places (T : Txt K mg fs fd tk cs cp) : Binds K (fd 27) P_places [] := T.f_places.binds fun _ _ _ _ _ _ us hl => match us, hl with | [_], _ => rfl
theorem b_length (T : Txt K mg fs fd tk cs cp) : Binds K (fd 28) P_length [] := T.f_length.binds fun _ _ _ _ _ _ us hl => match us, hl with | [_], _ => rfl
theorem b_live (T : Txt K mg fs fd tk cs cp) : Binds K (fd 29) P_live [] := T.f_live.binds fun _ _ _ _ _ _ us hl => match us, hl with | [_], _ => rfl
theorem b_room_for (T : Txt K mg fs fd tk cs cp) : Binds K (fd 30) P_room_for [] := T.f_room_for.binds fun _ _ _ _ _ _ us hl => match us, hl with | [_, _], _ => rfl
theorem b_Lruler (T : Txt K mg fs fd tk cs cp) : Binds K (fd 31) P_Lruler [] := T.f_Lruler.binds fun _ _ _ _ _ _ us hl => match us, hl with | [_], _ => rfl
theorem b_Lnotch (T : Txt K mg fs fd tk cs cp) : Binds K (fd 32) P_Lnotch [] := T.f_Lnotch.binds fun _ _ _ _ _ _ us hl => match us, hl with | [_, _], _ => rfl
theorem b_Lone (T : Txt K mg fs fd tk cs cp) : Binds K (fd 33) P_Lone [] := T.f_Lone.binds fun _ _ _ _ _ _ us hl => match us, hl with | [_, _], _ => rfl
theorem b_Lis_refused (T : Txt K mg fs fd tk cs cp) : Binds K (fd 34) P_Lis_refused [] := T.f_Lis_refused.binds fun _ _ _ _ _ _ us hl => match us, hl with | [_, _], _ => rfl
theorem b_Lsize_right (T : Txt K mg fs fd tk cs cp) : Binds K (fd 35) P_Lsize_right [] := T.f_Lsize_right.binds fun _ _ _ _ _ _ us hl => match us, hl with | [_], _ => rfl
theorem b_law (T : Txt K mg fs fd tk cs cp) : Binds K (fd 36) P_law [] := T.f_law.binds fun _ _ _ _ _ _ us hl => match us, hl with | [_], _ => rfl
def g_kw_rank_of_0_size {α : Type} (us ws : List α) : List α := match us, ws with
  | [], [w0] => [w0]
  | _, _ => []
theorem kw_rank_of_0_size (T : Txt K mg fs fd tk cs cp) : KwB K (fd 19) P_rank_of 0 ["size"] g_kw_rank_of_0_size := by
  obtain ⟨oc, od, kV, doc, pm, an, cd, ct, osl, e, _⟩ := T.f_rank_of.ex
  refine ⟨fun s us ws h1 h2 => ?_, fun {vs us zs ws} h1 h2 r1 r2 => ?_⟩
  · rw [e]
    exact match us, ws, h1, h2 with | [], [_], _, _ => .of_eq rfl
  · exact match vs, us, zs, ws, r1, r2, h1, h2 with | [], [], [_], [_], (.nil), (.cons rw0 (.nil)), _, _ => .cons rw0 (.nil)
def g_kw_empty_0_q {α : Type} (us ws : List α) : List α := match us, ws with
  | [], [w0] => [w0]
  | _, _ => []
theorem kw_empty_0_q (T : Txt K mg fs fd tk cs cp) : KwB K (fd 25) P_empty 0 ["q"] g_kw_empty_0_q := by
  obtain ⟨oc, od, kV, doc, pm, an, cd, ct, osl, e, _⟩ := T.f_empty.ex
  refine ⟨fun s us ws h1 h2 => ?_, fun {vs us zs ws} h1 h2 r1 r2 => ?_⟩
  · rw [e]
    exact match us, ws, h1, h2 with | [], [_], _, _ => .of_eq rfl
  · exact match vs, us, zs, ws, r1, r2, h1, h2 with | [], [], [_], [_], (.nil), (.cons rw0 (.nil)), _, _ => .cons rw0 (.nil)
theorem b_BadNumber_init (T : Txt K mg fs fd tk cs cp) : Binds K (fd 37) N_BadNumber_init [] := T.f_BadNumber_init.binds fun _ _ _ _ _ _ us hl => match us, hl with | [_, _], _ => rfl
theorem b_BadLayout_init (T : Txt K mg fs fd tk cs cp) : Binds K (fd 38) N_BadLayout_init [] := T.f_BadLayout_init.binds fun _ _ _ _ _ _ us hl => match us, hl with | [_, _], _ => rfl
end
def TL (P0 : Addr) : List (Addr × Str) := [(P0, lamQ "law")]
theorem TL.m0 {P0 : Addr} : (P0, lamQ "law") ∈ TL P0 := List.mem_cons_self
theorem TL.u0 {P0 : Addr} : ∀ p ∈ TL P0, p.1 = P0 → p.2 = lamQ "law" := by
  intro p hp e
  simp only [TL, List.mem_cons, List.not_mem_nil, or_false] at hp
  rw [hp]
def spLaw (K : PySem.W.Frag) (P0 : Addr) : Sp := fun vs H Q _ => ∃ (a : Addr) (ns : List Int), vs = [.ref a] ∧ SqL K H a (ns.map V.int) ∧ ns.length ≤ 63 ∧ H P0 = some (.tbl #[]) ∧ ∀ H', Q (.bl true) H'
theorem law_pre {K : PySem.W.Frag} {P0 : Addr} {H : Hp} {a : Addr} {ns : List Int} (hl : ns.length ≤ 63) (hS : SqL K H a (ns.map V.int)) (h0 : H P0 = some (.tbl #[])) : spLaw K P0 [.ref a] H (fun v _ => v = .bl true) fun _ _ _ => False := ⟨a, ns, rfl, hS, hl, h0, fun _ => rfl⟩

section
variable {P : Program} {w : World} {K : PySem.W.Frag} {mg : Str → Option Value} {base : Heap} {fs : Nat → Addr} {fd : Nat → FuncData} {tk : Nat → Tok} {cs : Nat → Addr} {cp : Nat → Addr}
theorem ok_BadNumber_init (T : Txt K mg fs fd tk cs cp) : FnG P w K mg base CX0 1 (fs 37) (fd 37) N_BadNumber_init (spI1 (cs 1) "part") := by
  refine Fun.okG T.f_BadNumber_init sc_BadNumber_init (fun vs H Q E h => ?_) (fun cd A out s H vs Q E gd hr h => ?_)
  · obtain ⟨a, x, rfl, _⟩ := h
    rfl
  · obtain ⟨a, x, rfl, ha, k⟩ := h
    exact ⟨_, PSs.nox (pss_one (ps_ost (pv 0) (pv 1))), ⟨_, rfl, _, rfl, a, cs 1, rfl, T.x_BadNumber.ox, T.n_BadNumber_part, .inl ⟨ha, fun dx hd hne => k dx hd hne⟩⟩⟩
theorem ok_BadLayout_init (T : Txt K mg fs fd tk cs cp) : FnG P w K mg base CX0 1 (fs 38) (fd 38) N_BadLayout_init (spI1 (cs 2) "part") := by
  refine Fun.okG T.f_BadLayout_init sc_BadLayout_init (fun vs H Q E h => ?_) (fun cd A out s H vs Q E gd hr h => ?_)
  · obtain ⟨a, x, rfl, _⟩ := h
    rfl
  · obtain ⟨a, x, rfl, ha, k⟩ := h
    exact ⟨_, PSs.nox (pss_one (ps_ost (pv 0) (pv 1))), ⟨_, rfl, _, rfl, a, cs 2, rfl, T.x_BadLayout.ox, T.n_BadLayout_part, .inl ⟨ha, fun dx hd hne => k dx hd hne⟩⟩⟩
end
end Mine
set_option maxHeartbeats 400000
namespace Mine
open PySem PySem.Spec PyProof.Rows L2 GL DD
set_option hygiene false in
local macro_rules | `(tactic| walk_at "rz") => `(tactic| ((with_reducible refine' DS.raise1 rfl rfl ?rzcl ?_); (case rzcl => first | exact T.x_StripError | exact T.x_BadNumber | exact T.x_BadLayout)))
local macro_rules | `(tactic| walk_at "n") => `(tactic| (try dsimp only [sh_d, sh_n, upds, slots, List.length_cons, List.length_nil, of_d, of_n, of_o, at_d, cxOf, Cx.nox, Cx.wish, List.cons_append, List.nil_append, List.map_cons, List.map_nil, Int.reduceToNat, List.set, List.getElem?_cons_zero, List.getElem?_cons_succ, List.set_cons_zero, List.set_cons_succ]))
local macro_rules | `(tactic| walk_at "1") => `(tactic| first
  | (with_reducible refine' DS.seq ?_)
  | (with_reducible refine' DS.next ?_)
  | ((with_reducible refine' DS.ret (DE.move ?h ?q)); (case h => rfl))
  | (with_reducible refine' DS.ret ?_)
  | (with_reducible refine' DS.ite ?_)
  | (with_reducible refine' DS.drop ?_)
  | (with_reducible refine' DT.val ?_)
  | (with_reducible refine' DT.test ?_)
  | (with_reducible refine' DT.not ?_)
  | (with_reducible refine' DT.and ?_)
  | (with_reducible refine' DT.or ?_)
  | (with_reducible refine' DT.yes ?_)
  | (with_reducible refine' DE.and ?_)
  | (with_reducible refine' DE.or ?_)
  | (with_reducible refine' DE.not ?_)
  | (with_reducible refine' DE.ite ?_)
  | ((with_reducible refine' DE.var ?h ?q); (case h => rfl))
  | ((with_reducible refine' DE.own ?h ?q); (case h => rfl))
  | ((with_reducible refine' DE.c ?h ?q); (case h => constructor))
  | ((with_reducible refine' DE.isX ?c ?q); (case c => decide))
  | ((with_reducible refine' DE.isX2 ?c ?c2 ?q); (case c => decide); (case c2 => decide))
  | ((with_reducible refine' DE.isO ?h ?q); (case h => assumption))
  | (with_reducible refine' DE.strO ?_)
  | (with_reducible refine' DE.join ?_)
  | (with_reducible refine' DE.joined ?_)
  | (with_reducible refine' DJ.nil ?_)
  | (with_reducible refine' DJ.cons ?_)
  | (with_reducible refine' DE.tupOf ?_)
  | (with_reducible refine' DE.cb ?_)
  | (with_reducible refine' DE.call ?_)
  | ((with_reducible refine' DE.callY ?hE ?_); (case hE => rfl))
  | ((with_reducible refine' DE.makeY ?hE ?_); (case hE => rfl))
  | walk_at "rz"
  | (with_reducible refine' DE.make ?_)
  | (with_reducible refine' DE.fld ?_)
  | (with_reducible refine' DS.fldN ?_)
  | (with_reducible refine' DE.chain ?_)
  | (with_reducible refine' DE.neg ?_)
  | (with_reducible refine' DE.dnew ?_)
  | (with_reducible refine' DE.dget ?_)
  | (with_reducible refine' DE.get2 ?_)
  | (with_reducible refine' DE.din ?_)
  | ((with_reducible refine' DE.kwX ?hE ?_); (case hE => rfl))
  | (with_reducible refine' DE.kwC ?_)
  | (with_reducible refine' DE.opO ?_)
  | (with_reducible refine' DE.opT (r := rRepT _) ?_)
  | (with_reducible refine' DE.opT (r := rCatA _) ?_)
  | (with_reducible refine' DE.op ?_)
  | ((with_reducible refine' DI.seqV ?h ?h2 ?q); (case h => rfl); (case h2 => first | assumption | rfl))
  | (with_reducible refine' DI.list ?_)
  | (with_reducible refine' DI.tup ?_)
  | (with_reducible refine' DI.zip ?_)
  | (with_reducible refine' DI.enum ?_)
  | (with_reducible refine' DI.rng2 ?_)
  | (with_reducible refine' DI.rng1 ?_)
  | (with_reducible refine' DE.bits ?_)
  | (with_reducible refine' DE.tup ?_)
  | (with_reducible refine' DE.lst ?_)
  | (with_reducible refine' DAo.nil ?_)
  | (with_reducible refine' DAo.cons ?_)
  | (with_reducible refine' DS.setL ?_)
  | (with_reducible refine' DS.dput ?_)
  | (with_reducible refine' DS.asg ?_)
  | ((with_reducible refine' DG.name ?h ?q); (case h => first | exact free_of rfl | exact free_so rfl))
  | ((with_reducible refine' DG.tup ?h ?h2 ?q); (case h => rfl); (case h2 => rfl))
  | ((with_reducible refine' DGo.name ?h ?q); (case h => first | exact free_of rfl | exact free_so rfl))
  | ((with_reducible refine' DGo.tup ?h ?h2 ?q); (case h => rfl); (case h2 => rfl))
  | (with_reducible refine' DGos.cons ?_)
  | (with_reducible refine' DGos.nil ?_)
  | (with_reducible refine' DGs.cons ?_)
  | (with_reducible refine' DGs.nil ?_)
  | ((with_reducible refine' r2_int ?h ?q); (case h => constructor))
  | ((with_reducible refine' r2_isN ?h ?q); (case h => rfl))
  | ((with_reducible refine' r2_notN ?h ?q); (case h => rfl))
  | ((with_reducible refine' rl_lenV ?h ?q); (case h => rfl))
  | ((with_reducible refine' rl_len ?h ?q); (case h => rfl))
  | ((with_reducible refine' rl_int ?h ?q); (case h => rfl))
  | ((with_reducible refine' r2_eq ?h ?h2 ?h3 ?q); (case h => rfl); (case h2 => rfl); (case h3 => rfl))
  | ((with_reducible refine' r2_ne ?h ?h2 ?h3 ?q); (case h => rfl); (case h2 => rfl); (case h3 => rfl))
  | (with_reducible refine' DE.opT ?_)
  | (with_reducible refine' DE.cbT ?_)
  | ((with_reducible refine' r2_fdiv ?h ?q); (case h => exact ⟨by first | omega | decide, by first | omega | decide⟩))
  | ((with_reducible refine' r2_fdivW ?h ?q); (case h => first | exact cdivW2 (by first | omega | decide) (by first | omega | decide)))
  | ((with_reducible refine' r2_mulW ?h ?q); (case h => exact cmulW 64 64 (by first | omega | decide) (by first | omega | decide) (by decide) (by decide) (by decide)))
  | ((with_reducible refine' r2_shl ?h ?q); (case h => exact cshl (by first | omega | decide) (by first | omega | decide) (by first | omega | decide)))
  | ((with_reducible refine' r2_ixTx ?h ?h2 ?q); (case h => rfl); (case h2 => first | rfl | assumption))
  | ((with_reducible refine' r2_ixLx ?h ?h2 ?q); (case h => rfl); (case h2 => first | rfl | assumption))
  | ((with_reducible refine' r2_catTx ?h ?h2 ?h3 ?q); (case h => rfl); (case h2 => rfl); (case h3 => unfold sizeLine; first | omega | (simp; done) | (simp; omega)))
  | ((with_reducible refine' r2_cat ?h ?q); (case h => unfold sizeLine; first | omega | (simp; done) | (simp; omega)))
  | (with_reducible refine' DI.enumT ?_)
  | (with_reducible refine' DE.append ?_)
  | (with_reducible refine' DE.extend ?_)
  | (with_reducible refine' DS.aug ?_)
  | (with_reducible refine' DS.par ?_)
  | (with_reducible refine' DS.par3 ?_)
  | (with_reducible refine' DO.nil ?_)
  | (with_reducible refine' DO.one ?_)
  | (with_reducible refine' DE.slL ?_)
  | (with_reducible refine' DE.slT ?_)
  | ((with_reducible refine' r2_ix ?h ?h2 ?q); (case h => first | rfl | assumption); (case h2 => first | rfl | assumption))
  | (with_reducible refine' rl_abs ?_)
  | (with_reducible refine' rl_max2 ?_)
  | (with_reducible refine' rl_min2 ?_)
  | (with_reducible refine' r2_isBl ?_)
  | (with_reducible refine' r2_neInts ?_)
  | ((with_reducible refine' r2_mul ?h ?q); (case h => first | exact .inl ⟨by first | decide | omega, by first | decide | omega⟩ | exact .inr ⟨by first | decide | omega, by first | decide | omega⟩))
  | ((with_reducible refine' r2_mod ?h ?q); (case h => first | assumption | decide | omega))
  | ((with_reducible refine' r2_pow ?h ?q); (case h => exact ⟨by first | decide | omega, by first | decide | omega, by first | assumption | decide | omega⟩))
  | (with_reducible refine' rl_sumM ?_)
  | (with_reducible refine' rl_allM ?_)
  | (with_reducible refine' rl_anyM ?_)
  | (with_reducible refine' rl_sum ?_)
  | (with_reducible refine' rl_all ?_)
  | (with_reducible refine' rl_any ?_)
  | ((with_reducible refine' ifP ?h ?q); (case h => first | assumption | rfl | decide))
  | ((with_reducible refine' ifN ?h ?q); (case h => first | assumption | (intro z; cases z; done) | decide))
  | (with_reducible assumption)
  | (with_reducible intro (_ : List SV))
  | (refine ⟨_, rfl, rfl, List.nodup_nil, ?_⟩)
  | (refine ⟨_, rfl, rfl, (show List.Nodup _ by decide), ?_⟩)
  | (refine ⟨_, _, _, _, rfl, rfl, rfl, ?_⟩)
  | (refine ⟨_, rfl, ?_⟩)
  | (refine ⟨_, _, rfl, rfl, ?_⟩)
  | (refine ⟨_, _, _, rfl, rfl, ?_⟩)
  | (refine ⟨_, _, _, rfl, ?_⟩)
  | (refine ⟨_, _, rfl, ?_⟩)
  | (refine ⟨(show List.Nodup _ by decide), ?_⟩)
  | (refine ⟨⟨_, _, rfl⟩, ?_⟩)
  | (refine ⟨free_of rfl, ?_⟩)
  | (refine ⟨free_so rfl, ?_⟩)
  | (refine ⟨trivial, ?_⟩)
  | (refine ⟨rfl, ?_⟩)
  | (refine And.intro (by assumption) ?_)
  | (refine ⟨(show _ ≤ sizeLine by unfold sizeLine; first | decide | omega | (simp; done) | (simp; omega)), ?_⟩)
  | (refine ⟨(show _ < sizeLine by unfold sizeLine; first | omega | (simp; omega)), ?_⟩))
local macro_rules | `(tactic| walk_at "go") => `(tactic| (walk_at "n"; repeat (walk_at "1"; walk_at "n")))
local macro_rules | `(tactic| walk_at "goi") => `(tactic| (walk_at "go"; (try split); all_goals walk_at "go"))
local macro_rules | `(tactic| walk_at "own") => `(tactic| (refine' DS.seq (DS.own ?_); walk_at "go"))
local macro_rules | `(tactic| walk_at "gof") => `(tactic| (walk_at "n"; repeat (first | ((with_reducible refine' DE.frz ?h ?q); (case h => rfl)) | walk_at "1"); walk_at "n"))
local macro_rules | `(tactic| walk_at "pg1") => `(tactic| (intro P vs zs h1 h2; cases h1; cases h2 with | cons b1 h2 => cases h2; exact .cons b1 .nil))
local macro_rules | `(tactic| walk_at "pg2") => `(tactic| (intro P vs zs h1 h2; cases h1; cases h2 with | cons b1 h2 => (cases h2 with | cons b2 h2 => (cases h2; first | exact .cons b1 (.cons b2 .nil) | exact .cons b2 (.cons b1 .nil)))))
local macro_rules | `(tactic| walk_at "pg3") => `(tactic| (intro P vs zs h1 h2; cases h1; cases h2 with | cons b1 h2 => (cases h2 with | cons b2 h2 => (cases h2 with | cons b3 h2 => (cases h2; first | exact .cons b1 (.cons b2 (.cons b3 .nil)) | exact .cons b1 (.cons b3 (.cons b2 .nil)) | exact .cons b2 (.cons b1 (.cons b3 .nil)) | exact .cons b2 (.cons b3 (.cons b1 .nil)) | exact .cons b3 (.cons b1 (.cons b2 .nil)) | exact .cons b3 (.cons b2 (.cons b1 .nil)))))))

section
variable {P : Program} {w : World} {K : PySem.W.Frag} {mg : Str → Option Value} {base : Heap} {fs : Nat → Addr} {fd : Nat → FuncData} {tk : Nat → Tok} {cp : Cb}
def isI : D → Bool
  | .int _ => true
  | _ => false
def cInt : Ct := fun ss Φ => ∃ d, ss = [.sh d] ∧ Nob d ∧ ∀ ss', Φ (.d (.bl (isI d))) ss'
theorem ok_is_integer (T : Txt K mg fs fd tk cp.x cp.c) : FnG P w K mg base CX0 1 (fs 0) (fd 0) P_is_integer (spC K cp 1 cInt) := by
  refine okD (nos := []) T.f_is_integer sc_is_integer rfl fun cd A out s H E gd hr ss Φ hc hl => ⟨_, PSs.nox ((pss_one (ps_ret (pe_and (pe_callB call_isi (by rfl) T.z_isinstance (by decide +kernel) (pa_cons (pv 0) (pa_cons (pe_bltn (v := .ty "int") (u := .type "int") (by rfl) T.z_int (by decide +kernel) rfl) pa_nil))) (pe_one (pe_not (pe_callB call_isi (by rfl) T.z_isinstance (by decide +kernel) (pa_cons (pv 0) (pa_cons (pe_bltn (v := .ty "bool") (u := .type "bool") (by rfl) T.z_bool (by decide +kernel) rfl) pa_nil))))))))), ?_⟩
  obtain ⟨d, rfl, nd, q⟩ := hc
  cases d <;> walk_at "go" <;> first | exact q _ | exact (show False from nd).elim
theorem by_eq {Φ : AV → List SV → Prop} {d d' : D} {ρ : List SV} (q : ∀ ss', Φ (.d d) ss') (e : d = d') : Φ (.d d') ρ := e ▸ q ρ
def Bnd : D → Prop
  | .non => True
  | .int _ => True
  | _ => False
def withinD (d l m : D) : Bool := match d with
  | .int i => (match l with | .int j => decide (j ≤ i) | _ => true) && (match m with | .int j => decide (i ≤ j) | _ => true)
  | _ => false
def cWithin : Ct := fun ss Φ => ∃ d l m, ss = [.sh d, .sh l, .sh m] ∧ Nob d ∧ Bnd l ∧ Bnd m ∧ ∀ ss', Φ (.d (.bl (withinD d l m))) ss'
theorem ok_is_within (T : Txt K mg fs fd tk cp.x cp.c) : FnG P w K mg base CX0 2 (fs 1) (fd 1) P_is_within (spC K cp 3 cWithin) := by
  refine okD (nos := []) T.f_is_within sc_is_within rfl fun cd A out s H E gd hr ss Φ hc hl => ⟨_, PSs.nox ((pss_cons (ps_if (pt_not (pt_val (pg_call (ok_is_integer T) gd (hr.mono (by decide)) (by rfl) T.m_is_integer T.f_is_integer.kp (b_is_integer T) .nil pass0 (pa_cons (pv 0) pa_nil))))
        (pss_one (ps_ret (pe_bl)))
        pss_nil)
      (pss_cons (ps_if (PW.pt (pw_and (pt_cmpR op_notN (pv 1) (pe_non) (nomark _)) (pw_and1 (pt_cmpR op_lt (pv 0) (pv 1) (nomark _)))))
        (pss_one (ps_ret (pe_bl)))
        pss_nil)
      (pss_one (ps_ret (pe_or (pe_cmpR op_isN (pv 2) (pe_non) (nomark _)) (pe_one (pe_cmpR op_le (pv 0) (pv 2) (nomark _))))))))), ?_⟩
  obtain ⟨d, l, m, rfl, nd, bl, bm, q⟩ := hc
  cases d <;> try exact nd.elim
  case int i =>
    cases l <;> cases m <;> first | exact (show False from bl).elim | exact (show False from bm).elim | walk_at "go"
    all_goals try (split <;> walk_at "go")
    all_goals (refine by_eq q ?_; simp only [withinD]; first | rfl | (simp at *; omega) | (simp_all; done))
  all_goals (walk_at "go"; exact q _)
def cQ : Ct := fun ss Φ => ∃ d, ss = [.sh d] ∧ Nob d ∧ ∀ ss', Φ (.d (.bl (withinD d (.int 2) (.int 64)))) ss'
theorem ok_is_q (T : Txt K mg fs fd tk cp.x cp.c) : FnG P w K mg base CX0 3 (fs 2) (fd 2) P_is_q (spC K cp 1 cQ) := by
  refine okD (nos := []) T.f_is_q sc_is_q rfl fun cd A out s H E gd hr ss Φ hc hl => ⟨_, PSs.nox ((pss_one (ps_ret (pg_call (ok_is_within T) gd (hr.mono (by decide)) (by rfl) T.m_is_within T.f_is_within.kp (b_is_within T) .nil pass0 (pa_cons (pv 0) (pa_cons (pe_glob (v := .int 2) (by rfl) T.c_LEAST_Q ⟨_, rfl⟩) (pa_cons (pe_glob (v := .int 64) (by rfl) T.c_GREATEST_Q ⟨_, rfl⟩) pa_nil))))))), ?_⟩
  obtain ⟨d, rfl, nd, q⟩ := hc
  walk_at "go"
  exact q _
def cSz : Ct := fun ss Φ => ∃ d, ss = [.sh d] ∧ Nob d ∧ ∀ ss', Φ (.d (.bl (withinD d (.int 1) (.int 4096)))) ss'
theorem ok_is_size (T : Txt K mg fs fd tk cp.x cp.c) : FnG P w K mg base CX0 3 (fs 3) (fd 3) P_is_size (spC K cp 1 cSz) := by
  refine okD (nos := []) T.f_is_size sc_is_size rfl fun cd A out s H E gd hr ss Φ hc hl => ⟨_, PSs.nox ((pss_one (ps_ret (pg_call (ok_is_within T) gd (hr.mono (by decide)) (by rfl) T.m_is_within T.f_is_within.kp (b_is_within T) .nil pass0 (pa_cons (pv 0) (pa_cons (pe_int) (pa_cons (pe_glob (v := .int 4096) (by rfl) T.c_GREATEST_SIZE ⟨_, rfl⟩) pa_nil))))))), ?_⟩
  obtain ⟨d, rfl, nd, q⟩ := hc
  walk_at "go"
  exact q _
def cRkBy : Ct := fun ss Φ => ∃ z : Nat, ss = [.sh (.int z)] ∧ 1 ≤ z ∧ ∀ ss', Φ (.d (.int (z.log2 : Nat))) ss'
theorem ok_rank_by (T : Txt K mg fs fd tk cp.x cp.c) : FnG P w K mg base CX0 1 (fs 4) (fd 4) P_rank_by (spC K cp 1 cRkBy) := by
  refine okD (nos := []) T.f_rank_by sc_rank_by rfl fun cd A out s H E gd hr ss Φ hc hl => ⟨_, PSs.nox ((pss_one (ps_ret (pe_op op_sub (pe_bits (pv 0)) (pe_int))))), ?_⟩
  obtain ⟨z, rfl, hz, k⟩ := hc
  walk_at "go"
  have e : ((Builtin.Int.intBits (z : Int) : Nat) : Int) - 1 = (z.log2 : Nat) := by rw [bits_log hz]; omega
  rw [e]
  exact k _
end
end Mine
set_option maxHeartbeats 400000
namespace Mine
open PySem PySem.Spec PyProof.Rows L2 GL DD
set_option hygiene false in
local macro_rules | `(tactic| walk_at "rz") => `(tactic| ((with_reducible refine' DS.raise1 rfl rfl ?rzcl ?_); (case rzcl => first | exact T.x_StripError | exact T.x_BadNumber | exact T.x_BadLayout)))
local macro_rules | `(tactic| walk_at "n") => `(tactic| (try dsimp only [sh_d, sh_n, upds, slots, List.length_cons, List.length_nil, of_d, of_n, of_o, at_d, cxOf, Cx.nox, Cx.wish, List.cons_append, List.nil_append, List.map_cons, List.map_nil, Int.reduceToNat, List.set, List.getElem?_cons_zero, List.getElem?_cons_succ, List.set_cons_zero, List.set_cons_succ]))
local macro_rules | `(tactic| walk_at "1") => `(tactic| first
  | (with_reducible refine' DS.seq ?_)
  | (with_reducible refine' DS.next ?_)
  | ((with_reducible refine' DS.ret (DE.move ?h ?q)); (case h => rfl))
  | (with_reducible refine' DS.ret ?_)
  | (with_reducible refine' DS.ite ?_)
  | (with_reducible refine' DS.drop ?_)
  | (with_reducible refine' DT.val ?_)
  | (with_reducible refine' DT.test ?_)
  | (with_reducible refine' DT.not ?_)
  | (with_reducible refine' DT.and ?_)
  | (with_reducible refine' DT.or ?_)
  | (with_reducible refine' DT.yes ?_)
  | (with_reducible refine' DE.and ?_)
  | (with_reducible refine' DE.or ?_)
  | (with_reducible refine' DE.not ?_)
  | (with_reducible refine' DE.ite ?_)
  | ((with_reducible refine' DE.var ?h ?q); (case h => rfl))
  | ((with_reducible refine' DE.own ?h ?q); (case h => rfl))
  | ((with_reducible refine' DE.c ?h ?q); (case h => constructor))
  | ((with_reducible refine' DE.isX ?c ?q); (case c => decide))
  | ((with_reducible refine' DE.isX2 ?c ?c2 ?q); (case c => decide); (case c2 => decide))
  | ((with_reducible refine' DE.isO ?h ?q); (case h => assumption))
  | (with_reducible refine' DE.strO ?_)
  | (with_reducible refine' DE.join ?_)
  | (with_reducible refine' DE.joined ?_)
  | (with_reducible refine' DJ.nil ?_)
  | (with_reducible refine' DJ.cons ?_)
  | (with_reducible refine' DE.tupOf ?_)
  | (with_reducible refine' DE.cb ?_)
  | (with_reducible refine' DE.call ?_)
  | ((with_reducible refine' DE.callY ?hE ?_); (case hE => rfl))
  | ((with_reducible refine' DE.makeY ?hE ?_); (case hE => rfl))
  | walk_at "rz"
  | (with_reducible refine' DE.make ?_)
  | (with_reducible refine' DE.fld ?_)
  | (with_reducible refine' DS.fldN ?_)
  | (with_reducible refine' DE.chain ?_)
  | (with_reducible refine' DE.neg ?_)
  | (with_reducible refine' DE.dnew ?_)
  | (with_reducible refine' DE.dget ?_)
  | (with_reducible refine' DE.get2 ?_)
  | (with_reducible refine' DE.din ?_)
  | ((with_reducible refine' DE.kwX ?hE ?_); (case hE => rfl))
  | (with_reducible refine' DE.kwC ?_)
  | (with_reducible refine' DE.opO ?_)
  | (with_reducible refine' DE.opT (r := rRepT _) ?_)
  | (with_reducible refine' DE.opT (r := rCatA _) ?_)
  | (with_reducible refine' DE.op ?_)
  | ((with_reducible refine' DI.seqV ?h ?h2 ?q); (case h => rfl); (case h2 => first | assumption | rfl))
  | (with_reducible refine' DI.list ?_)
  | (with_reducible refine' DI.tup ?_)
  | (with_reducible refine' DI.zip ?_)
  | (with_reducible refine' DI.enum ?_)
  | (with_reducible refine' DI.rng2 ?_)
  | (with_reducible refine' DI.rng1 ?_)
  | (with_reducible refine' DE.bits ?_)
  | (with_reducible refine' DE.tup ?_)
  | (with_reducible refine' DE.lst ?_)
  | (with_reducible refine' DAo.nil ?_)
  | (with_reducible refine' DAo.cons ?_)
  | (with_reducible refine' DS.setL ?_)
  | (with_reducible refine' DS.dput ?_)
  | (with_reducible refine' DS.asg ?_)
  | ((with_reducible refine' DG.name ?h ?q); (case h => first | exact free_of rfl | exact free_so rfl))
  | ((with_reducible refine' DG.tup ?h ?h2 ?q); (case h => rfl); (case h2 => rfl))
  | ((with_reducible refine' DGo.name ?h ?q); (case h => first | exact free_of rfl | exact free_so rfl))
  | ((with_reducible refine' DGo.tup ?h ?h2 ?q); (case h => rfl); (case h2 => rfl))
  | (with_reducible refine' DGos.cons ?_)
  | (with_reducible refine' DGos.nil ?_)
  | (with_reducible refine' DGs.cons ?_)
  | (with_reducible refine' DGs.nil ?_)
  | ((with_reducible refine' r2_int ?h ?q); (case h => constructor))
  | ((with_reducible refine' r2_isN ?h ?q); (case h => rfl))
  | ((with_reducible refine' r2_notN ?h ?q); (case h => rfl))
  | ((with_reducible refine' rl_lenV ?h ?q); (case h => rfl))
  | ((with_reducible refine' rl_len ?h ?q); (case h => rfl))
  | ((with_reducible refine' rl_int ?h ?q); (case h => rfl))
  | ((with_reducible refine' r2_eq ?h ?h2 ?h3 ?q); (case h => rfl); (case h2 => rfl); (case h3 => rfl))
  | ((with_reducible refine' r2_ne ?h ?h2 ?h3 ?q); (case h => rfl); (case h2 => rfl); (case h3 => rfl))
  | (with_reducible refine' DE.opT ?_)
  | (with_reducible refine' DE.cbT ?_)
  | ((with_reducible refine' r2_fdiv ?h ?q); (case h => exact ⟨by first | omega | decide, by first | omega | decide⟩))
  | ((with_reducible refine' r2_fdivW ?h ?q); (case h => first | exact cdivW2 (by first | omega | decide) (by first | omega | decide)))
  | ((with_reducible refine' r2_mulW ?h ?q); (case h => exact cmulW 64 64 (by first | omega | decide) (by first | omega | decide) (by decide) (by decide) (by decide)))
  | ((with_reducible refine' r2_shl ?h ?q); (case h => exact cshl (by first | omega | decide) (by first | omega | decide) (by first | omega | decide)))
  | ((with_reducible refine' r2_ixTx ?h ?h2 ?q); (case h => rfl); (case h2 => first | rfl | assumption))
  | ((with_reducible refine' r2_ixLx ?h ?h2 ?q); (case h => rfl); (case h2 => first | rfl | assumption))
  | ((with_reducible refine' r2_catTx ?h ?h2 ?h3 ?q); (case h => rfl); (case h2 => rfl); (case h3 => unfold sizeLine; first | omega | (simp; done) | (simp; omega)))
  | ((with_reducible refine' r2_cat ?h ?q); (case h => unfold sizeLine; first | omega | (simp; done) | (simp; omega)))
  | (with_reducible refine' DI.enumT ?_)
  | (with_reducible refine' DE.append ?_)
  | (with_reducible refine' DE.extend ?_)
  | (with_reducible refine' DS.aug ?_)
  | (with_reducible refine' DS.par ?_)
  | (with_reducible refine' DS.par3 ?_)
  | (with_reducible refine' DO.nil ?_)
  | (with_reducible refine' DO.one ?_)
  | (with_reducible refine' DE.slL ?_)
  | (with_reducible refine' DE.slT ?_)
  | ((with_reducible refine' r2_ix ?h ?h2 ?q); (case h => first | rfl | assumption); (case h2 => first | rfl | assumption))
  | (with_reducible refine' rl_abs ?_)
  | (with_reducible refine' rl_max2 ?_)
  | (with_reducible refine' rl_min2 ?_)
  | (with_reducible refine' r2_isBl ?_)
  | (with_reducible refine' r2_neInts ?_)
  | ((with_reducible refine' r2_mul ?h ?q); (case h => first | exact .inl ⟨by first | decide | omega, by first | decide | omega⟩ | exact .inr ⟨by first | decide | omega, by first | decide | omega⟩))
  | ((with_reducible refine' r2_mod ?h ?q); (case h => first | assumption | decide | omega))
  | ((with_reducible refine' r2_pow ?h ?q); (case h => exact ⟨by first | decide | omega, by first | decide | omega, by first | assumption | decide | omega⟩))
  | (with_reducible refine' rl_sumM ?_)
  | (with_reducible refine' rl_allM ?_)
  | (with_reducible refine' rl_anyM ?_)
  | (with_reducible refine' rl_sum ?_)
  | (with_reducible refine' rl_all ?_)
  | (with_reducible refine' rl_any ?_)
  | ((with_reducible refine' ifP ?h ?q); (case h => first | assumption | rfl | decide))
  | ((with_reducible refine' ifN ?h ?q); (case h => first | assumption | (intro z; cases z; done) | decide))
  | (with_reducible assumption)
  | (with_reducible intro (_ : List SV))
  | (refine ⟨_, rfl, rfl, List.nodup_nil, ?_⟩)
  | (refine ⟨_, rfl, rfl, (show List.Nodup _ by decide), ?_⟩)
  | (refine ⟨_, _, _, _, rfl, rfl, rfl, ?_⟩)
  | (refine ⟨_, rfl, ?_⟩)
  | (refine ⟨_, _, rfl, rfl, ?_⟩)
  | (refine ⟨_, _, _, rfl, rfl, ?_⟩)
  | (refine ⟨_, _, _, rfl, ?_⟩)
  | (refine ⟨_, _, rfl, ?_⟩)
  | (refine ⟨(show List.Nodup _ by decide), ?_⟩)
  | (refine ⟨⟨_, _, rfl⟩, ?_⟩)
  | (refine ⟨free_of rfl, ?_⟩)
  | (refine ⟨free_so rfl, ?_⟩)
  | (refine ⟨trivial, ?_⟩)
  | (refine ⟨rfl, ?_⟩)
  | (refine And.intro (by assumption) ?_)
  | (refine ⟨(show _ ≤ sizeLine by unfold sizeLine; first | decide | omega | (simp; done) | (simp; omega)), ?_⟩)
  | (refine ⟨(show _ < sizeLine by unfold sizeLine; first | omega | (simp; omega)), ?_⟩))
local macro_rules | `(tactic| walk_at "go") => `(tactic| (walk_at "n"; repeat (walk_at "1"; walk_at "n")))
local macro_rules | `(tactic| walk_at "goi") => `(tactic| (walk_at "go"; (try split); all_goals walk_at "go"))
local macro_rules | `(tactic| walk_at "own") => `(tactic| (refine' DS.seq (DS.own ?_); walk_at "go"))
local macro_rules | `(tactic| walk_at "gof") => `(tactic| (walk_at "n"; repeat (first | ((with_reducible refine' DE.frz ?h ?q); (case h => rfl)) | walk_at "1"); walk_at "n"))
local macro_rules | `(tactic| walk_at "pg1") => `(tactic| (intro P vs zs h1 h2; cases h1; cases h2 with | cons b1 h2 => cases h2; exact .cons b1 .nil))
local macro_rules | `(tactic| walk_at "pg2") => `(tactic| (intro P vs zs h1 h2; cases h1; cases h2 with | cons b1 h2 => (cases h2 with | cons b2 h2 => (cases h2; first | exact .cons b1 (.cons b2 .nil) | exact .cons b2 (.cons b1 .nil)))))
local macro_rules | `(tactic| walk_at "pg3") => `(tactic| (intro P vs zs h1 h2; cases h1; cases h2 with | cons b1 h2 => (cases h2 with | cons b2 h2 => (cases h2 with | cons b3 h2 => (cases h2; first | exact .cons b1 (.cons b2 (.cons b3 .nil)) | exact .cons b1 (.cons b3 (.cons b2 .nil)) | exact .cons b2 (.cons b1 (.cons b3 .nil)) | exact .cons b2 (.cons b3 (.cons b1 .nil)) | exact .cons b3 (.cons b1 (.cons b2 .nil)) | exact .cons b3 (.cons b2 (.cons b1 .nil)))))))

local macro_rules | `(tactic| walk_at "goE") => `(tactic| (walk_at "n"; repeat ((first | (with_reducible refine' DS.forE ?_) | ((with_reducible refine' DE.lcE ?_ ?h ?_); (case h => exact nown_of rfl)) | ((with_reducible refine' DE.lc2E ?_ ?h ?_); (case h => exact nown_of rfl)) | ((with_reducible refine' DE.dcE ?_ ?h ?_); (case h => exact nown_of rfl)) | walk_at "1"); walk_at "n")))
section
variable {P : Program} {w : World} {K : PySem.W.Frag} {mg : Str → Option Value} {base : Heap} {fs : Nat → Addr} {fd : Nat → FuncData} {tk : Nat → Tok} {cp : Cb}
/-- of no regions, as a tuple: an empty list; true -/
def cEl : Ct := fun ss Φ => ss = [.sh (.tup [])] ∧ ∀ ss', Φ (.n (.lst [])) ss'
def cEb : Ct := fun ss Φ => ss = [.sh (.tup [])] ∧ ∀ ss', Φ (.d (.bl true)) ss'
def cEl2 : Ct := fun ss Φ => ∃ q, ss = [.sh q, .sh (.tup [])] ∧ ∀ ss', Φ (.n (.lst [])) ss'
def cEb2 : Ct := fun ss Φ => ∃ q, ss = [.sh q, .sh (.tup [])] ∧ ∀ ss', Φ (.d (.bl true)) ss'
def cAsc : Ct := fun ss Φ => ss = [.sh (.lst [])] ∧ ∀ ss', Φ (.d (.bl true)) ss'
def cTake : Ct := fun ss Φ => ∃ q z, ss = [.sh q, .sh (.tup []), .sh z] ∧ ∀ ss', Φ (.d .non) ss'
def cLet : Ct := fun ss Φ => ∃ q p, ss = [.sh q, .sh p, .sh (.tup [])] ∧ ∀ ss', Φ (.d (.bl true)) ss'
theorem ok_things_of (T : Txt K mg fs fd tk cp.x cp.c) : FnG P w K mg base CX0 1 (fs 5) (fd 5) P_things_of (spC K cp 1 cEl) := by
  refine okD (nos := [.no, .no, .no, .no]) T.f_things_of sc_things_of rfl fun cd A out s H E gd hr ss Φ hc hl => ⟨_, PSs.nox ((pss_one (ps_ret (pe_lc2 (vs1 := []) (own := [("_", 1), ("payload", 2), ("room", 3), ("thing", 4)]) rfl sc_things_of.nd (pi_tup (pv 0)) (blkOk_by (own := [("_", 1), ("payload", 2), ("room", 3), ("thing", 4)]) (N := N_things_of) (sc := defScope s_things_of) (by decide +kernel)) (fun i hi => by simp at hi) (fun _ _ _ _ _ => pg_dead) (fun _ _ _ _ _ => pts_dead) (fun _ _ _ _ _ => pi_dead) (fun _ _ _ _ _ => pg_dead) (fun _ _ _ _ _ => pts_dead) (fun _ _ _ _ _ => pe_dead))))), ?_⟩
  obtain ⟨rfl, k⟩ := hc
  walk_at "goE"
  exact k _
theorem ok_files_of (T : Txt K mg fs fd tk cp.x cp.c) : FnG P w K mg base CX0 2 (fs 6) (fd 6) P_files_of (spC K cp 1 cEl) := by
  refine okD (nos := [.no, .no, .no]) T.f_files_of sc_files_of rfl fun cd A out s H E gd hr ss Φ hc hl => ⟨_, PSs.nox ((pss_one (ps_ret (pe_lc (own := [("word", 1), ("serial", 2), ("size", 3)]) rfl sc_files_of.nd (pi_list (pg_call (ok_things_of T) gd (hr.mono (by decide)) (by rfl) T.m_things_of T.f_things_of.kp (b_things_of T) .nil pass0 (pa_cons (pv 0) pa_nil))) (blkOk_by (own := [("word", 1), ("serial", 2), ("size", 3)]) (N := N_files_of) (sc := defScope s_files_of) (by decide +kernel)) (fun _ _ _ _ _ => pg_dead) (fun _ _ _ _ _ => pts_dead) (fun _ _ _ _ _ => pe_dead))))), ?_⟩
  obtain ⟨rfl, k⟩ := hc
  walk_at "goE"
  exact k _
theorem ok_placed (T : Txt K mg fs fd tk cp.x cp.c) : FnG P w K mg base CX0 1 (fs 7) (fd 7) P_placed (spC K cp 2 cEl2) := by
  refine okD (nos := [.no, .no, .no, .no, .no, .no]) T.f_placed sc_placed rfl fun cd A out s H E gd hr ss Φ hc hl => ⟨_, PSs.nox ((pss_cons (ps_set (i := 2) sc_placed.nd rfl (by first | exact Or.inl rfl | exact Or.inr rfl) (pe_lst pa_nil))
      (pss_cons (ps_set (i := 3) sc_placed.nd rfl (by first | exact Or.inl rfl | exact Or.inr rfl) (pe_int))
      (pss_cons (ps_for PassesOwn.never rfl (pi_tup (pv 1)) pg_dead pss_dead)
      (pss_one (ps_ret (pv 2))))))), ?_⟩
  obtain ⟨q, rfl, k⟩ := hc
  walk_at "own"
  walk_at "goE"
  exact k _
theorem ok_rank_taking (T : Txt K mg fs fd tk cp.x cp.c) : FnG P w K mg base CX0 2 (fs 8) (fd 8) P_rank_taking (spC K cp 3 cTake) := by
  refine okD (nos := [.no]) T.f_rank_taking sc_rank_taking rfl fun cd A out s H E gd hr ss Φ hc hl => ⟨_, PSs.nox ((pss_cons (ps_for PassesOwn.never rfl (pi_tup (pv 1)) pg_dead pss_dead)
      (pss_one (ps_ret (pe_non))))), ?_⟩
  obtain ⟨q, z, rfl, k⟩ := hc
  walk_at "goE"
  exact k _
theorem ok_ascend (T : Txt K mg fs fd tk cp.x cp.c) : FnG P w K mg base CX0 1 (fs 9) (fd 9) P_ascend (spC K cp 1 cAsc) := by
  refine okD (nos := [.no, .no]) T.f_ascend sc_ascend rfl fun cd A out s H E gd hr ss Φ hc hl => ⟨_, PSs.nox ((pss_one (ps_ret (pe_callB (cr_all rfl) (by rfl) T.z_all (by decide +kernel) (pa_cons (pe_lc (own := [("one", 1), ("other", 2)]) rfl sc_ascend.nd (pi_zip (by rfl) T.z_zip (pa_cons (pv 0) (pa_cons (pe_slice sl_list (pv 0) (po_some (pe_int)) po_none) pa_nil))) (blkOk_by (own := [("one", 1), ("other", 2)]) (N := N_ascend) (sc := defScope s_ascend) (by decide +kernel)) (fun _ _ _ _ _ => pg_dead) (fun _ _ _ _ _ => pts_dead) (fun _ _ _ _ _ => pe_dead)) pa_nil))))), ?_⟩
  obtain ⟨rfl, k⟩ := hc
  walk_at "goE"
  · rfl
  walk_at "goE"
  refine rl_all (ns := []) ?_
  walk_at "goE"
  exact k _
theorem ok_Uare_regions (T : Txt K mg fs fd tk cp.x cp.c) : FnG P w K mg base CX0 1 (fs 11) (fd 11) P_Uare_regions (spC K cp 2 cEb2) := by
  refine okD (nos := [.no]) T.f_Uare_regions sc_Uare_regions rfl fun cd A out s H E gd hr ss Φ hc hl => ⟨_, PSs.nox ((pss_one (ps_ret (pe_and (pe_callB call_isi (by rfl) T.z_isinstance (by decide +kernel) (pa_cons (pv 1) (pa_cons (pe_bltn (v := .ty "tuple") (u := .type "tuple") (by rfl) T.z_tuple (by decide +kernel) rfl) pa_nil))) (pe_one (pe_callB (cr_all rfl) (by rfl) T.z_all (by decide +kernel) (pa_cons (pe_lc (own := [("region", 2)]) rfl sc_Uare_regions.nd (pi_tup (pv 1)) (blkOk_by (own := [("region", 2)]) (N := N_Uare_regions) (sc := defScope s_Uare_regions) (by decide +kernel)) (fun _ _ _ _ _ => pg_dead) (fun _ _ _ _ _ => pts_dead) (fun _ _ _ _ _ => pe_dead)) pa_nil))))))), ?_⟩
  obtain ⟨q, rfl, k⟩ := hc
  walk_at "goE"
  refine rl_all (ns := []) ?_
  walk_at "goE"
  exact k _
theorem ok_Uranks_fit (T : Txt K mg fs fd tk cp.x cp.c) : FnG P w K mg base CX0 2 (fs 12) (fd 12) P_Uranks_fit (spC K cp 1 cEb) := by
  refine okD (nos := [.no, .no, .no, .no, .no, .no]) T.f_Uranks_fit sc_Uranks_fit rfl fun cd A out s H E gd hr ss Φ hc hl => ⟨_, PSs.nox ((pss_cons (ps_for PassesOwn.never rfl (pi_tup (pv 0)) pg_dead pss_dead)
      (pss_one (ps_ret (pg_call (ok_ascend T) gd (hr.mono (by decide)) (by rfl) T.m_ascend T.f_ascend.kp (b_ascend T) .nil pass0 (pa_cons (pe_lc (own := [("region", 6)]) rfl sc_Uranks_fit.nd (pi_tup (pv 0)) (blkOk_by (own := [("region", 6)]) (N := N_Uranks_fit) (sc := defScope s_Uranks_fit) (by decide +kernel)) (fun _ _ _ _ _ => pg_dead) (fun _ _ _ _ _ => pts_dead) (fun _ _ _ _ _ => pe_dead)) pa_nil)))))), ?_⟩
  obtain ⟨rfl, k⟩ := hc
  walk_at "goE"
  exact k _
theorem ok_Userials_fit (T : Txt K mg fs fd tk cp.x cp.c) : FnG P w K mg base CX0 2 (fs 13) (fd 13) P_Userials_fit (spC K cp 1 cEb) := by
  refine okD (nos := [.no, .no, .no, .no, .no, .no, .no, .no, .no]) T.f_Userials_fit sc_Userials_fit rfl fun cd A out s H E gd hr ss Φ hc hl => ⟨_, PSs.nox ((pss_cons (ps_set (i := 1) sc_Userials_fit.nd rfl (by first | exact Or.inl rfl | exact Or.inr rfl) (pg_call (ok_things_of T) gd (hr.mono (by decide)) (by rfl) T.m_things_of T.f_things_of.kp (b_things_of T) .nil pass0 (pa_cons (pv 0) pa_nil)))
      (pss_cons (ps_set (i := 2) sc_Userials_fit.nd rfl (by first | exact Or.inl rfl | exact Or.inr rfl) (pe_callB cr_sortedI (by rfl) T.z_sorted (by decide +kernel) (pa_cons (pe_lc (own := [("word", 3), ("serial", 4), ("size", 5)]) rfl sc_Userials_fit.nd (pi_list (pv 1)) (blkOk_by (own := [("word", 3), ("serial", 4), ("size", 5)]) (N := N_Userials_fit) (sc := defScope s_Userials_fit) (by decide +kernel)) (fun _ _ _ _ _ => pg_dead) (fun _ _ _ _ _ => pts_dead) (fun _ _ _ _ _ => pe_dead)) pa_nil)))
      (pss_cons (ps_set (i := 6) sc_Userials_fit.nd rfl (by first | exact Or.inl rfl | exact Or.inr rfl) (pe_callB cr_sortedI (by rfl) T.z_sorted (by decide +kernel) (pa_cons (pe_lc (own := [("word", 3), ("serial", 4), ("size", 5)]) rfl sc_Userials_fit.nd (pi_list (pv 1)) (blkOk_by (own := [("word", 3), ("serial", 4), ("size", 5)]) (N := N_Userials_fit) (sc := defScope s_Userials_fit) (by decide +kernel)) (fun _ _ _ _ _ => pg_dead) (fun _ _ _ _ _ => pts_dead) (fun _ _ _ _ _ => pe_dead)) pa_nil)))
      (pss_cons (ps_setLc (i := 7) (own := [("word", 3), ("serial", 4), ("_", 8)]) rfl sc_Userials_fit.nd rfl rfl (sw_true rfl rfl rfl (by decide +kernel)) (pi_list (pv 1)) (blkOk_by (own := [("word", 3), ("serial", 4), ("_", 8)]) (N := N_Userials_fit) (sc := defScope s_Userials_fit) (by decide +kernel)) (fun _ _ _ _ _ => pg_dead) (fun _ _ _ _ _ => pts_dead) (fun _ _ _ _ _ => pe_dead))
      (pss_cons (ps_if (PW.pt (pw_or (pt_cmpR (op_neX hr.units) (pv 2) (pv 6) (nomark _)) (pw_or1 (pt_cmpR op_ne (pe_lenSetI rfl (by rfl) T.z_len (by rfl) T.z_set (pv 7)) (pe_callB call_len_seq (by rfl) T.z_len (by decide +kernel) (pa_cons (pv 7) pa_nil)) (nomark _)))))
        (pss_one (ps_ret (pe_bl)))
        pss_nil)
      (pss_one (ps_ret (pe_callB (cr_all rfl) (by rfl) T.z_all (by decide +kernel) (pa_cons (pe_lc (own := [("_", 8), ("payload", 9)]) rfl sc_Userials_fit.nd (pi_tup (pv 0)) (blkOk_by (own := [("_", 8), ("payload", 9)]) (N := N_Userials_fit) (sc := defScope s_Userials_fit) (by decide +kernel)) (fun _ _ _ _ _ => pg_dead) (fun _ _ _ _ _ => pts_dead) (fun _ _ _ _ _ => pe_dead)) pa_nil)))))))))), ?_⟩
  obtain ⟨rfl, k⟩ := hc
  have perm0 : ∀ ns : List Int, ns.Perm [] → ns = [] := fun ns h => List.perm_nil.mp h
  walk_at "goE"
  refine rl_sorted (ns := []) fun ns hp _ => ?_
  rw [perm0 ns hp]
  walk_at "goE"
  refine rl_sorted (ns := []) fun ns hp _ => ?_
  rw [perm0 ns hp]
  walk_at "goE"
  refine r2_neInts (ns := []) ?_
  walk_at "goE"
  refine DE.lenSet ?_
  walk_at "goE"
  refine ⟨[], rfl, by decide, ?_⟩
  walk_at "goE"
  refine rl_all (ns := []) ?_
  walk_at "goE"
  exact k _
theorem ok_Urooms_hold (T : Txt K mg fs fd tk cp.x cp.c) : FnG P w K mg base CX0 1 (fs 14) (fd 14) P_Urooms_hold (spC K cp 2 cEb2) := by
  refine okD (nos := [.no]) T.f_Urooms_hold sc_Urooms_hold rfl fun cd A out s H E gd hr ss Φ hc hl => ⟨_, PSs.nox ((pss_one (ps_ret (pe_callB (cr_all rfl) (by rfl) T.z_all (by decide +kernel) (pa_cons (pe_lc (own := [("region", 2)]) rfl sc_Urooms_hold.nd (pi_tup (pv 1)) (blkOk_by (own := [("region", 2)]) (N := N_Urooms_hold) (sc := defScope s_Urooms_hold) (by decide +kernel)) (fun _ _ _ _ _ => pg_dead) (fun _ _ _ _ _ => pts_dead) (fun _ _ _ _ _ => pe_dead)) pa_nil))))), ?_⟩
  obtain ⟨q, rfl, k⟩ := hc
  walk_at "goE"
  refine rl_all (ns := []) ?_
  walk_at "goE"
  exact k _
theorem ok_Urooms_are_later (T : Txt K mg fs fd tk cp.x cp.c) : FnG P w K mg base CX0 2 (fs 15) (fd 15) P_Urooms_are_later (spC K cp 1 cEb) := by
  refine okD (nos := [.no, .no, .no, .no, .no, .no, .no, .no, .no]) T.f_Urooms_are_later sc_Urooms_are_later rfl fun cd A out s H E gd hr ss Φ hc hl => ⟨_, PSs.nox ((pss_cons (ps_setDc (i := 1) (own := [("rank", 2), ("payload", 3), ("_", 4)]) rfl sc_Urooms_are_later.nd rfl rfl (sw_trueD rfl rfl rfl (by decide +kernel)) (pi_tup (pv 0)) (blkOk_by (own := [("rank", 2), ("payload", 3), ("_", 4)]) (N := N_Urooms_are_later) (sc := defScope s_Urooms_are_later) (by decide +kernel)) (fun _ _ _ _ _ => pg_dead) (fun _ _ _ _ _ => pts_dead) (fun _ _ _ _ _ => pe_dead) (fun _ _ _ _ _ => pe_dead))
      (pss_cons (ps_for PassesOwn.never rfl (pi_list (pe_lc2 (vs1 := []) (own := [("_", 4), ("room", 8), ("thing", 9)]) rfl sc_Urooms_are_later.nd (pi_tup (pv 0)) (blkOk_by (own := [("_", 4), ("room", 8), ("thing", 9)]) (N := N_Urooms_are_later) (sc := defScope s_Urooms_are_later) (by decide +kernel)) (fun i hi => by simp at hi) (fun _ _ _ _ _ => pg_dead) (fun _ _ _ _ _ => pts_dead) (fun _ _ _ _ _ => pi_dead) (fun _ _ _ _ _ => pg_dead) (fun _ _ _ _ _ => pts_dead) (fun _ _ _ _ _ => pe_dead))) pg_dead pss_dead)
      (pss_one (ps_ret (pe_bl)))))), ?_⟩
  obtain ⟨rfl, k⟩ := hc
  walk_at "goE"
  exact k _
theorem ok_Uhave_passed (T : Txt K mg fs fd tk cp.x cp.c) : FnG P w K mg base CX0 2 (fs 16) (fd 16) P_Uhave_passed (spC K cp 2 cEb2) := by
  refine okD (nos := [.no, .no, .no, .no, .no, .no, .no, .no]) T.f_Uhave_passed sc_Uhave_passed rfl fun cd A out s H E gd hr ss Φ hc hl => ⟨_, PSs.nox ((pss_cons (ps_set (i := 2) sc_Uhave_passed.nd rfl (by first | exact Or.inl rfl | exact Or.inr rfl) (pe_dc (own := [("region", 3)]) rfl sc_Uhave_passed.nd (pi_tup (pv 1)) (blkOk_by (own := [("region", 3)]) (N := N_Uhave_passed) (sc := defScope s_Uhave_passed) (by decide +kernel)) (fun _ _ _ _ _ => pg_dead) (fun _ _ _ _ _ => pts_dead) (fun _ _ _ _ _ => pe_dead) (fun _ _ _ _ _ => pe_dead)))
      (pss_cons (ps_for PassesOwn.never rfl (pi_tup (pv 1)) pg_dead pss_dead)
      (pss_one (ps_ret (pe_bl)))))), ?_⟩
  obtain ⟨q, rfl, k⟩ := hc
  walk_at "goE"
  exact k _
theorem ok_are_let (T : Txt K mg fs fd tk cp.x cp.c) : FnG P w K mg base CX0 3 (fs 10) (fd 10) P_are_let (spC K cp 3 cLet) := by
  refine okD (nos := [.no]) T.f_are_let sc_are_let rfl fun cd A out s H E gd hr ss Φ hc hl => ⟨_, PSs.nox ((pss_cons (ps_if (pt_not (pt_val (pg_call (ok_Uare_regions T) gd (hr.mono (by decide)) (by rfl) T.m_Uare_regions T.f_Uare_regions.kp (b_Uare_regions T) .nil pass0 (pa_cons (pv 1) (pa_cons (pv 2) pa_nil)))))
        (pss_one (ps_ret (pe_bl)))
        pss_nil)
      (pss_cons (ps_set (i := 3) sc_are_let.nd rfl (by first | exact Or.inl rfl | exact Or.inr rfl) (pe_lst (pa_cons (pg_call (ok_Uranks_fit T) gd (hr.mono (by decide)) (by rfl) T.m_Uranks_fit T.f_Uranks_fit.kp (b_Uranks_fit T) .nil pass0 (pa_cons (pv 2) pa_nil)) (pa_cons (pg_call (ok_Userials_fit T) gd (hr.mono (by decide)) (by rfl) T.m_Userials_fit T.f_Userials_fit.kp (b_Userials_fit T) .nil pass0 (pa_cons (pv 2) pa_nil)) (pa_cons (pg_call (ok_Urooms_hold T) gd (hr.mono (by decide)) (by rfl) T.m_Urooms_hold T.f_Urooms_hold.kp (b_Urooms_hold T) .nil pass0 (pa_cons (pv 0) (pa_cons (pv 2) pa_nil))) (pa_cons (pg_call (ok_Urooms_are_later T) gd (hr.mono (by decide)) (by rfl) T.m_Urooms_are_later T.f_Urooms_are_later.kp (b_Urooms_are_later T) .nil pass0 (pa_cons (pv 2) pa_nil)) pa_nil))))))
      (pss_one (ps_ret (pe_and (pe_callB (cr_all rfl) (by rfl) T.z_all (by decide +kernel) (pa_cons (pv 3) pa_nil)) (pe_one (pg_call (ok_Uhave_passed T) gd (hr.mono (by decide)) (by rfl) T.m_Uhave_passed T.f_Uhave_passed.kp (b_Uhave_passed T) .nil pass0 (pa_cons (pv 0) (pa_cons (pv 2) pa_nil)))))))))), ?_⟩
  obtain ⟨q, p, rfl, k⟩ := hc
  walk_at "goE"
  refine rl_all (ns := [true, true, true, true]) ?_
  walk_at "goE"
  exact k _
def tx (n : Nat) : Str := Txt.join (Str.ofString " ") [Str.ofString "q", Str.ofString (toString (n : Int)), Str.ofString "puts", Str.ofString (toString (0 : Int))]
def cText : Ct := fun ss Φ => ∃ n : Nat, ss = [.sh (.int n), .sh (.int 0), .sh (.tup [])] ∧ n ≤ 64 ∧ ∀ ss', Φ (.d (.str (tx n))) ss'
theorem ok_text_of (T : Txt K mg fs fd tk cp.x cp.c) : FnG P w K mg base CX0 1 (fs 17) (fd 17) P_text_of (spC K cp 3 cText) := by
  refine okD (nos := [.no, .no, .no, .no]) T.f_text_of sc_text_of rfl fun cd A out s H E gd hr ss Φ hc hl => ⟨_, PSs.nox ((pss_cons (ps_set (i := 3) sc_text_of.nd rfl (by first | exact Or.inl rfl | exact Or.inr rfl) (pe_lst (pa_cons (pe_str) (pa_cons (pe_callTy call_str_int (by rfl) T.z_str (by decide +kernel) (pa_cons (pv 0) pa_nil)) (pa_cons (pe_str) (pa_cons (pe_callTy call_str_int (by rfl) T.z_str (by decide +kernel) (pa_cons (pv 1) pa_nil)) pa_nil))))))
      (pss_cons (ps_for PassesOwn.never rfl (pi_tup (pv 2)) pg_dead pss_dead)
      (pss_one (ps_ret (pe_join (pe_str) (pv 3))))))), ?_⟩
  obtain ⟨n, rfl, hn, k⟩ := hc
  have hb : (n : Int).natAbs.log2 < 1920 := by
    by_cases z : n = 0
    · subst z; decide
    · exact Nat.lt_trans ((Nat.log2_lt (by omega)).mpr (show (n : Int).natAbs < 2 ^ 7 by omega)) (by decide)
  walk_at "goE"
  refine rl_strI hb ?_
  walk_at "goE"
  refine rl_strI (by decide) ?_
  walk_at "goE"
  have hl : ∀ m : Fin 65, ((([Str.ofString "q", Str.ofString (toString ((m.val : Nat) : Int)), Str.ofString "puts", Str.ofString (toString (0 : Int))] : List Str).map fun x => x.length).sum + 4 * (Str.ofString " ").length ≤ 16777216) := by decide +kernel
  exact ⟨[Str.ofString "q", Str.ofString (toString (n : Int)), Str.ofString "puts", Str.ofString (toString (0 : Int))], rfl, hl ⟨n, by omega⟩, trivial, k _⟩
end
end Mine
set_option maxHeartbeats 400000
namespace Mine
open PySem PySem.Spec PyProof.Rows L2 GL DD
set_option hygiene false in
local macro_rules | `(tactic| walk_at "rz") => `(tactic| ((with_reducible refine' DS.raise1 rfl rfl ?rzcl ?_); (case rzcl => first | exact T.x_StripError | exact T.x_BadNumber | exact T.x_BadLayout)))
local macro_rules | `(tactic| walk_at "n") => `(tactic| (try dsimp only [sh_d, sh_n, upds, slots, List.length_cons, List.length_nil, of_d, of_n, of_o, at_d, cxOf, Cx.nox, Cx.wish, List.cons_append, List.nil_append, List.map_cons, List.map_nil, Int.reduceToNat, List.set, List.getElem?_cons_zero, List.getElem?_cons_succ, List.set_cons_zero, List.set_cons_succ]))
local macro_rules | `(tactic| walk_at "1") => `(tactic| first
  | (with_reducible refine' DS.seq ?_)
  | (with_reducible refine' DS.next ?_)
  | ((with_reducible refine' DS.ret (DE.move ?h ?q)); (case h => rfl))
  | (with_reducible refine' DS.ret ?_)
  | (with_reducible refine' DS.ite ?_)
  | (with_reducible refine' DS.drop ?_)
  | (with_reducible refine' DT.val ?_)
  | (with_reducible refine' DT.test ?_)
  | (with_reducible refine' DT.not ?_)
  | (with_reducible refine' DT.and ?_)
  | (with_reducible refine' DT.or ?_)
  | (with_reducible refine' DT.yes ?_)
  | (with_reducible refine' DE.and ?_)
  | (with_reducible refine' DE.or ?_)
  | (with_reducible refine' DE.not ?_)
  | (with_reducible refine' DE.ite ?_)
  | ((with_reducible refine' DE.var ?h ?q); (case h => rfl))
  | ((with_reducible refine' DE.own ?h ?q); (case h => rfl))
  | ((with_reducible refine' DE.c ?h ?q); (case h => constructor))
  | ((with_reducible refine' DE.isX ?c ?q); (case c => decide))
  | ((with_reducible refine' DE.isX2 ?c ?c2 ?q); (case c => decide); (case c2 => decide))
  | ((with_reducible refine' DE.isO ?h ?q); (case h => assumption))
  | (with_reducible refine' DE.strO ?_)
  | (with_reducible refine' DE.join ?_)
  | (with_reducible refine' DE.joined ?_)
  | (with_reducible refine' DJ.nil ?_)
  | (with_reducible refine' DJ.cons ?_)
  | (with_reducible refine' DE.tupOf ?_)
  | (with_reducible refine' DE.cb ?_)
  | (with_reducible refine' DE.call ?_)
  | ((with_reducible refine' DE.callY ?hE ?_); (case hE => rfl))
  | ((with_reducible refine' DE.makeY ?hE ?_); (case hE => rfl))
  | walk_at "rz"
  | (with_reducible refine' DE.make ?_)
  | (with_reducible refine' DE.fld ?_)
  | (with_reducible refine' DS.fldN ?_)
  | (with_reducible refine' DE.chain ?_)
  | (with_reducible refine' DE.neg ?_)
  | (with_reducible refine' DE.dnew ?_)
  | (with_reducible refine' DE.dget ?_)
  | (with_reducible refine' DE.get2 ?_)
  | (with_reducible refine' DE.din ?_)
  | ((with_reducible refine' DE.kwX ?hE ?_); (case hE => rfl))
  | (with_reducible refine' DE.kwC ?_)
  | (with_reducible refine' DE.opO ?_)
  | (with_reducible refine' DE.opT (r := rRepT _) ?_)
  | (with_reducible refine' DE.opT (r := rCatA _) ?_)
  | (with_reducible refine' DE.op ?_)
  | ((with_reducible refine' DI.seqV ?h ?h2 ?q); (case h => rfl); (case h2 => first | assumption | rfl))
  | (with_reducible refine' DI.list ?_)
  | (with_reducible refine' DI.tup ?_)
  | (with_reducible refine' DI.zip ?_)
  | (with_reducible refine' DI.enum ?_)
  | (with_reducible refine' DI.rng2 ?_)
  | (with_reducible refine' DI.rng1 ?_)
  | (with_reducible refine' DE.bits ?_)
  | (with_reducible refine' DE.tup ?_)
  | (with_reducible refine' DE.lst ?_)
  | (with_reducible refine' DAo.nil ?_)
  | (with_reducible refine' DAo.cons ?_)
  | (with_reducible refine' DS.setL ?_)
  | (with_reducible refine' DS.dput ?_)
  | (with_reducible refine' DS.asg ?_)
  | ((with_reducible refine' DG.name ?h ?q); (case h => first | exact free_of rfl | exact free_so rfl))
  | ((with_reducible refine' DG.tup ?h ?h2 ?q); (case h => rfl); (case h2 => rfl))
  | ((with_reducible refine' DGo.name ?h ?q); (case h => first | exact free_of rfl | exact free_so rfl))
  | ((with_reducible refine' DGo.tup ?h ?h2 ?q); (case h => rfl); (case h2 => rfl))
  | (with_reducible refine' DGos.cons ?_)
  | (with_reducible refine' DGos.nil ?_)
  | (with_reducible refine' DGs.cons ?_)
  | (with_reducible refine' DGs.nil ?_)
  | ((with_reducible refine' r2_int ?h ?q); (case h => constructor))
  | ((with_reducible refine' r2_isN ?h ?q); (case h => rfl))
  | ((with_reducible refine' r2_notN ?h ?q); (case h => rfl))
  | ((with_reducible refine' rl_lenV ?h ?q); (case h => rfl))
  | ((with_reducible refine' rl_len ?h ?q); (case h => rfl))
  | ((with_reducible refine' rl_int ?h ?q); (case h => rfl))
  | ((with_reducible refine' r2_eq ?h ?h2 ?h3 ?q); (case h => rfl); (case h2 => rfl); (case h3 => rfl))
  | ((with_reducible refine' r2_ne ?h ?h2 ?h3 ?q); (case h => rfl); (case h2 => rfl); (case h3 => rfl))
  | (with_reducible refine' DE.opT ?_)
  | (with_reducible refine' DE.cbT ?_)
  | ((with_reducible refine' r2_fdiv ?h ?q); (case h => exact ⟨by first | omega | decide, by first | omega | decide⟩))
  | ((with_reducible refine' r2_fdivW ?h ?q); (case h => first | exact cdivW2 (by first | omega | decide) (by first | omega | decide)))
  | ((with_reducible refine' r2_mulW ?h ?q); (case h => exact cmulW 64 64 (by first | omega | decide) (by first | omega | decide) (by decide) (by decide) (by decide)))
  | ((with_reducible refine' r2_shl ?h ?q); (case h => exact cshl (by first | omega | decide) (by first | omega | decide) (by first | omega | decide)))
  | ((with_reducible refine' r2_ixTx ?h ?h2 ?q); (case h => rfl); (case h2 => first | rfl | assumption))
  | ((with_reducible refine' r2_ixLx ?h ?h2 ?q); (case h => rfl); (case h2 => first | rfl | assumption))
  | ((with_reducible refine' r2_catTx ?h ?h2 ?h3 ?q); (case h => rfl); (case h2 => rfl); (case h3 => unfold sizeLine; first | omega | (simp; done) | (simp; omega)))
  | ((with_reducible refine' r2_cat ?h ?q); (case h => unfold sizeLine; first | omega | (simp; done) | (simp; omega)))
  | (with_reducible refine' DI.enumT ?_)
  | (with_reducible refine' DE.append ?_)
  | (with_reducible refine' DE.extend ?_)
  | (with_reducible refine' DS.aug ?_)
  | (with_reducible refine' DS.par ?_)
  | (with_reducible refine' DS.par3 ?_)
  | (with_reducible refine' DO.nil ?_)
  | (with_reducible refine' DO.one ?_)
  | (with_reducible refine' DE.slL ?_)
  | (with_reducible refine' DE.slT ?_)
  | ((with_reducible refine' r2_ix ?h ?h2 ?q); (case h => first | rfl | assumption); (case h2 => first | rfl | assumption))
  | (with_reducible refine' rl_abs ?_)
  | (with_reducible refine' rl_max2 ?_)
  | (with_reducible refine' rl_min2 ?_)
  | (with_reducible refine' r2_isBl ?_)
  | (with_reducible refine' r2_neInts ?_)
  | ((with_reducible refine' r2_mul ?h ?q); (case h => first | exact .inl ⟨by first | decide | omega, by first | decide | omega⟩ | exact .inr ⟨by first | decide | omega, by first | decide | omega⟩))
  | ((with_reducible refine' r2_mod ?h ?q); (case h => first | assumption | decide | omega))
  | ((with_reducible refine' r2_pow ?h ?q); (case h => exact ⟨by first | decide | omega, by first | decide | omega, by first | assumption | decide | omega⟩))
  | (with_reducible refine' rl_sumM ?_)
  | (with_reducible refine' rl_allM ?_)
  | (with_reducible refine' rl_anyM ?_)
  | (with_reducible refine' rl_sum ?_)
  | (with_reducible refine' rl_all ?_)
  | (with_reducible refine' rl_any ?_)
  | ((with_reducible refine' ifP ?h ?q); (case h => first | assumption | rfl | decide))
  | ((with_reducible refine' ifN ?h ?q); (case h => first | assumption | (intro z; cases z; done) | decide))
  | (with_reducible assumption)
  | (with_reducible intro (_ : List SV))
  | (refine ⟨_, rfl, rfl, List.nodup_nil, ?_⟩)
  | (refine ⟨_, rfl, rfl, (show List.Nodup _ by decide), ?_⟩)
  | (refine ⟨_, _, _, _, rfl, rfl, rfl, ?_⟩)
  | (refine ⟨_, rfl, ?_⟩)
  | (refine ⟨_, _, rfl, rfl, ?_⟩)
  | (refine ⟨_, _, _, rfl, rfl, ?_⟩)
  | (refine ⟨_, _, _, rfl, ?_⟩)
  | (refine ⟨_, _, rfl, ?_⟩)
  | (refine ⟨(show List.Nodup _ by decide), ?_⟩)
  | (refine ⟨⟨_, _, rfl⟩, ?_⟩)
  | (refine ⟨free_of rfl, ?_⟩)
  | (refine ⟨free_so rfl, ?_⟩)
  | (refine ⟨trivial, ?_⟩)
  | (refine ⟨rfl, ?_⟩)
  | (refine And.intro (by assumption) ?_)
  | (refine ⟨(show _ ≤ sizeLine by unfold sizeLine; first | decide | omega | (simp; done) | (simp; omega)), ?_⟩)
  | (refine ⟨(show _ < sizeLine by unfold sizeLine; first | omega | (simp; omega)), ?_⟩))
local macro_rules | `(tactic| walk_at "go") => `(tactic| (walk_at "n"; repeat (walk_at "1"; walk_at "n")))
local macro_rules | `(tactic| walk_at "goi") => `(tactic| (walk_at "go"; (try split); all_goals walk_at "go"))
local macro_rules | `(tactic| walk_at "own") => `(tactic| (refine' DS.seq (DS.own ?_); walk_at "go"))
local macro_rules | `(tactic| walk_at "gof") => `(tactic| (walk_at "n"; repeat (first | ((with_reducible refine' DE.frz ?h ?q); (case h => rfl)) | walk_at "1"); walk_at "n"))
local macro_rules | `(tactic| walk_at "pg1") => `(tactic| (intro P vs zs h1 h2; cases h1; cases h2 with | cons b1 h2 => cases h2; exact .cons b1 .nil))
local macro_rules | `(tactic| walk_at "pg2") => `(tactic| (intro P vs zs h1 h2; cases h1; cases h2 with | cons b1 h2 => (cases h2 with | cons b2 h2 => (cases h2; first | exact .cons b1 (.cons b2 .nil) | exact .cons b2 (.cons b1 .nil)))))
local macro_rules | `(tactic| walk_at "pg3") => `(tactic| (intro P vs zs h1 h2; cases h1; cases h2 with | cons b1 h2 => (cases h2 with | cons b2 h2 => (cases h2 with | cons b3 h2 => (cases h2; first | exact .cons b1 (.cons b2 (.cons b3 .nil)) | exact .cons b1 (.cons b3 (.cons b2 .nil)) | exact .cons b2 (.cons b1 (.cons b3 .nil)) | exact .cons b2 (.cons b3 (.cons b1 .nil)) | exact .cons b3 (.cons b1 (.cons b2 .nil)) | exact .cons b3 (.cons b2 (.cons b1 .nil)))))))

local macro_rules | `(tactic| walk_at "goE") => `(tactic| (walk_at "n"; repeat ((first | (with_reducible refine' DS.forE ?_) | ((with_reducible refine' DE.lcE ?_ ?h ?_); (case h => exact nown_of rfl)) | ((with_reducible refine' DE.lc2E ?_ ?h ?_); (case h => exact nown_of rfl)) | ((with_reducible refine' DE.dcE ?_ ?h ?_); (case h => exact nown_of rfl)) | walk_at "1"); walk_at "n")))
section
variable {P : Program} {w : World} {K : PySem.W.Frag} {mg : Str → Option Value} {base : Heap} {fs : Nat → Addr} {fd : Nat → FuncData} {tk : Nat → Tok} {cp : Cb}
def qD (d : D) : Bool := withinD d (.int 2) (.int 64)
def sD (d : D) : Bool := withinD d (.int 1) (.int 4096)
theorem qD_of {d : D} (h : qD d = true) : ∃ q : Nat, d = .int q ∧ 2 ≤ q ∧ q ≤ 64 := by
  cases d with
  | int i =>
    simp only [qD, withinD, Bool.and_eq_true, decide_eq_true_eq] at h
    exact ⟨i.toNat, by rw [Int.toNat_of_nonneg (by omega)], by omega, by omega⟩
  | _ => cases h
theorem sD_of {d : D} (h : sD d = true) : ∃ q : Nat, d = .int q ∧ 1 ≤ q ∧ q ≤ 4096 := by
  cases d with
  | int i =>
    simp only [sD, withinD, Bool.and_eq_true, decide_eq_true_eq] at h
    exact ⟨i.toNat, by rw [Int.toNat_of_nonneg (by omega)], by omega, by omega⟩
  | _ => cases h
theorem qd_is {q : Nat} (q0 : 2 ≤ q) (q1 : q ≤ 64) : qD (.int (q : Int)) = true := by simp only [qD, withinD, Bool.and_eq_true, decide_eq_true_eq]; omega
theorem sd_is {q : Nat} (q0 : 1 ≤ q) (q1 : q ≤ 4096) : sD (.int (q : Int)) = true := by simp only [sD, withinD, Bool.and_eq_true, decide_eq_true_eq]; omega
def cChkQ : CtX := fun ss Φ Ψ => ∃ d, ss = [.sh d] ∧ Nob d ∧ (qD d = true → ∀ ss', Φ (.d .non) ss') ∧ (qD d = false → ∀ ss', Ψ 1 ["part"] [.str "q"] ss')
def cChkS : CtX := fun ss Φ Ψ => ∃ d, ss = [.sh d] ∧ Nob d ∧ (sD d = true → ∀ ss', Φ (.d .non) ss') ∧ (sD d = false → ∀ ss', Ψ 1 ["part"] [.str "size"] ss')
theorem ok_check_q (T : Txt K mg fs fd tk cp.x cp.c) : FnG P w K mg base (L2.CX P w) 4 (fs 20) (fd 20) P_check_q (spX K cp 1 cChkQ) := by
  refine okX (nos := []) T.f_check_q sc_check_q rfl fun cd A out s H E gd hr ss Φ Ψ hc hl => ⟨_, ((pss_one (ps_if (pt_not (pt_val (pg_call (ok_is_q T) gd (hr.mono (by decide)) (by rfl) T.m_is_q T.f_is_q.kp (b_is_q T) .nil pass0 (pa_cons (pv 0) pa_nil))))
        (pss_one (ps_raiseD rfl (takes_of rfl rfl rfl rfl) rfl (pe_newX T.x_BadNumber T.i_BadNumber T.t_BadNumber (ok_BadNumber_init T) gd (hr.mono (by decide)) pass0 inits1 (b_BadNumber_init T) (by rfl) T.m_BadNumber (pa_cons (pe_str) pa_nil))))
        pss_nil))), ?_⟩
  obtain ⟨d, rfl, nd, q1, q2⟩ := hc
  walk_at "go"
  cases c : withinD d (.int 2) (.int 64)
  · walk_at "go"
    exact q2 c _
  · walk_at "go"
    exact q1 c _
theorem ok_check_size (T : Txt K mg fs fd tk cp.x cp.c) : FnG P w K mg base (L2.CX P w) 4 (fs 21) (fd 21) P_check_size (spX K cp 1 cChkS) := by
  refine okX (nos := []) T.f_check_size sc_check_size rfl fun cd A out s H E gd hr ss Φ Ψ hc hl => ⟨_, ((pss_one (ps_if (pt_not (pt_val (pg_call (ok_is_size T) gd (hr.mono (by decide)) (by rfl) T.m_is_size T.f_is_size.kp (b_is_size T) .nil pass0 (pa_cons (pv 0) pa_nil))))
        (pss_one (ps_raiseD rfl (takes_of rfl rfl rfl rfl) rfl (pe_newX T.x_BadNumber T.i_BadNumber T.t_BadNumber (ok_BadNumber_init T) gd (hr.mono (by decide)) pass0 inits1 (b_BadNumber_init T) (by rfl) T.m_BadNumber (pa_cons (pe_str) pa_nil))))
        pss_nil))), ?_⟩
  obtain ⟨d, rfl, nd, q1, q2⟩ := hc
  walk_at "go"
  cases c : withinD d (.int 1) (.int 4096)
  · walk_at "go"
    exact q2 c _
  · walk_at "go"
    exact q1 c _
def RankK (d : D) (Φ : AV → List SV → Prop) (Ψ : Nat → List Str → List D → List SV → Prop) : Prop := Keep (Nob d ∧ (∀ n : Nat, d = .int n → 1 ≤ n → n ≤ 4096 → ∀ ss', Φ (.d (.int (n.log2 : Nat))) ss') ∧ (sD d = false → ∀ ss', Ψ 1 ["part"] [.str "size"] ss'))
def cRank : CtX := fun ss Φ Ψ => ∃ d, ss = [.sh d] ∧ RankK d Φ Ψ
theorem ok_rank_of (T : Txt K mg fs fd tk cp.x cp.c) : FnG P w K mg base (L2.CX P w) 5 (fs 19) (fd 19) P_rank_of (spX K cp 1 cRank) := by
  refine okX (nos := []) T.f_rank_of sc_rank_of rfl fun cd A out s H E gd hr ss Φ Ψ hc hl => ⟨_, ((pss_cons (ps_expr (pg_call (ok_check_size T) gd (hr.mono (by decide)) (by rfl) T.m_check_size T.f_check_size.kp (b_check_size T) .nil (passes_call (takes_of rfl rfl rfl rfl) fun _ _ _ _ h => h) (pa_cons (pv 0) pa_nil)))
      (pss_one (ps_ret (pg_call (ok_rank_by T) gd (hr.mono (by decide)) (by rfl) T.m_rank_by T.f_rank_by.kp (b_rank_by T) .nil pass0 (pa_cons (pv 0) pa_nil)))))), ?_⟩
  obtain ⟨d, rfl, kp⟩ := hc
  obtain ⟨nd, q1, q2⟩ := kp.out
  walk_at "go"
  refine ⟨fun hs ss' => ?_, fun hs ss' => q2 hs _⟩
  obtain ⟨n, rfl, n1, n2⟩ := sD_of hs
  walk_at "go"
  exact q1 n rfl n1 n2 _
theorem ok_fixedN (T : Txt K mg fs fd tk cp.x cp.c) : ∀ n : Nat, FnG P w K mg base CX0 (n + 1) (fs 18) (fd 18) P_fixed (spC K cp 1 (cFix n))
  | 0 => by
    refine okD (nos := [.no]) T.f_fixed sc_fixed rfl fun cd A out s H E gd hr ss Φ hc hl => ⟨_, PSs.nox ((pss_cons (ps_if (pt_val (pe_callB call_isiT (by rfl) T.z_isinstance (by decide +kernel) (pa_cons (pv 0) (pa_cons (pe_tup (pa_cons (pe_bltn (v := .ty "list") (u := .type "list") (by rfl) T.z_list (by decide +kernel) rfl) (pa_cons (pe_bltn (v := .ty "tuple") (u := .type "tuple") (by rfl) T.z_tuple (by decide +kernel) rfl) pa_nil))) pa_nil))))
        (pss_one ps_never)
        pss_nil)
      (pss_one (ps_ret (pv 0))))), ?_⟩
    obtain ⟨d, rfl, ⟨hs, nd⟩, k⟩ := hc
    cases d <;> first | (cases hs; done) | exact nd.elim | (walk_at "go"; exact k _)
  | n + 1 => by
    have ih := ok_fixedN T n
    refine okD (nos := [.no]) T.f_fixed sc_fixed rfl fun cd A out s H E gd hr ss Φ hc hl => ⟨_, PSs.nox ((pss_cons (ps_if (pt_val (pe_callB call_isiT (by rfl) T.z_isinstance (by decide +kernel) (pa_cons (pv 0) (pa_cons (pe_tup (pa_cons (pe_bltn (v := .ty "list") (u := .type "list") (by rfl) T.z_list (by decide +kernel) rfl) (pa_cons (pe_bltn (v := .ty "tuple") (u := .type "tuple") (by rfl) T.z_tuple (by decide +kernel) rfl) pa_nil))) pa_nil))))
        (pss_one (ps_ret (pe_callTy call_tuple_of (by rfl) T.z_tuple (by decide +kernel) (pa_cons (pe_lc (own := [("item", 1)]) (g := gName 1) (tt := tYes) rfl sc_fixed.nd (pi_seq (pv 0) (pv 0)) (blkOk_by (own := [("item", 1)]) (N := N_fixed) (sc := defScope s_fixed) (by decide +kernel)) (fun _ _ _ _ _ => (pg_name (i := 1) sc_fixed.nd rfl (Or.inl rfl))) (fun _ _ _ _ _ => pts_nil) (fun _ _ _ _ _ => pg_call ih gd hr (by rfl) T.m_fixed T.f_fixed.kp (b_fixed T) .nil pass0 (pa_cons (pv 1) pa_nil))) pa_nil))))
        pss_nil)
      (pss_one (ps_ret (pv 0))))), ?_⟩
    obtain ⟨d, rfl, ok, k⟩ := hc
    cases hs : seqD d with
    | none =>
      unfold okF at ok
      rw [hs] at ok
      have e : fixN (n + 1) d = d := by simp only [fixN, hs]
      rw [e] at k
      have nd : Nob d := ok
      cases d <;> first | (cases hs; done) | exact nd.elim | (walk_at "go"; exact k _)
    | some xs =>
      unfold okF at ok
      rw [hs] at ok
      obtain ⟨hl, hx⟩ := ok
      have e : fixN (n + 1) d = .tup (xs.map (fixN n)) := by simp only [fixN, hs]
      rw [e] at k
      have nd : Nob d := by cases d <;> first | trivial | cases hs
      have tl : (isT (tyD d) "list" || isT (tyD d) "tuple") = true := by cases d <;> first | (cases hs; done) | rfl
      walk_at "go"
      refine' DE.lcM xs id (fun x => fixN n x) (by omega) ?i1 (nown_of rfl) ?i2 ?i3 ?i4
      case i1 => exact DI.seqV rfl hs ⟨rfl, (List.map_id _).symm⟩
      case i2 =>
        intro x hx2
        have ox := hx x hx2
        walk_at "go"
        first | exact nown_of rfl | exact ⟨rfl, nown_of rfl⟩ | exact ⟨rfl, rfl, nown_of rfl⟩
      case i3 => rfl
      case i4 =>
        walk_at "go"
        exact k _
theorem ok_fixed (T : Txt K mg fs fd tk cp.x cp.c) : FnG P w K mg base CX0 2 (fs 18) (fd 18) P_fixed (spC K cp 1 (cFix 1)) := ok_fixedN T 1
/-- the layout of n without regions -/
def lyO (n : Nat) : D := .ob 0 ["q", "puts", "regions"] [.int n, .int 0, .tup []]
def cInit : CtX := fun ss Φ Ψ => ∃ d, ss = [.ow true (.ob 0 [] []), .sh d, .sh (.int 0), .sh (.tup [])] ∧ Nob d ∧ (∀ n : Nat, d = .int n → 2 ≤ n → n ≤ 64 → ∀ s1, Φ (.d .non) (.ow true (lyO n) :: s1)) ∧ (qD d = false → ∀ ss', Ψ 1 ["part"] [.str "q"] ss')
theorem ok_Layout_init (T : Txt K mg fs fd tk cp.x cp.c) : FnG P w K mg base (L2.CX P w) 5 (fs 22) (fd 22) P_Layout_init (spX K cp 4 cInit) := by
  refine okX (nos := [.no]) T.f_Layout_init sc_Layout_init rfl fun cd A out s H E gd hr ss Φ Ψ hc hl => ⟨_, ((pss_cons (ps_expr (pg_call (ok_check_q T) gd (hr.mono (by decide)) (by rfl) T.m_check_q T.f_check_q.kp (b_check_q T) .nil (passes_call (takes_of rfl rfl rfl rfl) fun _ _ _ _ h => h) (pa_cons (pv 1) pa_nil)))
      (pss_cons (ps_if (pt_not (pt_val (pg_call (ok_is_within T) gd (hr.mono (by decide)) (by rfl) T.m_is_within T.f_is_within.kp (b_is_within T) .nil pass0 (pa_cons (pv 2) (pa_cons (pe_int) (pa_cons (pe_non) pa_nil))))))
        (pss_one (ps_raiseD rfl (takes_of rfl rfl rfl rfl) rfl (pe_newX T.x_BadNumber T.i_BadNumber T.t_BadNumber (ok_BadNumber_init T) gd (hr.mono (by decide)) pass0 inits1 (b_BadNumber_init T) (by rfl) T.m_BadNumber (pa_cons (pe_str) pa_nil))))
        pss_nil)
      (pss_cons (ps_set (i := 4) sc_Layout_init.nd rfl (by first | exact Or.inl rfl | exact Or.inr rfl) (pg_call (ok_fixed T) gd (hr.mono (by decide)) (by rfl) T.m_fixed T.f_fixed.kp (b_fixed T) .nil pass0 (pa_cons (pv 3) pa_nil)))
      (pss_cons (ps_if (pt_not (pt_val (pg_call (ok_are_let T) gd (hr.mono (by decide)) (by rfl) T.m_are_let T.f_are_let.kp (b_are_let T) .nil pass0 (pa_cons (pv 1) (pa_cons (pv 2) (pa_cons (pv 4) pa_nil))))))
        (pss_one (ps_raiseD rfl (takes_of rfl rfl rfl rfl) rfl (pe_newX T.x_BadLayout T.i_BadLayout T.t_BadLayout (ok_BadLayout_init T) gd (hr.mono (by decide)) pass0 inits1 (b_BadLayout_init T) (by rfl) T.m_BadLayout (pa_cons (pe_str) pa_nil))))
        pss_nil)
      (pss_cons (ps_fld (pv 0) (pv 1) rfl)
      (pss_cons (ps_fld (pv 0) (pv 2) rfl)
      (pss_one (ps_fld (pv 0) (pv 4) rfl))))))))), ?_⟩
  obtain ⟨d, rfl, nd, q1, q2⟩ := hc
  walk_at "go"
  refine ⟨fun hq ss' => ?_, fun hq ss' => q2 hq _⟩
  obtain ⟨n, rfl, n1, n2⟩ := qD_of hq
  have of : okF 1 (.tup []) := ⟨by decide, by simp⟩
  have ef : fixN 1 (.tup []) = .tup [] := rfl
  walk_at "go"
  rw [ef]
  walk_at "go"
  refine ⟨_, _, _, _, rfl, T.c_Layout, T.n_Layout_q, by simp, by decide, ?_⟩
  walk_at "go"
  refine ⟨_, _, _, _, rfl, T.c_Layout, T.n_Layout_puts, by decide, by decide, ?_⟩
  walk_at "go"
  refine ⟨_, _, _, _, rfl, T.c_Layout, T.n_Layout_regions, by decide, by decide, ?_⟩
  walk_at "go"
  exact q1 n rfl n1 n2 _
def EmptyK (d : D) (Φ : AV → List SV → Prop) (Ψ : Nat → List Str → List D → List SV → Prop) : Prop := Keep (Nob d ∧ (∀ n : Nat, d = .int n → 2 ≤ n → n ≤ 64 → ∀ ss', Φ (.n (lyO n)) ss') ∧ (qD d = false → ∀ ss', Ψ 1 ["part"] [.str "q"] ss'))
def cEmpty : CtX := fun ss Φ Ψ => ∃ d, ss = [.sh d] ∧ EmptyK d Φ Ψ
theorem ok_empty (T : Txt K mg fs fd tk cp.x cp.c) : FnG P w K mg base (L2.CX P w) 7 (fs 25) (fd 25) P_empty (spX K cp 1 cEmpty) := by
  refine okX (nos := []) T.f_empty sc_empty rfl fun cd A out s H E gd hr ss Φ Ψ hc hl => ⟨_, ((pss_one (ps_ret (pe_makeG T.k_Layout (ok_Layout_init T) gd (hr.mono (by decide)) (by rfl) T.m_Layout (b_Layout_init T) .nil (passes_call (takes_of rfl rfl rfl rfl) fun _ _ _ _ h => h) (pa_cons (pv 0) (pa_cons (pe_int) (pa_cons (pe_tup pa_nil) pa_nil))))))), ?_⟩
  obtain ⟨d, rfl, kp⟩ := hc
  obtain ⟨nd, q1, q2⟩ := kp.out
  walk_at "go"
  refine ⟨fun n e n1 n2 s1 => ⟨rfl, fun ob hob => ?_⟩, fun hq ss' => q2 hq _⟩
  cases hob
  exact ⟨trivial, q1 n e n1 n2 _⟩
def cEqL : Ct := fun ss Φ => ∃ n m : Nat, ss = [.sh (lyO n), .sh (lyO m)] ∧ ∀ ss', Φ (.d (.bl (decide (n = m)))) ss'
theorem ok_Layout_eq (T : Txt K mg fs fd tk cp.x cp.c) : FnG P w K mg base CX0 1 (fs 23) (fd 23) P_Layout_eq (spC K cp 2 cEqL) := by
  refine okD (nos := []) T.f_Layout_eq sc_Layout_eq rfl fun cd A out s H E gd hr ss Φ hc hl => ⟨_, PSs.nox ((pss_one (ps_ret (pe_and (pe_callB call_isi (by rfl) T.z_isinstance (by decide +kernel) (pa_cons (pv 1) (pa_cons (pe_glob (v := .ref (cp.c 0)) (by rfl) T.m_Layout rfl) pa_nil))) (pe_and (pe_cmpR op_eq (pe_fld (f := "q") (pv 0) rfl) (pe_fld (f := "q") (pv 1) rfl) (nomark _)) (pe_and (pe_cmpR op_eq (pe_fld (f := "puts") (pv 0) rfl) (pe_fld (f := "puts") (pv 1) rfl) (nomark _)) (pe_one (pe_cmpR (op_eqX hr.units) (pe_fld (f := "regions") (pv 0) rfl) (pe_fld (f := "regions") (pv 1) rfl) (nomark _))))))))), ?_⟩
  obtain ⟨n, m, rfl, k⟩ := hc
  have hk := T.isl
  have ti := T.t_Layout
  dsimp only [lyO]
  walk_at "go"
  refine ⟨_, _, _, _, rfl, T.c_Layout, T.n_Layout_q, rfl, ?_⟩
  walk_at "go"
  refine ⟨_, _, _, _, rfl, T.c_Layout, T.n_Layout_q, rfl, ?_⟩
  walk_at "go"
  by_cases h : n = m
  · subst h
    rw [decide_eq_true (rfl : V.int (n : Int) = V.int (n : Int))]
    walk_at "go"
    refine ⟨_, _, _, _, rfl, T.c_Layout, T.n_Layout_puts, rfl, ?_⟩
    walk_at "go"
    refine ⟨_, _, _, _, rfl, T.c_Layout, T.n_Layout_puts, rfl, ?_⟩
    walk_at "go"
    refine ⟨_, _, _, _, rfl, T.c_Layout, T.n_Layout_regions, rfl, ?_⟩
    walk_at "go"
    refine ⟨_, _, _, _, rfl, T.c_Layout, T.n_Layout_regions, rfl, ?_⟩
    walk_at "go"
    refine r2_eqS (okS_intsT []) (okS_intsT []) fun b hb => ?_
    rw [hb.mpr rfl]
    walk_at "go"
    have := k
    rw [decide_eq_true (rfl : n = n)] at this
    exact this _
  · rw [decide_eq_false (fun z : V.int (n : Int) = V.int (m : Int) => h (by injection z with z; omega))]
    walk_at "go"
    have := k
    rw [decide_eq_false h] at this
    exact this _
def cStr : Ct := fun ss Φ => ∃ n : Nat, ss = [.sh (lyO n)] ∧ n ≤ 64 ∧ ∀ ss', Φ (.d (.str (tx n))) ss'
theorem ok_Layout_str (T : Txt K mg fs fd tk cp.x cp.c) : FnG P w K mg base CX0 2 (fs 24) (fd 24) P_Layout_str (spC K cp 1 cStr) := by
  refine okD (nos := []) T.f_Layout_str sc_Layout_str rfl fun cd A out s H E gd hr ss Φ hc hl => ⟨_, PSs.nox ((pss_one (ps_ret (pe_callTy SkE.call_str_str (by rfl) T.z_str (by decide +kernel) (pa_cons (pg_call (ok_text_of T) gd (hr.mono (by decide)) (by rfl) T.m_text_of T.f_text_of.kp (b_text_of T) .nil pass0 (pa_cons (pe_fld (f := "q") (pv 0) rfl) (pa_cons (pe_fld (f := "puts") (pv 0) rfl) (pa_cons (pe_fld (f := "regions") (pv 0) rfl) pa_nil)))) pa_nil))))), ?_⟩
  obtain ⟨n, rfl, hn, k⟩ := hc
  dsimp only [lyO]
  walk_at "go"
  refine ⟨_, _, _, _, rfl, T.c_Layout, T.n_Layout_q, rfl, ?_⟩
  walk_at "go"
  refine ⟨_, _, _, _, rfl, T.c_Layout, T.n_Layout_puts, rfl, ?_⟩
  walk_at "go"
  refine ⟨_, _, _, _, rfl, T.c_Layout, T.n_Layout_regions, rfl, ?_⟩
  walk_at "go"
  refine rl_strS ?_
  walk_at "go"
  exact k _
def cLyN : Ct := fun ss Φ => ∃ n : Nat, ss = [.sh (lyO n)] ∧ ∀ ss', Φ (.d .non) ss'
def cLyZ : Ct := fun ss Φ => ∃ n : Nat, ss = [.sh (lyO n)] ∧ ∀ ss', Φ (.d (.int 0)) ss'
def cLyT : Ct := fun ss Φ => ∃ n : Nat, ss = [.sh (lyO n)] ∧ ∀ ss', Φ (.d (.tup [])) ss'
theorem ok_check_layout (T : Txt K mg fs fd tk cp.x cp.c) : FnG P w K mg base CX0 3 (fs 26) (fd 26) P_check_layout (spC K cp 1 cLyN) := by
  refine okD (nos := []) T.f_check_layout sc_check_layout rfl fun cd A out s H E gd hr ss Φ hc hl => ⟨_, PSs.nox ((pss_one (ps_if (pt_not (pt_val (pe_callB call_isi (by rfl) T.z_isinstance (by decide +kernel) (pa_cons (pv 0) (pa_cons (pe_glob (v := .ref (cp.c 0)) (by rfl) T.m_Layout rfl) pa_nil)))))
        (pss_one (ps_never))
        pss_nil))), ?_⟩
  obtain ⟨n, rfl, k⟩ := hc
  have hk := T.isl
  have ti := T.t_Layout
  dsimp only [lyO]
  walk_at "go"
  exact k _
theorem ok_places (T : Txt K mg fs fd tk cp.x cp.c) : FnG P w K mg base CX0 4 (fs 27) (fd 27) P_places (spC K cp 1 cLyT) := by
  refine okD (nos := [.no, .no, .no, .no, .no, .no, .no, .no, .no]) T.f_places sc_places rfl fun cd A out s H E gd hr ss Φ hc hl => ⟨_, PSs.nox ((pss_cons (ps_expr (pg_call (ok_check_layout T) gd (hr.mono (by decide)) (by rfl) T.m_check_layout T.f_check_layout.kp (b_check_layout T) .nil pass0 (pa_cons (pv 0) pa_nil)))
      (pss_cons (ps_setLc2 (i := 1) (vs1 := []) (own := [("_", 2), ("payload", 3), ("room", 4), ("row", 5)]) rfl sc_places.nd rfl rfl (sw_true rfl rfl rfl (by decide +kernel)) (pi_list (pg_call (ok_placed T) gd (hr.mono (by decide)) (by rfl) T.m_placed T.f_placed.kp (b_placed T) .nil pass0 (pa_cons (pe_fld (f := "q") (pv 0) rfl) (pa_cons (pe_fld (f := "regions") (pv 0) rfl) pa_nil)))) (blkOk_by (own := [("_", 2), ("payload", 3), ("room", 4), ("row", 5)]) (N := N_places) (sc := defScope s_places) (by decide +kernel)) (fun i hi => by simp at hi) (fun _ _ _ _ _ => pg_dead) (fun _ _ _ _ _ => pts_dead) (fun _ _ _ _ _ => pi_dead) (fun _ _ _ _ _ => pg_dead) (fun _ _ _ _ _ => pts_dead) (fun _ _ _ _ _ => pe_dead))
      (pss_one (ps_ret (pe_callTy call_tuple_of (by rfl) T.z_tuple (by decide +kernel) (pa_cons (pe_lc (own := [("word", 6), ("serial", 7), ("place", 8), ("size", 9)]) rfl sc_places.nd (pi_list (pv 1)) (blkOk_by (own := [("word", 6), ("serial", 7), ("place", 8), ("size", 9)]) (N := N_places) (sc := defScope s_places) (by decide +kernel)) (fun _ _ _ _ _ => pg_dead) (fun _ _ _ _ _ => pts_dead) (fun _ _ _ _ _ => pe_dead)) pa_nil))))))), ?_⟩
  obtain ⟨n, rfl, k⟩ := hc
  walk_at "go"
  dsimp only [lyO]
  walk_at "goE"
  refine ⟨_, _, _, _, rfl, T.c_Layout, T.n_Layout_q, rfl, ?_⟩
  walk_at "goE"
  refine ⟨_, _, _, _, rfl, T.c_Layout, T.n_Layout_regions, rfl, ?_⟩
  walk_at "goE"
  exact k _
theorem ok_length (T : Txt K mg fs fd tk cp.x cp.c) : FnG P w K mg base CX0 4 (fs 28) (fd 28) P_length (spC K cp 1 cLyZ) := by
  refine okD (nos := [.no, .no]) T.f_length sc_length rfl fun cd A out s H E gd hr ss Φ hc hl => ⟨_, PSs.nox ((pss_cons (ps_expr (pg_call (ok_check_layout T) gd (hr.mono (by decide)) (by rfl) T.m_check_layout T.f_check_layout.kp (b_check_layout T) .nil pass0 (pa_cons (pv 0) pa_nil)))
      (pss_one (ps_ret (pe_callB (cr_sum rfl) (by rfl) T.z_sum (by decide +kernel) (pa_cons (pe_lc (own := [("_", 1), ("payload", 2)]) rfl sc_length.nd (pi_tup (pe_fld (f := "regions") (pv 0) rfl)) (blkOk_by (own := [("_", 1), ("payload", 2)]) (N := N_length) (sc := defScope s_length) (by decide +kernel)) (fun _ _ _ _ _ => pg_dead) (fun _ _ _ _ _ => pts_dead) (fun _ _ _ _ _ => pe_dead)) pa_nil)))))), ?_⟩
  obtain ⟨n, rfl, k⟩ := hc
  walk_at "go"
  dsimp only [lyO]
  walk_at "goE"
  refine ⟨_, _, _, _, rfl, T.c_Layout, T.n_Layout_regions, rfl, ?_⟩
  walk_at "goE"
  refine rl_sum (ns := []) ?_
  walk_at "goE"
  exact k _
theorem ok_live (T : Txt K mg fs fd tk cp.x cp.c) : FnG P w K mg base CX0 4 (fs 29) (fd 29) P_live (spC K cp 1 cLyZ) := by
  refine okD (nos := [.no, .no]) T.f_live sc_live rfl fun cd A out s H E gd hr ss Φ hc hl => ⟨_, PSs.nox ((pss_cons (ps_expr (pg_call (ok_check_layout T) gd (hr.mono (by decide)) (by rfl) T.m_check_layout T.f_check_layout.kp (b_check_layout T) .nil pass0 (pa_cons (pv 0) pa_nil)))
      (pss_one (ps_ret (pe_callB (cr_sum rfl) (by rfl) T.z_sum (by decide +kernel) (pa_cons (pe_lc (own := [("_", 1), ("size", 2)]) rfl sc_live.nd (pi_list (pg_call (ok_files_of T) gd (hr.mono (by decide)) (by rfl) T.m_files_of T.f_files_of.kp (b_files_of T) .nil pass0 (pa_cons (pe_fld (f := "regions") (pv 0) rfl) pa_nil))) (blkOk_by (own := [("_", 1), ("size", 2)]) (N := N_live) (sc := defScope s_live) (by decide +kernel)) (fun _ _ _ _ _ => pg_dead) (fun _ _ _ _ _ => pts_dead) (fun _ _ _ _ _ => pe_dead)) pa_nil)))))), ?_⟩
  obtain ⟨n, rfl, k⟩ := hc
  walk_at "go"
  dsimp only [lyO]
  walk_at "goE"
  refine ⟨_, _, _, _, rfl, T.c_Layout, T.n_Layout_regions, rfl, ?_⟩
  walk_at "goE"
  refine rl_sum (ns := []) ?_
  walk_at "goE"
  exact k _
def cRoom : Ct := fun ss Φ => ∃ n m : Nat, ss = [.sh (lyO n), .sh (.int m)] ∧ 1 ≤ m ∧ m ≤ 4096 ∧ ∀ ss', Φ (.d .non) ss'
theorem ok_room_for (T : Txt K mg fs fd tk cp.x cp.c) : FnG P w K mg base CX0 5 (fs 30) (fd 30) P_room_for (spC K cp 2 cRoom) := by
  refine okD (nos := []) T.f_room_for sc_room_for rfl fun cd A out s H E gd hr ss Φ hc hl => ⟨_, PSs.nox ((pss_cons (ps_expr (pg_call (ok_check_layout T) gd (hr.mono (by decide)) (by rfl) T.m_check_layout T.f_check_layout.kp (b_check_layout T) .nil pass0 (pa_cons (pv 0) pa_nil)))
      (pss_cons (ps_expr (pg_call (ok_check_size T) gd (hr.mono (by decide)) (by rfl) T.m_check_size T.f_check_size.kp (b_check_size T) .nil passL (pa_cons (pv 1) pa_nil)))
      (pss_one (ps_ret (pg_call (ok_rank_taking T) gd (hr.mono (by decide)) (by rfl) T.m_rank_taking T.f_rank_taking.kp (b_rank_taking T) .nil pass0 (pa_cons (pe_fld (f := "q") (pv 0) rfl) (pa_cons (pe_fld (f := "regions") (pv 0) rfl) (pa_cons (pv 1) pa_nil))))))))), ?_⟩
  obtain ⟨n, m, rfl, m1, m2, k⟩ := hc
  walk_at "go"
  refine ⟨fun _ ss' => ?_, fun h => by rw [sd_is m1 m2] at h; cases h⟩
  dsimp only [lyO]
  walk_at "goE"
  refine ⟨_, _, _, _, rfl, T.c_Layout, T.n_Layout_q, rfl, ?_⟩
  walk_at "goE"
  refine ⟨_, _, _, _, rfl, T.c_Layout, T.n_Layout_regions, rfl, ?_⟩
  walk_at "goE"
  exact k _
end
end Mine
set_option maxHeartbeats 400000
namespace Mine
open PySem PySem.Spec PyProof.Rows L2 GL DD
set_option hygiene false in
local macro_rules | `(tactic| walk_at "rz") => `(tactic| ((with_reducible refine' DS.raise1 rfl rfl ?rzcl ?_); (case rzcl => first | exact T.x_StripError | exact T.x_BadNumber | exact T.x_BadLayout)))
local macro_rules | `(tactic| walk_at "n") => `(tactic| (try dsimp only [sh_d, sh_n, upds, slots, List.length_cons, List.length_nil, of_d, of_n, of_o, at_d, cxOf, Cx.nox, Cx.wish, List.cons_append, List.nil_append, List.map_cons, List.map_nil, Int.reduceToNat, List.set, List.getElem?_cons_zero, List.getElem?_cons_succ, List.set_cons_zero, List.set_cons_succ]))
local macro_rules | `(tactic| walk_at "1") => `(tactic| first
  | (with_reducible refine' DS.seq ?_)
  | (with_reducible refine' DS.next ?_)
  | ((with_reducible refine' DS.ret (DE.move ?h ?q)); (case h => rfl))
  | (with_reducible refine' DS.ret ?_)
  | (with_reducible refine' DS.ite ?_)
  | (with_reducible refine' DS.drop ?_)
  | (with_reducible refine' DT.val ?_)
  | (with_reducible refine' DT.test ?_)
  | (with_reducible refine' DT.not ?_)
  | (with_reducible refine' DT.and ?_)
  | (with_reducible refine' DT.or ?_)
  | (with_reducible refine' DT.yes ?_)
  | (with_reducible refine' DE.and ?_)
  | (with_reducible refine' DE.or ?_)
  | (with_reducible refine' DE.not ?_)
  | (with_reducible refine' DE.ite ?_)
  | ((with_reducible refine' DE.var ?h ?q); (case h => rfl))
  | ((with_reducible refine' DE.own ?h ?q); (case h => rfl))
  | ((with_reducible refine' DE.c ?h ?q); (case h => constructor))
  | ((with_reducible refine' DE.isX ?c ?q); (case c => decide))
  | ((with_reducible refine' DE.isX2 ?c ?c2 ?q); (case c => decide); (case c2 => decide))
  | ((with_reducible refine' DE.isO ?h ?q); (case h => assumption))
  | (with_reducible refine' DE.strO ?_)
  | (with_reducible refine' DE.join ?_)
  | (with_reducible refine' DE.joined ?_)
  | (with_reducible refine' DJ.nil ?_)
  | (with_reducible refine' DJ.cons ?_)
  | (with_reducible refine' DE.tupOf ?_)
  | (with_reducible refine' DE.cb ?_)
  | (with_reducible refine' DE.call ?_)
  | ((with_reducible refine' DE.callY ?hE ?_); (case hE => rfl))
  | ((with_reducible refine' DE.makeY ?hE ?_); (case hE => rfl))
  | walk_at "rz"
  | (with_reducible refine' DE.make ?_)
  | (with_reducible refine' DE.fld ?_)
  | (with_reducible refine' DS.fldN ?_)
  | (with_reducible refine' DE.chain ?_)
  | (with_reducible refine' DE.neg ?_)
  | (with_reducible refine' DE.dnew ?_)
  | (with_reducible refine' DE.dget ?_)
  | (with_reducible refine' DE.get2 ?_)
  | (with_reducible refine' DE.din ?_)
  | ((with_reducible refine' DE.kwX ?hE ?_); (case hE => rfl))
  | (with_reducible refine' DE.kwC ?_)
  | (with_reducible refine' DE.opO ?_)
  | (with_reducible refine' DE.opT (r := rRepT _) ?_)
  | (with_reducible refine' DE.opT (r := rCatA _) ?_)
  | (with_reducible refine' DE.op ?_)
  | ((with_reducible refine' DI.seqV ?h ?h2 ?q); (case h => rfl); (case h2 => first | assumption | rfl))
  | (with_reducible refine' DI.list ?_)
  | (with_reducible refine' DI.tup ?_)
  | (with_reducible refine' DI.zip ?_)
  | (with_reducible refine' DI.enum ?_)
  | (with_reducible refine' DI.rng2 ?_)
  | (with_reducible refine' DI.rng1 ?_)
  | (with_reducible refine' DE.bits ?_)
  | (with_reducible refine' DE.tup ?_)
  | (with_reducible refine' DE.lst ?_)
  | (with_reducible refine' DAo.nil ?_)
  | (with_reducible refine' DAo.cons ?_)
  | (with_reducible refine' DS.setL ?_)
  | (with_reducible refine' DS.dput ?_)
  | (with_reducible refine' DS.asg ?_)
  | ((with_reducible refine' DG.name ?h ?q); (case h => first | exact free_of rfl | exact free_so rfl))
  | ((with_reducible refine' DG.tup ?h ?h2 ?q); (case h => rfl); (case h2 => rfl))
  | ((with_reducible refine' DGo.name ?h ?q); (case h => first | exact free_of rfl | exact free_so rfl))
  | ((with_reducible refine' DGo.tup ?h ?h2 ?q); (case h => rfl); (case h2 => rfl))
  | (with_reducible refine' DGos.cons ?_)
  | (with_reducible refine' DGos.nil ?_)
  | (with_reducible refine' DGs.cons ?_)
  | (with_reducible refine' DGs.nil ?_)
  | ((with_reducible refine' r2_int ?h ?q); (case h => constructor))
  | ((with_reducible refine' r2_isN ?h ?q); (case h => rfl))
  | ((with_reducible refine' r2_notN ?h ?q); (case h => rfl))
  | ((with_reducible refine' rl_lenV ?h ?q); (case h => rfl))
  | ((with_reducible refine' rl_len ?h ?q); (case h => rfl))
  | ((with_reducible refine' rl_int ?h ?q); (case h => rfl))
  | ((with_reducible refine' r2_eq ?h ?h2 ?h3 ?q); (case h => rfl); (case h2 => rfl); (case h3 => rfl))
  | ((with_reducible refine' r2_ne ?h ?h2 ?h3 ?q); (case h => rfl); (case h2 => rfl); (case h3 => rfl))
  | (with_reducible refine' DE.opT ?_)
  | (with_reducible refine' DE.cbT ?_)
  | ((with_reducible refine' r2_fdiv ?h ?q); (case h => exact ⟨by first | omega | decide, by first | omega | decide⟩))
  | ((with_reducible refine' r2_fdivW ?h ?q); (case h => first | exact cdivW2 (by first | omega | decide) (by first | omega | decide)))
  | ((with_reducible refine' r2_mulW ?h ?q); (case h => exact cmulW 64 64 (by first | omega | decide) (by first | omega | decide) (by decide) (by decide) (by decide)))
  | ((with_reducible refine' r2_shl ?h ?q); (case h => exact cshl (by first | omega | decide) (by first | omega | decide) (by first | omega | decide)))
  | ((with_reducible refine' r2_ixTx ?h ?h2 ?q); (case h => rfl); (case h2 => first | rfl | assumption))
  | ((with_reducible refine' r2_ixLx ?h ?h2 ?q); (case h => rfl); (case h2 => first | rfl | assumption))
  | ((with_reducible refine' r2_catTx ?h ?h2 ?h3 ?q); (case h => rfl); (case h2 => rfl); (case h3 => unfold sizeLine; first | omega | (simp; done) | (simp; omega)))
  | ((with_reducible refine' r2_cat ?h ?q); (case h => unfold sizeLine; first | omega | (simp; done) | (simp; omega)))
  | (with_reducible refine' DI.enumT ?_)
  | (with_reducible refine' DE.append ?_)
  | (with_reducible refine' DE.extend ?_)
  | (with_reducible refine' DS.aug ?_)
  | (with_reducible refine' DS.par ?_)
  | (with_reducible refine' DS.par3 ?_)
  | (with_reducible refine' DO.nil ?_)
  | (with_reducible refine' DO.one ?_)
  | (with_reducible refine' DE.slL ?_)
  | (with_reducible refine' DE.slT ?_)
  | ((with_reducible refine' r2_ix ?h ?h2 ?q); (case h => first | rfl | assumption); (case h2 => first | rfl | assumption))
  | (with_reducible refine' rl_abs ?_)
  | (with_reducible refine' rl_max2 ?_)
  | (with_reducible refine' rl_min2 ?_)
  | (with_reducible refine' r2_isBl ?_)
  | (with_reducible refine' r2_neInts ?_)
  | ((with_reducible refine' r2_mul ?h ?q); (case h => first | exact .inl ⟨by first | decide | omega, by first | decide | omega⟩ | exact .inr ⟨by first | decide | omega, by first | decide | omega⟩))
  | ((with_reducible refine' r2_mod ?h ?q); (case h => first | assumption | decide | omega))
  | ((with_reducible refine' r2_pow ?h ?q); (case h => exact ⟨by first | decide | omega, by first | decide | omega, by first | assumption | decide | omega⟩))
  | (with_reducible refine' rl_sumM ?_)
  | (with_reducible refine' rl_allM ?_)
  | (with_reducible refine' rl_anyM ?_)
  | (with_reducible refine' rl_sum ?_)
  | (with_reducible refine' rl_all ?_)
  | (with_reducible refine' rl_any ?_)
  | ((with_reducible refine' ifP ?h ?q); (case h => first | assumption | rfl | decide))
  | ((with_reducible refine' ifN ?h ?q); (case h => first | assumption | (intro z; cases z; done) | decide))
  | (with_reducible assumption)
  | (with_reducible intro (_ : List SV))
  | (refine ⟨_, rfl, rfl, List.nodup_nil, ?_⟩)
  | (refine ⟨_, rfl, rfl, (show List.Nodup _ by decide), ?_⟩)
  | (refine ⟨_, _, _, _, rfl, rfl, rfl, ?_⟩)
  | (refine ⟨_, rfl, ?_⟩)
  | (refine ⟨_, _, rfl, rfl, ?_⟩)
  | (refine ⟨_, _, _, rfl, rfl, ?_⟩)
  | (refine ⟨_, _, _, rfl, ?_⟩)
  | (refine ⟨_, _, rfl, ?_⟩)
  | (refine ⟨(show List.Nodup _ by decide), ?_⟩)
  | (refine ⟨⟨_, _, rfl⟩, ?_⟩)
  | (refine ⟨free_of rfl, ?_⟩)
  | (refine ⟨free_so rfl, ?_⟩)
  | (refine ⟨trivial, ?_⟩)
  | (refine ⟨rfl, ?_⟩)
  | (refine And.intro (by assumption) ?_)
  | (refine ⟨(show _ ≤ sizeLine by unfold sizeLine; first | decide | omega | (simp; done) | (simp; omega)), ?_⟩)
  | (refine ⟨(show _ < sizeLine by unfold sizeLine; first | omega | (simp; omega)), ?_⟩))
local macro_rules | `(tactic| walk_at "go") => `(tactic| (walk_at "n"; repeat (walk_at "1"; walk_at "n")))
local macro_rules | `(tactic| walk_at "goi") => `(tactic| (walk_at "go"; (try split); all_goals walk_at "go"))
local macro_rules | `(tactic| walk_at "own") => `(tactic| (refine' DS.seq (DS.own ?_); walk_at "go"))
local macro_rules | `(tactic| walk_at "gof") => `(tactic| (walk_at "n"; repeat (first | ((with_reducible refine' DE.frz ?h ?q); (case h => rfl)) | walk_at "1"); walk_at "n"))
local macro_rules | `(tactic| walk_at "pg1") => `(tactic| (intro P vs zs h1 h2; cases h1; cases h2 with | cons b1 h2 => cases h2; exact .cons b1 .nil))
local macro_rules | `(tactic| walk_at "pg2") => `(tactic| (intro P vs zs h1 h2; cases h1; cases h2 with | cons b1 h2 => (cases h2 with | cons b2 h2 => (cases h2; first | exact .cons b1 (.cons b2 .nil) | exact .cons b2 (.cons b1 .nil)))))
local macro_rules | `(tactic| walk_at "pg3") => `(tactic| (intro P vs zs h1 h2; cases h1; cases h2 with | cons b1 h2 => (cases h2 with | cons b2 h2 => (cases h2 with | cons b3 h2 => (cases h2; first | exact .cons b1 (.cons b2 (.cons b3 .nil)) | exact .cons b1 (.cons b3 (.cons b2 .nil)) | exact .cons b2 (.cons b1 (.cons b3 .nil)) | exact .cons b2 (.cons b3 (.cons b1 .nil)) | exact .cons b3 (.cons b1 (.cons b2 .nil)) | exact .cons b3 (.cons b2 (.cons b1 .nil)))))))

section
variable {P : Program} {w : World} {K : PySem.W.Frag} {mg : Str → Option Value} {base : Heap} {fs : Nat → Addr} {fd : Nat → FuncData} {tk : Nat → Tok} {cp : Cb}
theorem ok_Lruler (T : Txt K mg fs fd tk cp.x cp.c) : FnG P w K mg base CX0 1 (fs 31) (fd 31) P_Lruler (spRack K) := by
  refine Fun.okG T.f_Lruler sc_Lruler (fun vs H Q E h => ?_) (fun cd A out s H vs Q E gd hr h => ?_)
  · obtain ⟨a, ns, rfl, _⟩ := h
    rfl
  · obtain ⟨a, ns, rfl, hS, hl, k⟩ := h
    refine ⟨_, PSs.nox ((pss_one (ps_ret (pe_lst (pa_cons (pe_lc (own := [("cell", 1)]) (g := gName 1) (tt := tYes) rfl sc_Lruler.nd (pi_list (pe_slice sl_list (pv 0) po_none (po_some (pe_int)))) (blkOk_by (own := [("cell", 1)]) (N := N_Lruler) (sc := defScope s_Lruler) (by decide +kernel)) (fun _ _ _ _ _ => (pg_name (i := 1) sc_Lruler.nd rfl (Or.inl rfl))) (fun _ _ _ _ _ => pts_nil) (fun _ _ _ _ _ => pe_callTy call_int1 (by rfl) T.z_int (by decide +kernel) (pa_cons (pv 1) pa_nil))) (pa_cons (pe_int) (pa_cons (pe_int) pa_nil))))))), ?_⟩
    refine ⟨_, rfl, _, rfl, a, _, rfl, hS, fun q hq => ?_⟩
    obtain ⟨ms, em, lm, _⟩ := cut_ints ns none (some 63)
    have e0 : Ex H (upd H q (.lst (cutV (ns.map V.int) none (some 63)))) := Ex.nw hq
    have gq : (upd H q (.lst (cutV (ns.map V.int) none (some 63)))) q = some (.lst (ms.map V.int)) := by rw [em]; exact upd_same
    generalize upd H q (.lst (cutV (ns.map V.int) none (some 63))) = G at e0 gq
    refine ⟨q, rfl, ⟨_, SqL.of gq⟩, fun D hD => ?_⟩
    refine lc_list (K := K) (a := q) (xs := ms.map V.int) (fun i H' => H' D = some (.lst ((ms.take i).map V.int)) ∧ Ex G H') ⟨upd_same, Ex.nw hD⟩ (fun i H' _ p => SqL.of (p.2 _ _ gq)) ?_ ?_
    · rintro i x H' hx ⟨p1, p2⟩
      obtain ⟨z, hz, rfl⟩ := map_get hx
      have hi := lt_of_get hz
      refine ⟨rfl, ?_⟩
      refine ⟨_, rfl, .inl ⟨z, rfl, _, p1, ?_, ?_, p2.up hD⟩⟩
      · rw [List.length_map, List.length_take]; exact sz_ok (by omega)
      · rw [take_step hz, List.map_append]; exact upd_same
    · rintro H' ⟨p1, p2⟩
      rw [List.length_map, List.take_length] at p1
      refine ⟨(show 3 ≤ sizeLine by decide), fun p hp => ?_⟩
      have e3 : Ex H' (upd H' p (.lst [.ref D, .int 0, .int 0])) := Ex.nw hp
      exact k p D _ ((e0.tr p2).no hp) ⟨⟨ms, 0, 0, upd_same, e3 _ _ p1, ne_of_none p1 hp, by omega, by decide, by decide, by decide⟩⟩ ((e0.tr p2).tr e3)
set_option hygiene false in
local macro_rules | `(tactic| walk_at "mixup") => `(tactic| (
  have b1 : 0 ≤ cell % 2147483629 := Int.emod_nonneg _ (by decide)
  have b2 : cell % 2147483629 < 2147483629 := Int.emod_lt_of_pos _ (by decide)
  walk_at "go"
  refine r2_pow ⟨by decide, by decide, hmix _ (Int.emod_nonneg _ (by decide)) (Int.lt_trans (Int.emod_lt_of_pos _ (by decide)) (by decide))⟩ ?_
  walk_at "go"
  exact k _ _ _ (Int.emod_nonneg _ (by omega)) (Int.emod_lt_of_pos _ m0) ⟨ns, t + 1, l, rfl, hlen, by omega, by omega, l0⟩))
set_option maxHeartbeats 2000000 in
theorem ok_Lnotch (T : Txt K mg fs fd tk cp.x cp.c) : FnG P w K mg base CX0 1 (fs 32) (fd 32) P_Lnotch (spC K cp 2 cDrawW) := by
  refine okD (nos := [.no, .no, .no, .no]) T.f_Lnotch sc_Lnotch rfl fun cd A out s H E gd hr ss Φ hc hl => ⟨_, PSs.nox ((pss_cons (ps_if (pt_cmpR op_gt (pe_ix ix_list (pv 0) (pe_int) (fun _ _ => rfl)) (pe_int) (nomark _))
        (pss_cons (ps_set (i := 2) sc_Lnotch.nd rfl (by first | exact Or.inl rfl | exact Or.inr rfl) (pe_callTy call_int1 (by rfl) T.z_int (by decide +kernel) (pa_cons (pe_ix ix_list (pv 0) (pe_int) (fun _ _ => rfl)) pa_nil)))
        (pss_cons (ps_asg (pe_op op_fdivW (pv 2) (pv 1)) (pg_sub (pv 0) (pe_int) set_list))
        (pss_one (ps_ret (pe_op op_mod (pe_callTy call_int1 (by rfl) T.z_int (by decide +kernel) (pa_cons (pv 2) pa_nil)) (pv 1))))))
        pss_nil)
      (pss_cons (ps_set (i := 3) sc_Lnotch.nd rfl (by first | exact Or.inl rfl | exact Or.inr rfl) (pe_ix ix_list (pv 0) (pe_int) (fun _ _ => rfl)))
      (pss_cons (ps_asg (pe_op op_add (pv 3) (pe_int)) (pg_sub (pv 0) (pe_int) set_list))
      (pss_cons (ps_set (i := 4) sc_Lnotch.nd rfl (by first | exact Or.inl rfl | exact Or.inr rfl) (pe_op op_add (pe_op op_mul (pe_int) (pv 3)) (pe_int)))
      (pss_cons (ps_if (pt_cmpR (op_neX hr.units) (pe_ix ix_list (pv 0) (pe_int) (fun _ _ => rfl)) (pe_lst pa_nil) (nomark _))
        (pss_one (ps_set (i := 4) sc_Lnotch.nd rfl (by first | exact Or.inl rfl | exact Or.inr rfl) (pe_ix ix_list (pe_ix ix_list (pv 0) (pe_int) (fun _ _ => rfl)) (pe_op op_mod (pe_callTy call_int1 (by rfl) T.z_int (by decide +kernel) (pa_cons (pv 3) pa_nil)) (pe_callB call_len_seq (by rfl) T.z_len (by decide +kernel) (pa_cons (pe_ix ix_list (pv 0) (pe_int) (fun _ _ => rfl)) pa_nil))) (fun _ _ => rfl))))
        pss_nil)
      (pss_cons (ps_if (PW.pt (pw_and (pt_cmpR op_lt (pv 3) (pe_callB call_len_seq (by rfl) T.z_len (by decide +kernel) (pa_cons (pe_ix ix_list (pv 0) (pe_int) (fun _ _ => rfl)) pa_nil)) (nomark _)) (pw_and1 (pt_cmpR op_ge (pe_callB call_abs (by rfl) T.z_abs (by decide +kernel) (pa_cons (pv 4) pa_nil)) (pe_op op_pow (pe_int) (pe_int)) (nomark _)))))
        (pss_cons (ps_set (i := 2) sc_Lnotch.nd rfl (by first | exact Or.inl rfl | exact Or.inr rfl) (pe_op op_add (pe_op op_mul (pe_int) (pe_op op_sub (pe_callB call_abs (by rfl) T.z_abs (by decide +kernel) (pa_cons (pv 4) pa_nil)) (pe_op op_pow (pe_int) (pe_int)))) (pe_callTy call_int1 (by rfl) T.z_int (by decide +kernel) (pa_cons (pe_cmpR op_lt (pv 4) (pe_int) (nomark _)) pa_nil))))
        (pss_cons (ps_asg (pe_op op_fdivW (pe_callTy call_int1 (by rfl) T.z_int (by decide +kernel) (pa_cons (pv 2) pa_nil)) (pv 1)) (pg_sub (pv 0) (pe_int) set_list))
        (pss_one (ps_ret (pe_op op_mod (pe_callTy call_int1 (by rfl) T.z_int (by decide +kernel) (pa_cons (pv 2) pa_nil)) (pv 1))))))
        pss_nil)
      (pss_cons (ps_set (i := 5) sc_Lnotch.nd rfl (by first | exact Or.inl rfl | exact Or.inr rfl) (pe_op op_mod (pe_callTy call_int1 (by rfl) T.z_int (by decide +kernel) (pa_cons (pe_op op_pow (pe_op op_add (pe_op op_add (pe_op op_mod (pe_callTy call_int1 (by rfl) T.z_int (by decide +kernel) (pa_cons (pv 4) pa_nil)) (pe_int)) (pe_op op_mul (pe_int) (pv 3))) (pe_int)) (pe_int)) pa_nil)) (pe_int)))
      (pss_cons (ps_set (i := 5) sc_Lnotch.nd rfl (by first | exact Or.inl rfl | exact Or.inr rfl) (pe_op op_mod (pe_callTy call_int1 (by rfl) T.z_int (by decide +kernel) (pa_cons (pe_op op_pow (pe_op op_add (pe_op op_add (pe_op op_mul (pv 5) (pe_op op_add (pe_op op_mul (pe_int) (pv 3)) (pe_int))) (pe_op op_mul (pe_op op_mul (pe_int) (pv 3)) (pv 3))) (pe_int)) (pe_int)) pa_nil)) (pe_int)))
      (pss_one (ps_ret (pe_op op_mod (pe_callTy call_int1 (by rfl) T.z_int (by decide +kernel) (pa_cons (pe_op op_fdivW (pv 5) (pe_int)) pa_nil)) (pv 1))))))))))))), ?_⟩
  obtain ⟨c, many, n, rfl, ⟨ns, t, l, rfl, hlen, t0, tn, l0⟩, hn, m0, m1, k⟩ := hc
  walk_at "go"
  split
  · rename_i c1
    walk_at "go"
    exact k _ _ _ (Int.emod_nonneg _ (by omega)) (Int.emod_lt_of_pos _ m0) ⟨ns, t, l / many, rfl, hlen, t0, by omega, Int.ediv_nonneg l0 (by omega)⟩
  · rename_i c1
    walk_at "go"
    have hmix : ∀ m : Int, 0 ≤ m → m < 2147483648 → (m * (2 * t + 2203) + 70001 * t * t + 30011).natAbs < 2 ^ 64 := fun m h0 h1 => mix_small h0 h1 t0 (by omega) (by decide) (by decide) (by decide) (by decide) (by decide) (by decide)
    have hcell : (!ns.isEmpty) = true → 0 < ((ns.map D.int).length : Int) ∧ ∃ cell : Int, atI (ns.map D.int) (t % ((ns.map D.int).length : Int)) = some (.int cell) := fun c2 => by
      have hp : (0 : Int) < ((ns.map D.int).length : Int) := by
        rw [List.length_map]
        cases ns with
        | nil => simp at c2
        | cons a r => simp only [List.length_cons]; omega
      refine ⟨hp, ?_⟩
      have h0 := Int.emod_nonneg t (b := ((ns.map D.int).length : Int)) (by omega)
      have h1 := Int.emod_lt_of_pos t hp
      obtain ⟨j, hj⟩ : ∃ j : Nat, t % ((ns.map D.int).length : Int) = (j : Int) := ⟨_, (Int.toNat_of_nonneg h0).symm⟩
      rw [hj] at h1 ⊢
      rw [List.length_map] at h1
      have hj2 : j < ns.length := by omega
      exact ⟨ns[j], atI_nat (by rw [List.getElem?_map, List.getElem?_eq_getElem hj2]; rfl)⟩
    split <;> rename_i c2
    rotate_left
    walk_at "go"
    generalize 70001 * t + 4201 = cell
    rotate_left
    obtain ⟨hp, cell, hy⟩ := hcell c2
    walk_at "go"
    all_goals
      split
      · rename_i c3
        walk_at "go"
        by_cases c4 : (10 : Int) ^ 18 ≤ (if cell < 0 then -cell else cell)
        · rw [if_pos (decide_eq_true c4)]
          have hle : 0 ≤ 2 * ((if cell < 0 then -cell else cell) - (10 : Int) ^ 18) + (if decide (cell < 0) = true then (1 : Int) else 0) := by
            have : 0 ≤ (if decide (cell < 0) = true then (1 : Int) else 0) := by split <;> decide
            omega
          walk_at "go"
          exact k _ _ _ (Int.emod_nonneg _ (by omega)) (Int.emod_lt_of_pos _ m0) ⟨ns, t + 1, _, rfl, hlen, by omega, by omega, Int.ediv_nonneg hle (by omega)⟩
        · rw [if_neg (by rw [decide_eq_false c4]; decide)]
          walk_at "mixup"
      · rename_i c3
        walk_at "go"
        walk_at "mixup"
theorem ok_Lone (T : Txt K mg fs fd tk cp.x cp.c) : FnG P w K mg base CX0 2 (fs 33) (fd 33) P_Lone (spC K cp 2 cOneD) := by
  refine okD (nos := []) T.f_Lone sc_Lone rfl fun cd A out s H E gd hr ss Φ hc hl => ⟨_, PSs.nox ((pss_one (ps_ret (pe_ix ix_seq (pv 1) (pg_call (ok_Lnotch T) gd (hr.mono (by decide)) (by rfl) T.m_Lnotch T.f_Lnotch.kp (b_Lnotch T) .nil pass0 (pa_cons (pv 0) (pa_cons (pe_callB call_len (by rfl) T.z_len (by decide +kernel) (pa_cons (pv 1) pa_nil)) pa_nil))) (fun _ _ => rfl))))), ?_⟩
  obtain ⟨c, x, xs, n, rfl, hx, hne, hlx, hr2, hn, k⟩ := hc
  have hp : 0 < xs.length := List.length_pos_iff.mpr hne
  walk_at "go"
  refine rl_lenV (n := xs.length) (by cases x <;> first | (cases hx; rfl) | cases hx) ?_
  walk_at "go"
  refine ⟨c, _, n, rfl, hr2, hn, by omega, by omega, fun r c' s1 r0 r1 hk => ?_⟩
  walk_at "go"
  obtain ⟨j, rfl⟩ := Int.eq_ofNat_of_zero_le r0
  have hj : j < xs.length := by omega
  refine r2_ix hx (d := xs[j]) (atI_nat (List.getElem?_eq_getElem hj)) ?_
  exact ⟨trivial, k _ _ _ (List.getElem_mem hj) hk⟩
end
end Mine
set_option maxHeartbeats 400000
namespace Mine
open PySem PySem.Spec PyProof.Rows L2 GL DD
set_option hygiene false in
local macro_rules | `(tactic| walk_at "rz") => `(tactic| ((with_reducible refine' DS.raise1 rfl rfl ?rzcl ?_); (case rzcl => first | exact T.x_StripError | exact T.x_BadNumber | exact T.x_BadLayout)))
local macro_rules | `(tactic| walk_at "n") => `(tactic| (try dsimp only [sh_d, sh_n, upds, slots, List.length_cons, List.length_nil, of_d, of_n, of_o, at_d, cxOf, Cx.nox, Cx.wish, List.cons_append, List.nil_append, List.map_cons, List.map_nil, Int.reduceToNat, List.set, List.getElem?_cons_zero, List.getElem?_cons_succ, List.set_cons_zero, List.set_cons_succ]))
local macro_rules | `(tactic| walk_at "1") => `(tactic| first
  | (with_reducible refine' DS.seq ?_)
  | (with_reducible refine' DS.next ?_)
  | ((with_reducible refine' DS.ret (DE.move ?h ?q)); (case h => rfl))
  | (with_reducible refine' DS.ret ?_)
  | (with_reducible refine' DS.ite ?_)
  | (with_reducible refine' DS.drop ?_)
  | (with_reducible refine' DT.val ?_)
  | (with_reducible refine' DT.test ?_)
  | (with_reducible refine' DT.not ?_)
  | (with_reducible refine' DT.and ?_)
  | (with_reducible refine' DT.or ?_)
  | (with_reducible refine' DT.yes ?_)
  | (with_reducible refine' DE.and ?_)
  | (with_reducible refine' DE.or ?_)
  | (with_reducible refine' DE.not ?_)
  | (with_reducible refine' DE.ite ?_)
  | ((with_reducible refine' DE.var ?h ?q); (case h => rfl))
  | ((with_reducible refine' DE.own ?h ?q); (case h => rfl))
  | ((with_reducible refine' DE.c ?h ?q); (case h => constructor))
  | ((with_reducible refine' DE.isX ?c ?q); (case c => decide))
  | ((with_reducible refine' DE.isX2 ?c ?c2 ?q); (case c => decide); (case c2 => decide))
  | ((with_reducible refine' DE.isO ?h ?q); (case h => assumption))
  | (with_reducible refine' DE.strO ?_)
  | (with_reducible refine' DE.join ?_)
  | (with_reducible refine' DE.joined ?_)
  | (with_reducible refine' DJ.nil ?_)
  | (with_reducible refine' DJ.cons ?_)
  | (with_reducible refine' DE.tupOf ?_)
  | (with_reducible refine' DE.cb ?_)
  | (with_reducible refine' DE.call ?_)
  | ((with_reducible refine' DE.callY ?hE ?_); (case hE => rfl))
  | ((with_reducible refine' DE.makeY ?hE ?_); (case hE => rfl))
  | walk_at "rz"
  | (with_reducible refine' DE.make ?_)
  | (with_reducible refine' DE.fld ?_)
  | (with_reducible refine' DS.fldN ?_)
  | (with_reducible refine' DE.chain ?_)
  | (with_reducible refine' DE.neg ?_)
  | (with_reducible refine' DE.dnew ?_)
  | (with_reducible refine' DE.dget ?_)
  | (with_reducible refine' DE.get2 ?_)
  | (with_reducible refine' DE.din ?_)
  | ((with_reducible refine' DE.kwX ?hE ?_); (case hE => rfl))
  | (with_reducible refine' DE.kwC ?_)
  | (with_reducible refine' DE.opO ?_)
  | (with_reducible refine' DE.opT (r := rRepT _) ?_)
  | (with_reducible refine' DE.opT (r := rCatA _) ?_)
  | (with_reducible refine' DE.op ?_)
  | ((with_reducible refine' DI.seqV ?h ?h2 ?q); (case h => rfl); (case h2 => first | assumption | rfl))
  | (with_reducible refine' DI.list ?_)
  | (with_reducible refine' DI.tup ?_)
  | (with_reducible refine' DI.zip ?_)
  | (with_reducible refine' DI.enum ?_)
  | (with_reducible refine' DI.rng2 ?_)
  | (with_reducible refine' DI.rng1 ?_)
  | (with_reducible refine' DE.bits ?_)
  | (with_reducible refine' DE.tup ?_)
  | (with_reducible refine' DE.lst ?_)
  | (with_reducible refine' DAo.nil ?_)
  | (with_reducible refine' DAo.cons ?_)
  | (with_reducible refine' DS.setL ?_)
  | (with_reducible refine' DS.dput ?_)
  | (with_reducible refine' DS.asg ?_)
  | ((with_reducible refine' DG.name ?h ?q); (case h => first | exact free_of rfl | exact free_so rfl))
  | ((with_reducible refine' DG.tup ?h ?h2 ?q); (case h => rfl); (case h2 => rfl))
  | ((with_reducible refine' DGo.name ?h ?q); (case h => first | exact free_of rfl | exact free_so rfl))
  | ((with_reducible refine' DGo.tup ?h ?h2 ?q); (case h => rfl); (case h2 => rfl))
  | (with_reducible refine' DGos.cons ?_)
  | (with_reducible refine' DGos.nil ?_)
  | (with_reducible refine' DGs.cons ?_)
  | (with_reducible refine' DGs.nil ?_)
  | ((with_reducible refine' r2_int ?h ?q); (case h => constructor))
  | ((with_reducible refine' r2_isN ?h ?q); (case h => rfl))
  | ((with_reducible refine' r2_notN ?h ?q); (case h => rfl))
  | ((with_reducible refine' rl_lenV ?h ?q); (case h => rfl))
  | ((with_reducible refine' rl_len ?h ?q); (case h => rfl))
  | ((with_reducible refine' rl_int ?h ?q); (case h => rfl))
  | ((with_reducible refine' r2_eq ?h ?h2 ?h3 ?q); (case h => rfl); (case h2 => rfl); (case h3 => rfl))
  | ((with_reducible refine' r2_ne ?h ?h2 ?h3 ?q); (case h => rfl); (case h2 => rfl); (case h3 => rfl))
  | (with_reducible refine' DE.opT ?_)
  | (with_reducible refine' DE.cbT ?_)
  | ((with_reducible refine' r2_fdiv ?h ?q); (case h => exact ⟨by first | omega | decide, by first | omega | decide⟩))
  | ((with_reducible refine' r2_fdivW ?h ?q); (case h => first | exact cdivW2 (by first | omega | decide) (by first | omega | decide)))
  | ((with_reducible refine' r2_mulW ?h ?q); (case h => exact cmulW 64 64 (by first | omega | decide) (by first | omega | decide) (by decide) (by decide) (by decide)))
  | ((with_reducible refine' r2_shl ?h ?q); (case h => exact cshl (by first | omega | decide) (by first | omega | decide) (by first | omega | decide)))
  | ((with_reducible refine' r2_ixTx ?h ?h2 ?q); (case h => rfl); (case h2 => first | rfl | assumption))
  | ((with_reducible refine' r2_ixLx ?h ?h2 ?q); (case h => rfl); (case h2 => first | rfl | assumption))
  | ((with_reducible refine' r2_catTx ?h ?h2 ?h3 ?q); (case h => rfl); (case h2 => rfl); (case h3 => unfold sizeLine; first | omega | (simp; done) | (simp; omega)))
  | ((with_reducible refine' r2_cat ?h ?q); (case h => unfold sizeLine; first | omega | (simp; done) | (simp; omega)))
  | (with_reducible refine' DI.enumT ?_)
  | (with_reducible refine' DE.append ?_)
  | (with_reducible refine' DE.extend ?_)
  | (with_reducible refine' DS.aug ?_)
  | (with_reducible refine' DS.par ?_)
  | (with_reducible refine' DS.par3 ?_)
  | (with_reducible refine' DO.nil ?_)
  | (with_reducible refine' DO.one ?_)
  | (with_reducible refine' DE.slL ?_)
  | (with_reducible refine' DE.slT ?_)
  | ((with_reducible refine' r2_ix ?h ?h2 ?q); (case h => first | rfl | assumption); (case h2 => first | rfl | assumption))
  | (with_reducible refine' rl_abs ?_)
  | (with_reducible refine' rl_max2 ?_)
  | (with_reducible refine' rl_min2 ?_)
  | (with_reducible refine' r2_isBl ?_)
  | (with_reducible refine' r2_neInts ?_)
  | ((with_reducible refine' r2_mul ?h ?q); (case h => first | exact .inl ⟨by first | decide | omega, by first | decide | omega⟩ | exact .inr ⟨by first | decide | omega, by first | decide | omega⟩))
  | ((with_reducible refine' r2_mod ?h ?q); (case h => first | assumption | decide | omega))
  | ((with_reducible refine' r2_pow ?h ?q); (case h => exact ⟨by first | decide | omega, by first | decide | omega, by first | assumption | decide | omega⟩))
  | (with_reducible refine' rl_sumM ?_)
  | (with_reducible refine' rl_allM ?_)
  | (with_reducible refine' rl_anyM ?_)
  | (with_reducible refine' rl_sum ?_)
  | (with_reducible refine' rl_all ?_)
  | (with_reducible refine' rl_any ?_)
  | ((with_reducible refine' ifP ?h ?q); (case h => first | assumption | rfl | decide))
  | ((with_reducible refine' ifN ?h ?q); (case h => first | assumption | (intro z; cases z; done) | decide))
  | (with_reducible assumption)
  | (with_reducible intro (_ : List SV))
  | (refine ⟨_, rfl, rfl, List.nodup_nil, ?_⟩)
  | (refine ⟨_, rfl, rfl, (show List.Nodup _ by decide), ?_⟩)
  | (refine ⟨_, _, _, _, rfl, rfl, rfl, ?_⟩)
  | (refine ⟨_, rfl, ?_⟩)
  | (refine ⟨_, _, rfl, rfl, ?_⟩)
  | (refine ⟨_, _, _, rfl, rfl, ?_⟩)
  | (refine ⟨_, _, _, rfl, ?_⟩)
  | (refine ⟨_, _, rfl, ?_⟩)
  | (refine ⟨(show List.Nodup _ by decide), ?_⟩)
  | (refine ⟨⟨_, _, rfl⟩, ?_⟩)
  | (refine ⟨free_of rfl, ?_⟩)
  | (refine ⟨free_so rfl, ?_⟩)
  | (refine ⟨trivial, ?_⟩)
  | (refine ⟨rfl, ?_⟩)
  | (refine And.intro (by assumption) ?_)
  | (refine ⟨(show _ ≤ sizeLine by unfold sizeLine; first | decide | omega | (simp; done) | (simp; omega)), ?_⟩)
  | (refine ⟨(show _ < sizeLine by unfold sizeLine; first | omega | (simp; omega)), ?_⟩))
local macro_rules | `(tactic| walk_at "go") => `(tactic| (walk_at "n"; repeat (walk_at "1"; walk_at "n")))
local macro_rules | `(tactic| walk_at "goi") => `(tactic| (walk_at "go"; (try split); all_goals walk_at "go"))
local macro_rules | `(tactic| walk_at "own") => `(tactic| (refine' DS.seq (DS.own ?_); walk_at "go"))
local macro_rules | `(tactic| walk_at "gof") => `(tactic| (walk_at "n"; repeat (first | ((with_reducible refine' DE.frz ?h ?q); (case h => rfl)) | walk_at "1"); walk_at "n"))
local macro_rules | `(tactic| walk_at "pg1") => `(tactic| (intro P vs zs h1 h2; cases h1; cases h2 with | cons b1 h2 => cases h2; exact .cons b1 .nil))
local macro_rules | `(tactic| walk_at "pg2") => `(tactic| (intro P vs zs h1 h2; cases h1; cases h2 with | cons b1 h2 => (cases h2 with | cons b2 h2 => (cases h2; first | exact .cons b1 (.cons b2 .nil) | exact .cons b2 (.cons b1 .nil)))))
local macro_rules | `(tactic| walk_at "pg3") => `(tactic| (intro P vs zs h1 h2; cases h1; cases h2 with | cons b1 h2 => (cases h2 with | cons b2 h2 => (cases h2 with | cons b3 h2 => (cases h2; first | exact .cons b1 (.cons b2 (.cons b3 .nil)) | exact .cons b1 (.cons b3 (.cons b2 .nil)) | exact .cons b2 (.cons b1 (.cons b3 .nil)) | exact .cons b2 (.cons b3 (.cons b1 .nil)) | exact .cons b3 (.cons b1 (.cons b2 .nil)) | exact .cons b3 (.cons b2 (.cons b1 .nil)))))))

local macro_rules | `(tactic| walk_at "goE") => `(tactic| (walk_at "n"; repeat ((first | (with_reducible refine' DS.forE ?_) | ((with_reducible refine' DE.lcE ?_ ?h ?_); (case h => exact nown_of rfl)) | ((with_reducible refine' DE.lc2E ?_ ?h ?_); (case h => exact nown_of rfl)) | ((with_reducible refine' DE.dcE ?_ ?h ?_); (case h => exact nown_of rfl)) | walk_at "1"); walk_at "n")))
section
variable {P : Program} {w : World} {K : PySem.W.Frag} {mg : Str → Option Value} {base : Heap} {fs : Nat → Addr} {fd : Nat → FuncData} {tk : Nat → Tok} {cp : Cb}
theorem rank_is {n : Nat} (n1 : 1 ≤ n) (n2 : n ≤ 4096) {Φ : AV → List SV → Prop} {Ψ : Nat → List Str → List D → List SV → Prop} (k : ∀ ss', Φ (.d (.int (n.log2 : Nat))) ss') : RankK (.int (n : Int)) Φ Ψ :=
  .a ⟨trivial, fun m e _ _ => by (injection e with e; have : n = m := by omega); subst this; exact k, fun h => by rw [sd_is n1 n2] at h; cases h⟩
theorem rank_bad {d : D} (nd : Nob d) (h : sD d = false) {Φ : AV → List SV → Prop} {Ψ : Nat → List Str → List D → List SV → Prop} (k : ∀ ss', Ψ 1 ["part"] [.str "size"] ss') : RankK d Φ Ψ :=
  .a ⟨nd, fun m e a b => by (subst e; rw [sd_is a b] at h; cases h), fun _ => k⟩
theorem empty_is {n : Nat} (n1 : 2 ≤ n) (n2 : n ≤ 64) {Φ : AV → List SV → Prop} {Ψ : Nat → List Str → List D → List SV → Prop} (k : ∀ ss', Φ (.n (lyO n)) ss') : EmptyK (.int (n : Int)) Φ Ψ :=
  .a ⟨trivial, fun m e _ _ => by (injection e with e; have : n = m := by omega); subst this; exact k, fun h => by rw [qd_is n1 n2] at h; cases h⟩
theorem empty_bad {d : D} (nd : Nob d) (h : qD d = false) {Φ : AV → List SV → Prop} {Ψ : Nat → List Str → List D → List SV → Prop} (k : ∀ ss', Ψ 1 ["part"] [.str "q"] ss') : EmptyK d Φ Ψ :=
  .a ⟨nd, fun m e a b => by (subst e; rw [qd_is a b] at h; cases h), fun _ => k⟩
def cSR : Ct := fun ss Φ => ∃ n : Nat, ss = [.sh (.int n)] ∧ 1 ≤ n ∧ n ≤ 4096 ∧ ∀ ss', Φ (.d (.bl true)) ss'
theorem ok_Lsize_right (T : Txt K mg fs fd tk cp.x cp.c) : FnG P w K mg base CX0 6 (fs 35) (fd 35) P_Lsize_right (spC K cp 1 cSR) := by
  refine okD (nos := [.no]) T.f_Lsize_right sc_Lsize_right rfl fun cd A out s H E gd hr ss Φ hc hl => ⟨_, PSs.nox ((pss_cons (ps_set (i := 1) sc_Lsize_right.nd rfl (by first | exact Or.inl rfl | exact Or.inr rfl) (pg_call (ok_rank_of T) gd (hr.mono (by decide)) (by rfl) T.m_rank_of T.f_rank_of.kp (b_rank_of T) .nil passL (pa_cons (pv 0) pa_nil)))
      (pss_cons (ps_if (PW.pt (pw_or (pt_val (pe_callB call_isi (by rfl) T.z_isinstance (by decide +kernel) (pa_cons (pv 1) (pa_cons (pe_bltn (v := .ty "bool") (u := .type "bool") (by rfl) T.z_bool (by decide +kernel) rfl) pa_nil)))) (pw_or (pt_not (pt_val (pe_callB call_isi (by rfl) T.z_isinstance (by decide +kernel) (pa_cons (pv 1) (pa_cons (pe_bltn (v := .ty "int") (u := .type "int") (by rfl) T.z_int (by decide +kernel) rfl) pa_nil))))) (pw_or1 (pt_not (pt_chain op_le op_le (pe_int) (pv 1) (pe_int)))))))
        (pss_one (ps_ret (pe_bl)))
        pss_nil)
      (pss_one (ps_ret (pe_and (pe_chain op_le op_lt (pe_op op_shlW (pe_int) (pv 1)) (pv 0) (pe_op op_shlW (pe_int) (pv 1))) (pe_one (pe_cmpR op_eq (pg_callK0 (ok_rank_of T) gd (hr.mono (by decide)) (by rfl) T.m_rank_of T.f_rank_of.kp (kw_rank_of_0_size T) passL (pk_cons (pv 0) pk_nil)) (pv 1) (nomark _))))))))), ?_⟩
  obtain ⟨n, rfl, n1, n2, k⟩ := hc
  have p1 := Nat.log2_self_le (show n ≠ 0 by omega)
  have p2 := (Nat.log2_lt (show n ≠ 0 by omega)).mp (Nat.lt_succ_self n.log2)
  have p3 : n.log2 ≤ 12 := by
    have := (Nat.log2_lt (show n ≠ 0 by omega) (k := 13)).mpr (by omega)
    omega
  have e1 : (1 : Int) * 2 ^ n.log2 = ((2 ^ n.log2 : Nat) : Int) := by rw [Int.one_mul]; simp
  have e2 : (2 : Int) * 2 ^ n.log2 = ((2 ^ (n.log2 + 1) : Nat) : Int) := by rw [Nat.pow_succ]; simp; omega
  rw [Nat.succ_eq_add_one] at p2
  walk_at "go"
  refine rank_is n1 n2 fun ss' => ?_
  obtain ⟨r, hr⟩ : ∃ r, n.log2 = r := ⟨_, rfl⟩
  rw [hr] at p1 p2 p3 e1 e2 ⊢
  walk_at "go"
  rw [decide_eq_true (show (r : Int) ≤ 12 by omega)]
  walk_at "go"
  rw [Int.toNat_natCast, e1, decide_eq_true (show ((2 ^ r : Nat) : Int) ≤ (n : Int) by omega)]
  walk_at "go"
  rw [Int.toNat_natCast, e2, decide_eq_true (show (n : Int) < ((2 ^ (r + 1) : Nat) : Int) by omega)]
  walk_at "go"
  refine ⟨by walk_at "pg1", ?_⟩
  dsimp only [g_kw_rank_of_0_size]
  walk_at "go"
  refine rank_is n1 n2 fun ss' => ?_
  rw [hr]
  walk_at "go"
  rw [decide_eq_true (rfl : V.int (r : Int) = V.int (r : Int))]
  exact k _
end
end Mine
set_option maxHeartbeats 400000
namespace Mine
open PySem PySem.Spec PyProof.Rows L2 GL LamX DD
set_option hygiene false in
local macro_rules | `(tactic| walk_at "rz") => `(tactic| ((with_reducible refine' DS.raise1 rfl rfl ?rzcl ?_); (case rzcl => first | exact T.x_StripError | exact T.x_BadNumber | exact T.x_BadLayout)))
local macro_rules | `(tactic| walk_at "n") => `(tactic| (try dsimp only [sh_d, sh_n, upds, slots, List.length_cons, List.length_nil, of_d, of_n, of_o, at_d, cxOf, Cx.nox, Cx.wish, List.cons_append, List.nil_append, List.map_cons, List.map_nil, Int.reduceToNat, List.set, List.getElem?_cons_zero, List.getElem?_cons_succ, List.set_cons_zero, List.set_cons_succ]))
local macro_rules | `(tactic| walk_at "1") => `(tactic| first
  | (with_reducible refine' DS.seq ?_)
  | (with_reducible refine' DS.next ?_)
  | ((with_reducible refine' DS.ret (DE.move ?h ?q)); (case h => rfl))
  | (with_reducible refine' DS.ret ?_)
  | (with_reducible refine' DS.ite ?_)
  | (with_reducible refine' DS.drop ?_)
  | (with_reducible refine' DT.val ?_)
  | (with_reducible refine' DT.test ?_)
  | (with_reducible refine' DT.not ?_)
  | (with_reducible refine' DT.and ?_)
  | (with_reducible refine' DT.or ?_)
  | (with_reducible refine' DT.yes ?_)
  | (with_reducible refine' DE.and ?_)
  | (with_reducible refine' DE.or ?_)
  | (with_reducible refine' DE.not ?_)
  | (with_reducible refine' DE.ite ?_)
  | ((with_reducible refine' DE.var ?h ?q); (case h => rfl))
  | ((with_reducible refine' DE.own ?h ?q); (case h => rfl))
  | ((with_reducible refine' DE.c ?h ?q); (case h => constructor))
  | ((with_reducible refine' DE.isX ?c ?q); (case c => decide))
  | ((with_reducible refine' DE.isX2 ?c ?c2 ?q); (case c => decide); (case c2 => decide))
  | ((with_reducible refine' DE.isO ?h ?q); (case h => assumption))
  | (with_reducible refine' DE.strO ?_)
  | (with_reducible refine' DE.join ?_)
  | (with_reducible refine' DE.joined ?_)
  | (with_reducible refine' DJ.nil ?_)
  | (with_reducible refine' DJ.cons ?_)
  | (with_reducible refine' DE.tupOf ?_)
  | (with_reducible refine' DE.cb ?_)
  | (with_reducible refine' DE.call ?_)
  | ((with_reducible refine' DE.callY ?hE ?_); (case hE => rfl))
  | ((with_reducible refine' DE.makeY ?hE ?_); (case hE => rfl))
  | walk_at "rz"
  | (with_reducible refine' DE.make ?_)
  | (with_reducible refine' DE.fld ?_)
  | (with_reducible refine' DS.fldN ?_)
  | (with_reducible refine' DE.chain ?_)
  | (with_reducible refine' DE.neg ?_)
  | (with_reducible refine' DE.dnew ?_)
  | (with_reducible refine' DE.dget ?_)
  | (with_reducible refine' DE.get2 ?_)
  | (with_reducible refine' DE.din ?_)
  | ((with_reducible refine' DE.kwX ?hE ?_); (case hE => rfl))
  | (with_reducible refine' DE.kwC ?_)
  | (with_reducible refine' DE.opO ?_)
  | (with_reducible refine' DE.opT (r := rRepT _) ?_)
  | (with_reducible refine' DE.opT (r := rCatA _) ?_)
  | (with_reducible refine' DE.op ?_)
  | ((with_reducible refine' DI.seqV ?h ?h2 ?q); (case h => rfl); (case h2 => first | assumption | rfl))
  | (with_reducible refine' DI.list ?_)
  | (with_reducible refine' DI.tup ?_)
  | (with_reducible refine' DI.zip ?_)
  | (with_reducible refine' DI.enum ?_)
  | (with_reducible refine' DI.rng2 ?_)
  | (with_reducible refine' DI.rng1 ?_)
  | (with_reducible refine' DE.bits ?_)
  | (with_reducible refine' DE.tup ?_)
  | (with_reducible refine' DE.lst ?_)
  | (with_reducible refine' DAo.nil ?_)
  | (with_reducible refine' DAo.cons ?_)
  | (with_reducible refine' DS.setL ?_)
  | (with_reducible refine' DS.dput ?_)
  | (with_reducible refine' DS.asg ?_)
  | ((with_reducible refine' DG.name ?h ?q); (case h => first | exact free_of rfl | exact free_so rfl))
  | ((with_reducible refine' DG.tup ?h ?h2 ?q); (case h => rfl); (case h2 => rfl))
  | ((with_reducible refine' DGo.name ?h ?q); (case h => first | exact free_of rfl | exact free_so rfl))
  | ((with_reducible refine' DGo.tup ?h ?h2 ?q); (case h => rfl); (case h2 => rfl))
  | (with_reducible refine' DGos.cons ?_)
  | (with_reducible refine' DGos.nil ?_)
  | (with_reducible refine' DGs.cons ?_)
  | (with_reducible refine' DGs.nil ?_)
  | ((with_reducible refine' r2_int ?h ?q); (case h => constructor))
  | ((with_reducible refine' r2_isN ?h ?q); (case h => rfl))
  | ((with_reducible refine' r2_notN ?h ?q); (case h => rfl))
  | ((with_reducible refine' rl_lenV ?h ?q); (case h => rfl))
  | ((with_reducible refine' rl_len ?h ?q); (case h => rfl))
  | ((with_reducible refine' rl_int ?h ?q); (case h => rfl))
  | ((with_reducible refine' r2_eq ?h ?h2 ?h3 ?q); (case h => rfl); (case h2 => rfl); (case h3 => rfl))
  | ((with_reducible refine' r2_ne ?h ?h2 ?h3 ?q); (case h => rfl); (case h2 => rfl); (case h3 => rfl))
  | (with_reducible refine' DE.opT ?_)
  | (with_reducible refine' DE.cbT ?_)
  | ((with_reducible refine' r2_fdiv ?h ?q); (case h => exact ⟨by first | omega | decide, by first | omega | decide⟩))
  | ((with_reducible refine' r2_fdivW ?h ?q); (case h => first | exact cdivW2 (by first | omega | decide) (by first | omega | decide)))
  | ((with_reducible refine' r2_mulW ?h ?q); (case h => exact cmulW 64 64 (by first | omega | decide) (by first | omega | decide) (by decide) (by decide) (by decide)))
  | ((with_reducible refine' r2_shl ?h ?q); (case h => exact cshl (by first | omega | decide) (by first | omega | decide) (by first | omega | decide)))
  | ((with_reducible refine' r2_ixTx ?h ?h2 ?q); (case h => rfl); (case h2 => first | rfl | assumption))
  | ((with_reducible refine' r2_ixLx ?h ?h2 ?q); (case h => rfl); (case h2 => first | rfl | assumption))
  | ((with_reducible refine' r2_catTx ?h ?h2 ?h3 ?q); (case h => rfl); (case h2 => rfl); (case h3 => unfold sizeLine; first | omega | (simp; done) | (simp; omega)))
  | ((with_reducible refine' r2_cat ?h ?q); (case h => unfold sizeLine; first | omega | (simp; done) | (simp; omega)))
  | (with_reducible refine' DI.enumT ?_)
  | (with_reducible refine' DE.append ?_)
  | (with_reducible refine' DE.extend ?_)
  | (with_reducible refine' DS.aug ?_)
  | (with_reducible refine' DS.par ?_)
  | (with_reducible refine' DS.par3 ?_)
  | (with_reducible refine' DO.nil ?_)
  | (with_reducible refine' DO.one ?_)
  | (with_reducible refine' DE.slL ?_)
  | (with_reducible refine' DE.slT ?_)
  | ((with_reducible refine' r2_ix ?h ?h2 ?q); (case h => first | rfl | assumption); (case h2 => first | rfl | assumption))
  | (with_reducible refine' rl_abs ?_)
  | (with_reducible refine' rl_max2 ?_)
  | (with_reducible refine' rl_min2 ?_)
  | (with_reducible refine' r2_isBl ?_)
  | (with_reducible refine' r2_neInts ?_)
  | ((with_reducible refine' r2_mul ?h ?q); (case h => first | exact .inl ⟨by first | decide | omega, by first | decide | omega⟩ | exact .inr ⟨by first | decide | omega, by first | decide | omega⟩))
  | ((with_reducible refine' r2_mod ?h ?q); (case h => first | assumption | decide | omega))
  | ((with_reducible refine' r2_pow ?h ?q); (case h => exact ⟨by first | decide | omega, by first | decide | omega, by first | assumption | decide | omega⟩))
  | (with_reducible refine' rl_sumM ?_)
  | (with_reducible refine' rl_allM ?_)
  | (with_reducible refine' rl_anyM ?_)
  | (with_reducible refine' rl_sum ?_)
  | (with_reducible refine' rl_all ?_)
  | (with_reducible refine' rl_any ?_)
  | ((with_reducible refine' ifP ?h ?q); (case h => first | assumption | rfl | decide))
  | ((with_reducible refine' ifN ?h ?q); (case h => first | assumption | (intro z; cases z; done) | decide))
  | (with_reducible assumption)
  | (with_reducible intro (_ : List SV))
  | (refine ⟨_, rfl, rfl, List.nodup_nil, ?_⟩)
  | (refine ⟨_, rfl, rfl, (show List.Nodup _ by decide), ?_⟩)
  | (refine ⟨_, _, _, _, rfl, rfl, rfl, ?_⟩)
  | (refine ⟨_, rfl, ?_⟩)
  | (refine ⟨_, _, rfl, rfl, ?_⟩)
  | (refine ⟨_, _, _, rfl, rfl, ?_⟩)
  | (refine ⟨_, _, _, rfl, ?_⟩)
  | (refine ⟨_, _, rfl, ?_⟩)
  | (refine ⟨(show List.Nodup _ by decide), ?_⟩)
  | (refine ⟨⟨_, _, rfl⟩, ?_⟩)
  | (refine ⟨free_of rfl, ?_⟩)
  | (refine ⟨free_so rfl, ?_⟩)
  | (refine ⟨trivial, ?_⟩)
  | (refine ⟨rfl, ?_⟩)
  | (refine And.intro (by assumption) ?_)
  | (refine ⟨(show _ ≤ sizeLine by unfold sizeLine; first | decide | omega | (simp; done) | (simp; omega)), ?_⟩)
  | (refine ⟨(show _ < sizeLine by unfold sizeLine; first | omega | (simp; omega)), ?_⟩))
local macro_rules | `(tactic| walk_at "go") => `(tactic| (walk_at "n"; repeat (walk_at "1"; walk_at "n")))
local macro_rules | `(tactic| walk_at "goi") => `(tactic| (walk_at "go"; (try split); all_goals walk_at "go"))
local macro_rules | `(tactic| walk_at "own") => `(tactic| (refine' DS.seq (DS.own ?_); walk_at "go"))
local macro_rules | `(tactic| walk_at "gof") => `(tactic| (walk_at "n"; repeat (first | ((with_reducible refine' DE.frz ?h ?q); (case h => rfl)) | walk_at "1"); walk_at "n"))
local macro_rules | `(tactic| walk_at "pg1") => `(tactic| (intro P vs zs h1 h2; cases h1; cases h2 with | cons b1 h2 => cases h2; exact .cons b1 .nil))
local macro_rules | `(tactic| walk_at "pg2") => `(tactic| (intro P vs zs h1 h2; cases h1; cases h2 with | cons b1 h2 => (cases h2 with | cons b2 h2 => (cases h2; first | exact .cons b1 (.cons b2 .nil) | exact .cons b2 (.cons b1 .nil)))))
local macro_rules | `(tactic| walk_at "pg3") => `(tactic| (intro P vs zs h1 h2; cases h1; cases h2 with | cons b1 h2 => (cases h2 with | cons b2 h2 => (cases h2 with | cons b3 h2 => (cases h2; first | exact .cons b1 (.cons b2 (.cons b3 .nil)) | exact .cons b1 (.cons b3 (.cons b2 .nil)) | exact .cons b2 (.cons b1 (.cons b3 .nil)) | exact .cons b2 (.cons b3 (.cons b1 .nil)) | exact .cons b3 (.cons b1 (.cons b2 .nil)) | exact .cons b3 (.cons b2 (.cons b1 .nil)))))))

local macro_rules | `(tactic| walk_at "goE") => `(tactic| (walk_at "n"; repeat ((first | (with_reducible refine' DS.forE ?_) | ((with_reducible refine' DE.lcE ?_ ?h ?_); (case h => exact nown_of rfl)) | ((with_reducible refine' DE.lc2E ?_ ?h ?_); (case h => exact nown_of rfl)) | ((with_reducible refine' DE.dcE ?_ ?h ?_); (case h => exact nown_of rfl)) | walk_at "1"); walk_at "n")))
section
variable {fs : Nat → Addr} {fd : Nat → FuncData} {tk : Nat → Tok} {cp : Cb}
/-- whether the part is the one that is asked for -/
def resR (y : Str) (i : Nat) (ns : List Str) (es : List D) : Option D := match i, ns, es with
  | 1, [n], [.str p] => if n = "part" then some (.bl (decide (V.str p = V.str y))) else none
  | _, _, _ => none
theorem resR_out {y : Str} {i : Nat} {ns : List Str} {es : List D} {d : D} (h : resR y i ns es = some d) : ∃ p, i = 1 ∧ ns = [("part" : Str)] ∧ es = [.str p] ∧ d = .bl (decide (V.str p = V.str y)) := by
  unfold resR at h
  split at h
  · rename_i n p
    split at h
    · rename_i e; subst e; cases h; exact ⟨p, rfl, rfl, rfl, rfl⟩
    · cases h
  · cases h
def ER (K : PySem.W.Frag) (cp : Cb) (y : Str) (Q : VK) : XK := fun cls d G => ∃ (i : Nat) (es : List D) (fs : List (Str × V)) (dd : Addr) (dR : D) (F : Addr → Prop), cls = .ref (cp.x i) ∧ d = some dd ∧ G dd = some (exd dd fs) ∧ Trk F G ∧ DvA K cp F G (fs.map (·.2)) es ∧ resR y i (fs.map (·.1)) es = some dR ∧ ∀ v G', Ex G G' → Dv K cp F G' v dR → Q v G'
set_option maxHeartbeats 2000000 in
theorem gives_Lis_refused {X : Cx} {q : Str} (T : Txt X.K X.mg fs fd tk cp.x cp.c) (cdv : Value) : Gives X N_Lis_refused "_law_is_refused" (defScope s_Lis_refused) (fs 34) cdv (defBody s_Lis_refused) "ask" q (TTs X.K cp resR (.bl false)) := by
  intro f c' s H Q vs tl act hc h
  obtain ⟨y, rfl, h⟩ := h
  refine ⟨_, ((pss_cons (ps_set (i := 2) sc_Lis_refused.nd rfl (by first | exact Or.inl rfl | exact Or.inr rfl) (pe_non))
      (pss_cons (ps_tryL (i := 3) (hds := []) rfl rfl sc_Lis_refused.nd rfl rfl ⟨by rfl, by decide, Or.inl T.m_StripError⟩
        (fun W pn xe tk _ => by exact (pss_one (ps_expr (act W pn xe _ _ tk))))
        .nil
        (fun a pn => by exact (pss_one (ps_set (i := 2) sc_Lis_refused.nd rfl (by first | exact Or.inl rfl | exact Or.inr rfl) (pv 3)))) ⟨_, _, rfl⟩)
      (pss_one (ps_ret (pe_and (pe_callB call_isE (by rfl) T.z_isinstance (by decide +kernel) (pa_cons (pv 2) (pa_cons (pe_glob (v := .ref (cp.x 1)) (by rfl) T.m_BadNumber rfl) pa_nil))) (pe_one (pe_cmpR op_eq (pe_atX (f := "part") (pv 2)) (pv 1) (nomark _))))))))), ?_⟩
  refine ⟨ER X.K cp y Q, fun cls d G he => ⟨fun _ z => (List.not_mem_nil z).elim, ?_⟩, rfl, hc, h _ _ (fun v G qn => ?_) fun i es fs dd G d F h1 h2 h3 h4 h5 => ⟨i, es, fs, dd, d, F, rfl, rfl, h1, h2, h3, h4, h5⟩⟩
  · obtain ⟨i, es, fs, dd, dR, F, rfl, rfl, hdd, trk, dva, hres, k⟩ := he
    obtain ⟨p, rfl, ens, rfl, rfl⟩ := resR_out hres
    obtain ⟨v, rfl, ev⟩ : ∃ v : V, fs = [(("part" : Str), v)] ∧ v = .str p := by
      cases fs with
      | nil => cases ens
      | cons p fs =>
        obtain ⟨n, v⟩ := p
        simp only [List.map_cons, List.cons.injEq, List.map_eq_nil_iff] at ens
        obtain ⟨rfl, rfl⟩ := ens
        cases dva with
        | cons h1 h2 => exact ⟨v, rfl, dv_str h1⟩
    subst ev
    refine ⟨T.exm_1, fun a G' na x => ?_⟩
    obtain ⟨φ, rfl, h2⟩ := x
    have nb : dd ≠ a := fun e => by rw [← e, hdd] at na; cases na
    have e1 : Ex G (upd G a (.ext φ)) := Ex.nw na
    have ef : Ef (upd G a (.ext φ)) a (cp.x 1) [("part", .str p)] := ⟨some dd, φ, upd_same, h2, by show upd G a _ dd = _; rw [upd_ne nb]; exact hdd⟩
    generalize upd G a (.ext φ) = G1 at e1 ef
    refine ⟨_, rfl, ?_⟩
    refine ⟨_, rfl, .inr ⟨a, cp.x 1, .ref (cp.x 1), .ref (cp.x 1), true, rfl, ef.ei, T.x_BadNumber, fun u r => r, T.isc_11, true, rfl, iteT ?_⟩⟩
    refine ⟨_, rfl, a, cp.x 1, _, .str p, rfl, ef, T.x_BadNumber, T.n_BadNumber_part, rfl, _, rfl, ?_⟩
    trace_state
    exact ⟨rfl, k _ _ e1 (.bl _)⟩
  · exact ⟨_, rfl, .inl ⟨.non, .ref (cp.x 1), _, _, false, rfl, .own _, .base .non, T.ino_n1, false, rfl, iteF (qn _ (Ex.rfl' _))⟩⟩
end
end Mine
set_option maxHeartbeats 400000
namespace Mine
open PySem PySem.Spec PyProof.Rows L2 GL LamX DD
section
variable {P : Program} {w : World} {K : PySem.W.Frag} {mg : Str → Option Value} {base : Heap} {fs : Nat → Addr} {fd : Nat → FuncData} {tk : Nat → Tok} {cp : Cb}
theorem sizes_ok {f : Nat} {ns : List Int} (hf : f < 12) (hl : ns.length = 6) (hn : ∀ x ∈ ns, 1 ≤ x ∧ x ≤ 4096) : ∃ S : List Int, (D.int 1 :: D.int 2 :: D.int 3 :: D.int 4095 :: D.int 4096 :: D.int ((2 ^ f : Nat) : Int) :: D.int (((2 ^ (f + 1) : Nat) : Int) - 1) :: D.int ((2 ^ (f + 1) : Nat) : Int) :: ns.map D.int) = S.map .int ∧ S ≠ [] ∧ S.length ≤ 14 ∧ ∀ x ∈ S, 1 ≤ x ∧ x ≤ 4096 := by
  refine ⟨[1, 2, 3, 4095, 4096, ((2 ^ f : Nat) : Int), ((2 ^ (f + 1) : Nat) : Int) - 1, ((2 ^ (f + 1) : Nat) : Int)] ++ ns, by simp, by simp, by simp; omega, fun x hx => ?_⟩
  have a : 2 ^ f ≤ 2 ^ 11 := Nat.pow_le_pow_right (by decide) (by omega)
  have b : 0 < 2 ^ f := Nat.pow_pos (by decide)
  have c : 2 ^ (f + 1) = 2 * 2 ^ f := by rw [Nat.pow_succ]; omega
  rcases List.mem_append.mp hx with h | h
  · simp only [List.mem_cons, List.not_mem_nil, or_false] at h
    rcases h with rfl | rfl | rfl | rfl | rfl | rfl | rfl | rfl <;> omega
  · exact hn x h
def Odd9 (d : D) : Prop := Nob d ∧ sD d = false
def Bad9 (d : D) : Prop := Nob d ∧ qD d = false
theorem odd9_of {y : D} (h : y ∈ [D.int 0, D.int 4097, D.int (-1), D.bl true, D.non, D.str (Str.ofString "4"), D.lst [D.int 4], D.int (10 ^ 20), D.tup [D.int 1]]) : Odd9 y := by
  simp only [List.mem_cons, List.not_mem_nil, or_false] at h
  rcases h with rfl | rfl | rfl | rfl | rfl | rfl | rfl | rfl | rfl <;> exact ⟨trivial, by decide⟩
theorem bad9_of {y : D} (h : y ∈ [D.int 1, D.int 65, D.int 0, D.int (-2), D.bl true, D.non, D.str (Str.ofString "2"), D.lst [D.int 2], D.int (10 ^ 20)]) : Bad9 y := by
  simp only [List.mem_cons, List.not_mem_nil, or_false] at h
  rcases h with rfl | rfl | rfl | rfl | rfl | rfl | rfl | rfl | rfl <;> exact ⟨trivial, by decide⟩
theorem tx_ok : ∀ m : Fin 65, Str.empty ++ Str.ofString "q " ++ Str.ofString (toString ((m.val : Nat) : Int)) ++ Str.ofString " puts 0" = tx m.val ∧ PyData.canLay0 (.str (tx m.val)) = true ∧ PyData.leavesShort 100 (.str (tx m.val)) = true ∧ (tx m.val).length ≤ 30 ∧ (Str.empty ++ Str.ofString "q " ++ Str.ofString (toString ((m.val : Nat) : Int))).length ≤ 30 := by decide +kernel
theorem kindOk_so (l k b : Bool) (o : Option D) : kindOk l k b (so o) = true := by cases o <;> rfl
theorem lend_so (o : Option D) : lend (so o) = so o := by cases o <;> rfl
end
end Mine
set_option maxHeartbeats 400000
set_option pp.maxSteps 700
namespace Mine
open PySem PySem.Spec PyProof.Rows L2 GL LamX DD
set_option hygiene false in
local macro_rules | `(tactic| walk_at "rz") => `(tactic| ((with_reducible refine' DS.raise1 rfl rfl ?rzcl ?_); (case rzcl => first | exact T.x_StripError | exact T.x_BadNumber | exact T.x_BadLayout)))
local macro_rules | `(tactic| walk_at "n") => `(tactic| (try dsimp only [sh_d, sh_n, upds, slots, List.length_cons, List.length_nil, of_d, of_n, of_o, at_d, cxOf, Cx.nox, Cx.wish, List.cons_append, List.nil_append, List.map_cons, List.map_nil, Int.reduceToNat, List.set, List.getElem?_cons_zero, List.getElem?_cons_succ, List.set_cons_zero, List.set_cons_succ]))
local macro_rules | `(tactic| walk_at "1") => `(tactic| first
  | (with_reducible refine' DS.seq ?_)
  | (with_reducible refine' DS.next ?_)
  | ((with_reducible refine' DS.ret (DE.move ?h ?q)); (case h => rfl))
  | (with_reducible refine' DS.ret ?_)
  | (with_reducible refine' DS.ite ?_)
  | (with_reducible refine' DS.drop ?_)
  | (with_reducible refine' DT.val ?_)
  | (with_reducible refine' DT.test ?_)
  | (with_reducible refine' DT.not ?_)
  | (with_reducible refine' DT.and ?_)
  | (with_reducible refine' DT.or ?_)
  | (with_reducible refine' DT.yes ?_)
  | (with_reducible refine' DE.and ?_)
  | (with_reducible refine' DE.or ?_)
  | (with_reducible refine' DE.not ?_)
  | (with_reducible refine' DE.ite ?_)
  | ((with_reducible refine' DE.var ?h ?q); (case h => rfl))
  | ((with_reducible refine' DE.own ?h ?q); (case h => rfl))
  | ((with_reducible refine' DE.c ?h ?q); (case h => constructor))
  | ((with_reducible refine' DE.isX ?c ?q); (case c => decide))
  | ((with_reducible refine' DE.isX2 ?c ?c2 ?q); (case c => decide); (case c2 => decide))
  | ((with_reducible refine' DE.isO ?h ?q); (case h => assumption))
  | (with_reducible refine' DE.strO ?_)
  | (with_reducible refine' DE.join ?_)
  | (with_reducible refine' DE.joined ?_)
  | (with_reducible refine' DJ.nil ?_)
  | (with_reducible refine' DJ.cons ?_)
  | (with_reducible refine' DE.tupOf ?_)
  | (with_reducible refine' DE.cb ?_)
  | (with_reducible refine' DE.call ?_)
  | ((with_reducible refine' DE.callY ?hE ?_); (case hE => rfl))
  | ((with_reducible refine' DE.makeY ?hE ?_); (case hE => rfl))
  | walk_at "rz"
  | (with_reducible refine' DE.make ?_)
  | (with_reducible refine' DE.fld ?_)
  | (with_reducible refine' DS.fldN ?_)
  | (with_reducible refine' DE.chain ?_)
  | (with_reducible refine' DE.neg ?_)
  | (with_reducible refine' DE.dnew ?_)
  | (with_reducible refine' DE.dget ?_)
  | (with_reducible refine' DE.get2 ?_)
  | (with_reducible refine' DE.din ?_)
  | ((with_reducible refine' DE.kwX ?hE ?_); (case hE => rfl))
  | (with_reducible refine' DE.kwC ?_)
  | (with_reducible refine' DE.opO ?_)
  | (with_reducible refine' DE.opT (r := rRepT _) ?_)
  | (with_reducible refine' DE.opT (r := rCatA _) ?_)
  | (with_reducible refine' DE.op ?_)
  | ((with_reducible refine' DI.seqV ?h ?h2 ?q); (case h => rfl); (case h2 => first | assumption | rfl))
  | (with_reducible refine' DI.list ?_)
  | (with_reducible refine' DI.tup ?_)
  | (with_reducible refine' DI.zip ?_)
  | (with_reducible refine' DI.enum ?_)
  | (with_reducible refine' DI.rng2 ?_)
  | (with_reducible refine' DI.rng1 ?_)
  | (with_reducible refine' DE.bits ?_)
  | (with_reducible refine' DE.tup ?_)
  | (with_reducible refine' DE.lst ?_)
  | (with_reducible refine' DAo.nil ?_)
  | (with_reducible refine' DAo.cons ?_)
  | (with_reducible refine' DS.setL ?_)
  | (with_reducible refine' DS.dput ?_)
  | (with_reducible refine' DS.asg ?_)
  | ((with_reducible refine' DG.name ?h ?q); (case h => first | exact free_of rfl | exact free_so rfl))
  | ((with_reducible refine' DG.tup ?h ?h2 ?q); (case h => rfl); (case h2 => rfl))
  | ((with_reducible refine' DGo.name ?h ?q); (case h => first | exact free_of rfl | exact free_so rfl))
  | ((with_reducible refine' DGo.tup ?h ?h2 ?q); (case h => rfl); (case h2 => rfl))
  | (with_reducible refine' DGos.cons ?_)
  | (with_reducible refine' DGos.nil ?_)
  | (with_reducible refine' DGs.cons ?_)
  | (with_reducible refine' DGs.nil ?_)
  | ((with_reducible refine' r2_int ?h ?q); (case h => constructor))
  | ((with_reducible refine' r2_isN ?h ?q); (case h => rfl))
  | ((with_reducible refine' r2_notN ?h ?q); (case h => rfl))
  | ((with_reducible refine' rl_lenV ?h ?q); (case h => rfl))
  | ((with_reducible refine' rl_len ?h ?q); (case h => rfl))
  | ((with_reducible refine' rl_int ?h ?q); (case h => rfl))
  | ((with_reducible refine' r2_eq ?h ?h2 ?h3 ?q); (case h => rfl); (case h2 => rfl); (case h3 => rfl))
  | ((with_reducible refine' r2_ne ?h ?h2 ?h3 ?q); (case h => rfl); (case h2 => rfl); (case h3 => rfl))
  | (with_reducible refine' DE.opT ?_)
  | (with_reducible refine' DE.cbT ?_)
  | ((with_reducible refine' r2_fdiv ?h ?q); (case h => exact ⟨by first | omega | decide, by first | omega | decide⟩))
  | ((with_reducible refine' r2_fdivW ?h ?q); (case h => first | exact cdivW2 (by first | omega | decide) (by first | omega | decide)))
  | ((with_reducible refine' r2_mulW ?h ?q); (case h => exact cmulW 64 64 (by first | omega | decide) (by first | omega | decide) (by decide) (by decide) (by decide)))
  | ((with_reducible refine' r2_shl ?h ?q); (case h => exact cshl (by first | omega | decide) (by first | omega | decide) (by first | omega | decide)))
  | ((with_reducible refine' r2_ixTx ?h ?h2 ?q); (case h => rfl); (case h2 => first | rfl | assumption))
  | ((with_reducible refine' r2_ixLx ?h ?h2 ?q); (case h => rfl); (case h2 => first | rfl | assumption))
  | ((with_reducible refine' r2_catTx ?h ?h2 ?h3 ?q); (case h => rfl); (case h2 => rfl); (case h3 => unfold sizeLine; first | omega | (simp; done) | (simp; omega)))
  | ((with_reducible refine' r2_cat ?h ?q); (case h => unfold sizeLine; first | omega | (simp; done) | (simp; omega)))
  | (with_reducible refine' DI.enumT ?_)
  | (with_reducible refine' DE.append ?_)
  | (with_reducible refine' DE.extend ?_)
  | (with_reducible refine' DS.aug ?_)
  | (with_reducible refine' DS.par ?_)
  | (with_reducible refine' DS.par3 ?_)
  | (with_reducible refine' DO.nil ?_)
  | (with_reducible refine' DO.one ?_)
  | (with_reducible refine' DE.slL ?_)
  | (with_reducible refine' DE.slT ?_)
  | ((with_reducible refine' r2_ix ?h ?h2 ?q); (case h => first | rfl | assumption); (case h2 => first | rfl | assumption))
  | (with_reducible refine' rl_abs ?_)
  | (with_reducible refine' rl_max2 ?_)
  | (with_reducible refine' rl_min2 ?_)
  | (with_reducible refine' r2_isBl ?_)
  | (with_reducible refine' r2_neInts ?_)
  | ((with_reducible refine' r2_mul ?h ?q); (case h => first | exact .inl ⟨by first | decide | omega, by first | decide | omega⟩ | exact .inr ⟨by first | decide | omega, by first | decide | omega⟩))
  | ((with_reducible refine' r2_mod ?h ?q); (case h => first | assumption | decide | omega))
  | ((with_reducible refine' r2_pow ?h ?q); (case h => exact ⟨by first | decide | omega, by first | decide | omega, by first | assumption | decide | omega⟩))
  | (with_reducible refine' rl_sumM ?_)
  | (with_reducible refine' rl_allM ?_)
  | (with_reducible refine' rl_anyM ?_)
  | (with_reducible refine' rl_sum ?_)
  | (with_reducible refine' rl_all ?_)
  | (with_reducible refine' rl_any ?_)
  | ((with_reducible refine' ifP ?h ?q); (case h => first | assumption | rfl | decide))
  | ((with_reducible refine' ifN ?h ?q); (case h => first | assumption | (intro z; cases z; done) | decide))
  | (with_reducible assumption)
  | (with_reducible intro (_ : List SV))
  | (refine ⟨_, rfl, rfl, List.nodup_nil, ?_⟩)
  | (refine ⟨_, rfl, rfl, (show List.Nodup _ by decide), ?_⟩)
  | (refine ⟨_, _, _, _, rfl, rfl, rfl, ?_⟩)
  | (refine ⟨_, rfl, ?_⟩)
  | (refine ⟨_, _, rfl, rfl, ?_⟩)
  | (refine ⟨_, _, _, rfl, rfl, ?_⟩)
  | (refine ⟨_, _, _, rfl, ?_⟩)
  | (refine ⟨_, _, rfl, ?_⟩)
  | (refine ⟨(show List.Nodup _ by decide), ?_⟩)
  | (refine ⟨⟨_, _, rfl⟩, ?_⟩)
  | (refine ⟨free_of rfl, ?_⟩)
  | (refine ⟨free_so rfl, ?_⟩)
  | (refine ⟨trivial, ?_⟩)
  | (refine ⟨rfl, ?_⟩)
  | (refine And.intro (by assumption) ?_)
  | (refine ⟨(show _ ≤ sizeLine by unfold sizeLine; first | decide | omega | (simp; done) | (simp; omega)), ?_⟩)
  | (refine ⟨(show _ < sizeLine by unfold sizeLine; first | omega | (simp; omega)), ?_⟩))
local macro_rules | `(tactic| walk_at "go") => `(tactic| (walk_at "n"; repeat (walk_at "1"; walk_at "n")))
local macro_rules | `(tactic| walk_at "goi") => `(tactic| (walk_at "go"; (try split); all_goals walk_at "go"))
local macro_rules | `(tactic| walk_at "own") => `(tactic| (refine' DS.seq (DS.own ?_); walk_at "go"))
local macro_rules | `(tactic| walk_at "gof") => `(tactic| (walk_at "n"; repeat (first | ((with_reducible refine' DE.frz ?h ?q); (case h => rfl)) | walk_at "1"); walk_at "n"))
local macro_rules | `(tactic| walk_at "pg1") => `(tactic| (intro P vs zs h1 h2; cases h1; cases h2 with | cons b1 h2 => cases h2; exact .cons b1 .nil))
local macro_rules | `(tactic| walk_at "pg2") => `(tactic| (intro P vs zs h1 h2; cases h1; cases h2 with | cons b1 h2 => (cases h2 with | cons b2 h2 => (cases h2; first | exact .cons b1 (.cons b2 .nil) | exact .cons b2 (.cons b1 .nil)))))
local macro_rules | `(tactic| walk_at "pg3") => `(tactic| (intro P vs zs h1 h2; cases h1; cases h2 with | cons b1 h2 => (cases h2 with | cons b2 h2 => (cases h2 with | cons b3 h2 => (cases h2; first | exact .cons b1 (.cons b2 (.cons b3 .nil)) | exact .cons b1 (.cons b3 (.cons b2 .nil)) | exact .cons b2 (.cons b1 (.cons b3 .nil)) | exact .cons b2 (.cons b3 (.cons b1 .nil)) | exact .cons b3 (.cons b1 (.cons b2 .nil)) | exact .cons b3 (.cons b2 (.cons b1 .nil)))))))

section
variable {P : Program} {w : World} {K : PySem.W.Frag} {mg : Str → Option Value} {base : Heap} {fs : Nat → Addr} {fd : Nat → FuncData} {tk : Nat → Tok} {cp : Cb}
set_option maxHeartbeats 4000000 in
theorem ok_lawD (sb : SmB base) {P0 : Addr} (tb0 : TabF K base mg (fs 36) P0) (hT : cp.T = TL P0) (T : Txt K mg fs fd tk cp.x cp.c) : FnG P w K mg base CX0 10 (fs 36) (fd 36) P_law (spLaw K P0) := by
  refine Fun.okGC T.f_law sc_law (fun vs H Q E h => ?_) (fun cd A out s H vs Q E gd hcf hr h => ?_)
  · obtain ⟨a, ns, rfl, _⟩ := h
    rfl
  · obtain ⟨a, ns, rfl, hS, hl, g0, k⟩ := h
    obtain ⟨c, rfl, tbc⟩ := tb0.code hcf
    refine ⟨_, PSs.nox ((pss_cons (ps_set (i := 1) sc_law.nd rfl (by first | exact Or.inl rfl | exact Or.inr rfl) (pg_call (ok_Lruler T) gd (hr.mono (by decide)) (by rfl) T.m_Lruler T.f_Lruler.kp (b_Lruler T) .nil pass0 (pa_cons (pv 0) pa_nil)))
      (pss_cons (ps_set (i := 2) sc_law.nd rfl (by first | exact Or.inl rfl | exact Or.inr rfl) (pg_call (ok_Lnotch T) gd (hr.mono (by decide)) (by rfl) T.m_Lnotch T.f_Lnotch.kp (b_Lnotch T) .nil pass0 (pa_cons (pv 1) (pa_cons (pe_int) pa_nil))))
      (pss_cons (ps_set (i := 3) sc_law.nd rfl (by first | exact Or.inl rfl | exact Or.inr rfl) (pe_op op_cat (pe_lst (pa_cons (pe_int) (pa_cons (pe_int) (pa_cons (pe_int) (pa_cons (pe_int) (pa_cons (pe_int) (pa_cons (pe_op op_shlW (pe_int) (pv 2)) (pa_cons (pe_op op_sub (pe_op op_shlW (pe_int) (pv 2)) (pe_int)) (pa_cons (pe_op op_shlW (pe_int) (pv 2)) pa_nil))))))))) (pe_lc (own := [("turn", 4)]) (g := gName 4) (tt := tYes) rfl sc_law.nd (pi_range1 (by rfl) T.z_range (pa_cons (pe_int) pa_nil)) (blkOk_by (own := [("turn", 4)]) (N := N_law) (sc := defScope s_law) (by decide +kernel)) (fun _ _ _ _ _ => (pg_name (i := 4) sc_law.nd rfl (Or.inl rfl))) (fun _ _ _ _ _ => pts_nil) (fun _ _ _ _ _ => pe_op op_add (pe_int) (pg_call (ok_Lnotch T) gd (hr.mono (by decide)) (by rfl) T.m_Lnotch T.f_Lnotch.kp (b_Lnotch T) .nil pass0 (pa_cons (pv 1) (pa_cons (pe_int) pa_nil)))))))
      (pss_cons (ps_if (pt_cmpR (op_neX hr.units) (pe_lc (own := [("size", 5)]) (g := gName 5) rfl sc_law.nd (pi_list (pv 3)) (blkOk_by (own := [("size", 5)]) (N := N_law) (sc := defScope s_law) (by decide +kernel)) (fun _ _ _ _ _ => (pg_name (i := 5) sc_law.nd rfl (Or.inl rfl))) (fun _ _ _ _ _ => (pts_one (pt_not (pt_val (pg_call (ok_Lsize_right T) gd (hr.mono (by decide)) (by rfl) T.m_Lsize_right T.f_Lsize_right.kp (b_Lsize_right T) .nil pass0 (pa_cons (pv 5) pa_nil)))))) (fun _ _ _ _ _ => pv 5)) (pe_lst pa_nil) (nomark _))
        (pss_one (ps_ret (pe_bl)))
        pss_nil)
      (pss_cons (ps_set (i := 6) sc_law.nd rfl (by first | exact Or.inl rfl | exact Or.inr rfl) (pg_call (ok_Lone T) gd (hr.mono (by decide)) (by rfl) T.m_Lone T.f_Lone.kp (b_Lone T) .nil pass0 (pa_cons (pv 1) (pa_cons (pe_lst (pa_cons (pe_int) (pa_cons (pe_int) (pa_cons (pe_op op_add (pe_int) (pg_call (ok_Lnotch T) gd (hr.mono (by decide)) (by rfl) T.m_Lnotch T.f_Lnotch.kp (b_Lnotch T) .nil pass0 (pa_cons (pv 1) (pa_cons (pe_int) pa_nil)))) pa_nil)))) pa_nil))))
      (pss_cons (ps_set (i := 7) sc_law.nd rfl (by first | exact Or.inl rfl | exact Or.inr rfl) (pg_call (ok_empty T) gd (hr.mono (by decide)) (by rfl) T.m_empty T.f_empty.kp (b_empty T) .nil passL (pa_cons (pv 6) pa_nil)))
      (pss_cons (ps_if (PW.pt (pw_or (pt_not (pt_val (pe_callB call_isi (by rfl) T.z_isinstance (by decide +kernel) (pa_cons (pv 7) (pa_cons (pe_glob (v := .ref (cp.c 0)) (by rfl) T.m_Layout rfl) pa_nil))))) (pw_or (pt_cmpR op_ne (pe_callB (call_reprX gd hr) (by rfl) T.z_repr (by decide +kernel) (pa_cons (pe_lst (pa_cons (pe_fld (f := "q") (pv 7) rfl) (pa_cons (pe_fld (f := "puts") (pv 7) rfl) (pa_cons (pe_fld (f := "regions") (pv 7) rfl) (pa_cons (pe_callTy (call_strO T.st_Layout T.sf_Layout (ok_Layout_str T) gd (hr.mono (by decide)) (b_Layout_str T) pass0) (by rfl) T.z_str (by decide +kernel) (pa_cons (pv 7) pa_nil)) pa_nil))))) pa_nil)) (pe_callB (call_reprX gd hr) (by rfl) T.z_repr (by decide +kernel) (pa_cons (pe_lst (pa_cons (pv 6) (pa_cons (pe_int) (pa_cons (pe_tup pa_nil) (pa_cons (pe_joined (PJ.cons pe_str (PJ.cons (pe_fmt (pv 6)) (PJ.cons pe_str PJ.nil)))) pa_nil))))) pa_nil)) (nomark _)) (pw_or1 (pt_cmpR (op_neO T.o_Layout (ok_Layout_eq T) gd (hr.mono (by decide)) (b_Layout_eq T) pass0) (pv 7) (pg_callK0 (ok_empty T) gd (hr.mono (by decide)) (by rfl) T.m_empty T.f_empty.kp (kw_empty_0_q T) passL (pk_cons (pv 6) pk_nil)) (nomark _))))))
        (pss_one (ps_ret (pe_bl)))
        pss_nil)
      (pss_cons (ps_if (pt_cmpR (op_eqO T.o_Layout (ok_Layout_eq T) gd (hr.mono (by decide)) (b_Layout_eq T) pass0) (pv 7) (pg_call (ok_empty T) gd (hr.mono (by decide)) (by rfl) T.m_empty T.f_empty.kp (b_empty T) .nil passL (pa_cons (pe_op op_add (pe_int) (pe_callTy call_int1 (by rfl) T.z_int (by decide +kernel) (pa_cons (pe_cmpR op_eq (pv 6) (pe_int) (nomark _)) pa_nil))) pa_nil)) (nomark _))
        (pss_one (ps_ret (pe_bl)))
        pss_nil)
      (pss_cons (ps_if (pt_cmpR op_ne (pe_callB (call_reprX gd hr) (by rfl) T.z_repr (by decide +kernel) (pa_cons (pe_lst (pa_cons (pg_call (ok_length T) gd (hr.mono (by decide)) (by rfl) T.m_length T.f_length.kp (b_length T) .nil pass0 (pa_cons (pv 7) pa_nil)) (pa_cons (pg_call (ok_live T) gd (hr.mono (by decide)) (by rfl) T.m_live T.f_live.kp (b_live T) .nil pass0 (pa_cons (pv 7) pa_nil)) (pa_cons (pg_call (ok_places T) gd (hr.mono (by decide)) (by rfl) T.m_places T.f_places.kp (b_places T) .nil pass0 (pa_cons (pv 7) pa_nil)) (pa_cons (pg_call (ok_room_for T) gd (hr.mono (by decide)) (by rfl) T.m_room_for T.f_room_for.kp (b_room_for T) .nil pass0 (pa_cons (pv 7) (pa_cons (pg_call (ok_Lone T) gd (hr.mono (by decide)) (by rfl) T.m_Lone T.f_Lone.kp (b_Lone T) .nil pass0 (pa_cons (pv 1) (pa_cons (pv 3) pa_nil))) pa_nil))) pa_nil))))) pa_nil)) (pe_callB (call_reprX gd hr) (by rfl) T.z_repr (by decide +kernel) (pa_cons (pe_lst (pa_cons (pe_int) (pa_cons (pe_int) (pa_cons (pe_tup pa_nil) (pa_cons (pe_non) pa_nil))))) pa_nil)) (nomark _))
        (pss_one (ps_ret (pe_bl)))
        pss_nil)
      (pss_cons (ps_asg (pe_tup (pa_cons (pg_call (ok_Lone T) gd (hr.mono (by decide)) (by rfl) T.m_Lone T.f_Lone.kp (b_Lone T) .nil pass0 (pa_cons (pv 1) (pa_cons (pe_lst (pa_cons (pe_int) (pa_cons (pe_int) (pa_cons (pe_un un_neg (pe_int)) (pa_cons (pe_bl) (pa_cons (pe_non) (pa_cons (pe_str) (pa_cons (pe_lst (pa_cons (pe_int) pa_nil)) (pa_cons (pe_op op_pow (pe_int) (pe_int)) (pa_cons (pe_tup (pa_cons (pe_int) pa_nil)) pa_nil)))))))))) pa_nil))) (pa_cons (pg_call (ok_Lone T) gd (hr.mono (by decide)) (by rfl) T.m_Lone T.f_Lone.kp (b_Lone T) .nil pass0 (pa_cons (pv 1) (pa_cons (pe_lst (pa_cons (pe_int) (pa_cons (pe_int) (pa_cons (pe_int) (pa_cons (pe_un un_neg (pe_int)) (pa_cons (pe_bl) (pa_cons (pe_non) (pa_cons (pe_str) (pa_cons (pe_lst (pa_cons (pe_int) pa_nil)) (pa_cons (pe_op op_pow (pe_int) (pe_int)) pa_nil)))))))))) pa_nil))) pa_nil))) (pg_tup rfl (pgs_cons (pg_name (i := 8) sc_law.nd rfl (by first | exact Or.inl rfl | exact Or.inr rfl)) (pgs_cons (pg_name (i := 9) sc_law.nd rfl (by first | exact Or.inl rfl | exact Or.inr rfl)) pgs_nil))))
      (pss_one (ps_ret (pe_and (pe_lamG (k := 5) (T := TL P0) (c := c) (ks := []) (ls := []) gd (hr.mono (by decide)) (by rfl) T.m_Lis_refused T.f_Lis_refused (b_Lis_refused T) sc_Lis_refused rfl (Or.inl rfl) (gives_Lis_refused T) tbc rfl (TL.m0) (TL.u0) (lamT_by (N := N_law) (sc := defScope s_law) (by decide +kernel)) ⟨rfl, rfl, (.inl ⟨rfl, rfl⟩)⟩ (bindD0 fun _ _ _ _ _ _ => rfl) (fun _ _ _ _ _ _ _ gdL hrL => (pg_call (ok_rank_of T) gdL (hrL.mono (by decide)) (by rfl) T.m_rank_of T.f_rank_of.kp (b_rank_of T) .nil (passes_call (takes_of rfl rfl rfl rfl) fun _ _ _ _ h => h) (pa_cons (pv 8) pa_nil))) (pa_cons (pe_str) pa_nil)) (pe_one (pe_lamG (k := 7) (T := TL P0) (c := c) (ks := [0]) (ls := ["a1"]) gd (hr.mono (by decide)) (by rfl) T.m_Lis_refused T.f_Lis_refused (b_Lis_refused T) sc_Lis_refused rfl (Or.inl rfl) (gives_Lis_refused T) tbc rfl (TL.m0) (TL.u0) (lamT_by (N := N_law) (sc := defScope s_law) (by decide +kernel)) ⟨rfl, rfl, (.inr ⟨_, _, _, rfl, rfl⟩)⟩ (bindD1 (by exact fun _ _ _ _ _ _ _ => ⟨_, rfl, fun _ => rfl⟩)) (fun _ _ _ _ _ _ _ gdL hrL => (pg_call (ok_empty T) gdL (hrL.mono (by decide)) (by rfl) T.m_empty T.f_empty.kp (b_empty T) .nil (passes_call (takes_of rfl rfl rfl rfl) fun _ _ _ _ h => h) (pa_cons (pv 9) pa_nil))) (pa_cons (pe_str) pa_nil))))))))))))))))), ?_⟩
    refine ⟨_, rfl, a, ns, rfl, hS, hl, fun p d H1 hp r e1 => ?_⟩
    have t1 : Tabs cp.T H1 := by
      rw [hT]
      refine Tabs.ext (fun q hq => ?_) e1
      simp only [TL, List.mem_cons, List.not_mem_nil, or_false] at hq
      rw [hq]
      exact TabS.nil g0
    dsimp only [gName]
    refine law_go (K := K) (cp := cp) (k := 8) (a := .ref a) r t1 rfl k fun c1 hc1 => ?_
    have hki := T.isl
    have tii := T.t_Layout
    walk_at "n"
    refine DS.seqH fun t1 e1 => ?_
    walk_at "go"
    refine ⟨c1, 12, 0, rfl, hc1, by omega, by decide, by decide, fun r c2 s2 r0 r1 hk2 => ?_⟩
    obtain ⟨f, rfl⟩ := Int.eq_ofNat_of_zero_le r0
    walk_at "go"
    subst e1
    refine DS.seqH fun t2 e2 => ?_
    have e1 : (1 : Int) * 2 ^ (f : Int).toNat = ((2 ^ f : Nat) : Int) := by rw [Int.toNat_natCast, Int.one_mul]; simp
    have e2' : (2 : Int) * 2 ^ (f : Int).toNat = ((2 ^ (f + 1) : Nat) : Int) := by rw [Int.toNat_natCast, Nat.pow_succ]; simp; omega
    walk_at "go"
    rw [e1, e2']
    refine' DE.lcRk (ts := [4]) 6 1 (fun c => [.no, .ow false c, .sh (.int (f : Int)), .no, .no, .no, .no, .no, .no, .no]) (fun _ z => 1 ≤ z ∧ z ≤ 4096) (by decide) hk2 ?i1 (by rfl) (fun _ => nown_of rfl) ?i3 ?i4
    case i1 =>
      walk_at "go"
      refine ⟨by decide, by decide, rfl, ?_⟩
      rfl
    case i3 =>
      intro i c6 n6 hi hk6 hn6
      walk_at "go"
      refine ⟨c6, 4096, n6, rfl, hk6, by omega, by decide, by decide, fun r1 c7 s7 r10 r11 hk7 => ?_⟩
      walk_at "go"
      refine ⟨c7, _, rfl, ⟨by omega, by omega⟩, hk7, nown_of rfl, rfl, fun i hi => by simp at hi; subst hi; rfl, rfl⟩
    case i4 =>
      intro ns c4 nl np hk4
      obtain ⟨S, hS, hS0, hSl, hSb⟩ := sizes_ok (f := f) (by omega) nl (fun x hx => by obtain ⟨_, _, h⟩ := np x hx; exact h)
      walk_at "go"
      rw [hS]
      subst e2
      refine DS.seqH fun t3 e3 => ?_
      walk_at "go"
      refine' DE.lcP S D.int (fun _ => false) D.int (by omega) ?i1 (nown_of rfl) ?i2 ?i3 ?i4
      case i1 => walk_at "go"
      case i2 =>
        intro x hx
        obtain ⟨h1, h2⟩ := hSb x hx
        obtain ⟨n, rfl⟩ := Int.eq_ofNat_of_zero_le (show 0 ≤ x by omega)
        have n1 : 1 ≤ n := by omega
        have n2 : n ≤ 4096 := by omega
        walk_at "go"
        exact nown_of rfl
      case i3 => rfl
      case i4 =>
        rw [show (S.filter fun _ => false).map D.int = [] by simp]
        walk_at "go"
        refine r2_neInts (ns := []) ?_
        walk_at "go"
        subst e3
        refine DS.seqH fun t4 e4 => ?_
        walk_at "go"
        refine ⟨c4, 63, 7, rfl, hk4, by omega, by decide, by decide, fun r c5 s5 r0 r1 hk5 => ?_⟩
        walk_at "go"
        refine ⟨c5, _, _, 8, rfl, rfl, by simp, by simp, hk5, by omega, fun y c6 s6 hy hk6 => ?_⟩
        have : ∃ q : Nat, y = .int q ∧ 2 ≤ q ∧ q ≤ 64 := by
          simp only [List.mem_cons, List.not_mem_nil, or_false] at hy
          rcases hy with rfl | rfl | rfl
          · exact ⟨2, rfl, by omega, by omega⟩
          · exact ⟨64, rfl, by omega, by omega⟩
          · exact ⟨(2 + r).toNat, by rw [Int.toNat_of_nonneg (by omega)], by omega, by omega⟩
        obtain ⟨q, rfl, q0, q1⟩ := this
        clear hy
        walk_at "go"
        subst e4
        refine DS.seqH fun t5 e5 => ?_
        walk_at "go"
        refine empty_is q0 q1 fun ss' => ?_
        walk_at "go"
        subst e5
        refine DS.seqH fun t6 e6 => ?_
        obtain ⟨x1, x2, x3, x4, x5⟩ := tx_ok ⟨q, by omega⟩
        obtain ⟨tq, htq⟩ : ∃ t, tx q = t := ⟨_, rfl⟩
        rw [show (⟨q, by omega⟩ : Fin 65).val = q from rfl, htq] at x1 x2 x3 x4
        have hqq : (q : Int).natAbs < 2 ^ 30 := by omega
        have hb : (q : Int).natAbs.log2 < 1920 := Nat.lt_trans ((Nat.log2_lt (by omega)).mpr (show (q : Int).natAbs < 2 ^ 7 by omega)) (by decide)
        have sz : Sz true (.lst [.int (q : Int), .int 0, .tup [], .str tq]) 2 100 := .lst ((SzA.cons (.int hqq (by decide)) (SzA.cons (.int (n := 1) (by decide) (by decide)) (SzA.cons (.tup (SzA.nil : SzA true [] 0 0)) (SzA.cons (.str x2 x3 x4) (SzA.nil : SzA true [] 1 0))))).le (Nat.le_refl _) (by decide))
        obtain ⟨z, hz⟩ : ∃ z, (pyD (D.lst [D.int (q : Int), D.int 0, D.tup [], D.str tq])).shown = z := ⟨_, rfl⟩
        walk_at "go"
        refine ⟨_, _, _, _, rfl, T.c_Layout, T.n_Layout_q, rfl, ?_⟩
        walk_at "go"
        refine ⟨_, _, _, _, rfl, T.c_Layout, T.n_Layout_puts, rfl, ?_⟩
        walk_at "go"
        refine ⟨_, _, _, _, rfl, T.c_Layout, T.n_Layout_regions, rfl, ?_⟩
        walk_at "go"
        rw [htq]
        refine rl_repr sz (by decide) (by decide) ?_
        rw [hz]
        walk_at "go"
        refine DE.fmtI ?_
        walk_at "go"
        refine ⟨Nat.le_trans x5 (show 30 ≤ sizeLine by decide), ?_⟩
        generalize Str.empty ++ Str.ofString "q " ++ Str.ofString (toString (q : Int)) = acc at *
        walk_at "go"
        rw [x1]
        refine ⟨Nat.le_trans x4 (show 30 ≤ sizeLine by decide), ?_⟩
        walk_at "go"
        refine rl_repr sz (by decide) (by decide) ?_
        rw [hz]
        walk_at "go"
        rw [decide_eq_true (rfl : V.str z = V.str z)]
        walk_at "go"
        refine ⟨by walk_at "pg1", ?_⟩
        dsimp only [g_kw_empty_0_q]
        walk_at "go"
        refine empty_is q0 q1 fun ss' => ?_
        walk_at "go"
        refine ⟨_, _, _, _, rfl, rfl, q, q, rfl, fun ss2 => ⟨_, rfl, ?_⟩⟩
        rw [decide_eq_true (rfl : q = q)]
        walk_at "go"
        subst e6
        clear x1 x2 x3 x4 x5 hz sz
        refine DS.seqH fun t7 e7 => ?_
        walk_at "go"
        obtain ⟨m, hm, m0, m1, mq⟩ : ∃ m : Nat, (2 + if decide (V.int (q : Int) = V.int 2) = true then (1 : Int) else 0) = (m : Int) ∧ 2 ≤ m ∧ m ≤ 64 ∧ q ≠ m := by
          by_cases h : q = 2
          · subst h; exact ⟨3, by rw [decide_eq_true (show V.int ((2 : Nat) : Int) = V.int 2 from rfl)]; rfl, by omega, by omega, by omega⟩
          · exact ⟨2, by rw [decide_eq_false (fun z : V.int (q : Int) = V.int 2 => h (by injection z with z; omega))]; rfl, by omega, by omega, h⟩
        rw [hm]
        refine empty_is m0 m1 fun ss' => ?_
        walk_at "go"
        refine ⟨_, _, _, _, rfl, rfl, q, m, rfl, fun ss2 => ⟨_, rfl, ?_⟩⟩
        rw [decide_eq_false mq]
        walk_at "go"
        subst e7
        refine DS.seqH fun t8 e8 => ?_
        have sz2 : Sz true (.lst [.int 0, .int 0, .tup [], .non]) 2 100 := .lst ((SzA.cons (.int (n := 1) (by decide) (by decide)) (SzA.cons (.int (n := 1) (by decide) (by decide)) (SzA.cons (.tup (SzA.nil : SzA true [] 0 0)) (SzA.cons (Sz.non (W := 0)) (SzA.nil : SzA true [] 1 0))))).le (Nat.le_refl _) (by decide))
        obtain ⟨z2, hz2⟩ : ∃ z, (pyD (D.lst [D.int 0, D.int 0, D.tup [], D.non])).shown = z := ⟨_, rfl⟩
        walk_at "go"
        refine ⟨c6, _, S.map .int, 9, rfl, rfl, by simpa using hS0, by rw [List.length_map]; omega, hk6, by omega, fun y c7 s7 hy hk7 => ?_⟩
        obtain ⟨x, hx, rfl⟩ := List.mem_map.mp hy
        obtain ⟨x1, x2⟩ := hSb x hx
        obtain ⟨n, rfl⟩ := Int.eq_ofNat_of_zero_le (show 0 ≤ x by omega)
        have n1 : 1 ≤ n := by omega
        have n2 : n ≤ 4096 := by omega
        walk_at "go"
        refine rl_repr sz2 (by decide) (by decide) ?_
        rw [hz2]
        walk_at "go"
        refine rl_repr sz2 (by decide) (by decide) ?_
        rw [hz2]
        walk_at "go"
        rw [decide_eq_true (rfl : V.str z2 = V.str z2)]
        walk_at "go"
        subst e8
        clear sz2 hz2
        refine DS.seqH fun t9 e9 => ?_
        walk_at "go"
        refine ⟨c7, _, _, 10, rfl, rfl, by simp, by simp, hk7, by omega, fun odd c8 s8 hodd hk8 => ?_⟩
        replace hodd := odd9_of hodd
        walk_at "go"
        refine ⟨c8, _, _, 11, rfl, rfl, by simp, by simp, hk8, by omega, fun bad c9 s9 hbad hk9 => ?_⟩
        replace hbad := bad9_of hbad
        walk_at "go"
        subst e9
        obtain ⟨w9, rfl⟩ : ∃ ds, c9 = .lst ds := by
          obtain ⟨_, _, _, e, _⟩ := hk9
          exact ⟨_, e⟩
        walk_at "go"
        refine DE.lam1 (l := true) (k := false) (b := false) (ρL := [.no, .sh (.lst w9), .sh (.int (f : Int)), .sh (.lst (S.map .int)), .no, .no, .sh (.int (q : Int)), .sh (lyO q), .sh odd, .sh bad]) hT rfl (by constructor) rfl rfl fun X' hX => ?_
        walk_at "go"
        refine rank_bad hodd.1 hodd.2 fun ss' => ?_
        rw [hX]
        refine ⟨_, rfl, rfl, ?_⟩
        rw [decide_eq_true (rfl : V.str (Str.ofString "size") = V.str (Str.ofString "size"))]
        walk_at "go"
        refine DE.lam1 (l := true) (k := false) (b := false) (ρL := [.no, .sh (.lst w9), .sh (.int (f : Int)), .sh (.lst (S.map .int)), .no, .no, .sh (.int (q : Int)), .sh (lyO q), .sh odd, .sh bad]) hT rfl (by constructor) rfl rfl fun X' hX => ?_
        walk_at "go"
        refine empty_bad hbad.1 hbad.2 fun ss' => ?_
        rw [hX]
        refine ⟨_, rfl, rfl, ?_⟩
        rw [decide_eq_true (rfl : V.str (Str.ofString "q") = V.str (Str.ofString "q"))]
        walk_at "go"
theorem ok_law (sb : SmB base) {P0 : Addr} (tb0 : TabF K base mg (fs 36) P0) {cs : Nat → Addr} {cp : Nat → Addr} (T : Txt K mg fs fd tk cs cp) : FnG P w K mg base CX0 10 (fs 36) (fd 36) P_law (spLaw K P0) := ok_lawD (cp := ⟨cp, cs, TL P0⟩) sb tb0 rfl T
end
end Mine
namespace Mine
open PySem PySem.Spec PyProof.Rows L2 GL
theorem all_mk {l : PySem.W.OpenLaw} {w : World} {K : PySem.W.Frag} {h : Heap} {mg : Str → Option Value} {fa : Addr} (X : K.In h) (G : h.Ns mainGlobals mg) (hfa : mg "law" = some (.ref fa))
    {rs : List DefRec} {f0 f1 f2 f3 f4 f5 f6 f7 f8 f9 f10 f11 f12 f13 f14 f15 f16 f17 f18 f19 f20 f21 f22 f23 f24 f25 f26 f27 f28 f29 f30 f31 f32 f33 f34 f35 f36 f37 f38 : Addr} {od0 od1 od2 od3 od4 od5 od6 od7 od8 od9 od10 od11 od12 od13 od14 od15 od16 od17 od18 od19 od20 od21 od22 od23 od24 od25 od26 od27 od28 od29 od30 od31 od32 od33 od34 od35 od36 od37 od38 an0 an1 an2 an3 an4 an5 an6 an7 an8 an9 an10 an11 an12 an13 an14 an15 an16 an17 an18 an19 an20 an21 an22 an23 an24 an25 an26 an27 an28 an29 an30 an31 an32 an33 an34 an35 an36 an37 an38 : Option Addr} {sl0 sl1 sl2 sl3 sl4 sl5 sl6 sl7 sl8 sl9 sl10 sl11 sl12 sl13 sl14 sl15 sl16 sl17 sl18 sl19 sl20 sl21 sl22 sl23 sl24 sl25 sl26 sl27 sl28 sl29 sl30 sl31 sl32 sl33 sl34 sl35 sl36 sl37 sl38 : Array (Option Value)}
    {oc0 kV0 dc0 pm0 cd0 ct0 oc1 kV1 dc1 pm1 cd1 ct1 oc2 kV2 dc2 pm2 cd2 ct2 oc3 kV3 dc3 pm3 cd3 ct3 oc4 kV4 dc4 pm4 cd4 ct4 oc5 kV5 dc5 pm5 cd5 ct5 oc6 kV6 dc6 pm6 cd6 ct6 oc7 kV7 dc7 pm7 cd7 ct7 oc8 kV8 dc8 pm8 cd8 ct8 oc9 kV9 dc9 pm9 cd9 ct9 oc10 kV10 dc10 pm10 cd10 ct10 oc11 kV11 dc11 pm11 cd11 ct11 oc12 kV12 dc12 pm12 cd12 ct12 oc13 kV13 dc13 pm13 cd13 ct13 oc14 kV14 dc14 pm14 cd14 ct14 oc15 kV15 dc15 pm15 cd15 ct15 oc16 kV16 dc16 pm16 cd16 ct16 oc17 kV17 dc17 pm17 cd17 ct17 oc18 kV18 dc18 pm18 cd18 ct18 oc19 kV19 dc19 pm19 cd19 ct19 oc20 kV20 dc20 pm20 cd20 ct20 oc21 kV21 dc21 pm21 cd21 ct21 oc22 kV22 dc22 pm22 cd22 ct22 oc23 kV23 dc23 pm23 cd23 ct23 oc24 kV24 dc24 pm24 cd24 ct24 oc25 kV25 dc25 pm25 cd25 ct25 oc26 kV26 dc26 pm26 cd26 ct26 oc27 kV27 dc27 pm27 cd27 ct27 oc28 kV28 dc28 pm28 cd28 ct28 oc29 kV29 dc29 pm29 cd29 ct29 oc30 kV30 dc30 pm30 cd30 ct30 oc31 kV31 dc31 pm31 cd31 ct31 oc32 kV32 dc32 pm32 cd32 ct32 oc33 kV33 dc33 pm33 cd33 ct33 oc34 kV34 dc34 pm34 cd34 ct34 oc35 kV35 dc35 pm35 cd35 ct35 oc36 kV36 dc36 pm36 cd36 ct36 oc37 kV37 dc37 pm37 cd37 ct37 oc38 kV38 dc38 pm38 cd38 ct38 : Value}
    {t0 t1 t2 t3 : Tok}
    {L0 : Addr}
    {C0 CN0 C1 CN1 C2 CN2 : Addr} {nm0 qn0 nm1 qn1 nm2 qn2 : Str} {bs0 bm0 sb0 bs1 bm1 sb1 bs2 bm2 sb2 : List Value} {sn0 sn1 sn2 : List Str} {ab0 ab1 ab2 : Bool} {co0 co1 co2 : Option Bool} {dd0 dd1 dd2 : Option Addr} {ka0 kb0 kc0 kd0 ke0 ka1 kb1 kc1 kd1 ke1 ka2 kb2 kc2 kd2 ke2 : Option Value}
    (pa0 : PySem.W.nsIn K mainGlobals "Layout" = some (some (.ref L0)))
    (a0 : PySem.W.nsIn K mainGlobals "is_integer" = some (some (.ref f0)))
    (l0 : K.lookup f0 = some ⟨oc0, od0, .func (PySem.W.fnOf "is_integer" "is_integer" (defArgs s_is_integer) (defBody s_is_integer) (defScope s_is_integer) .none kV0 dc0 pm0 an0 cd0 ct0), sl0⟩)
    (c0 : PySem.W.codeIn K cd0 "is_integer" = true)
    (k0 : PySem.W.keepIn K (.ref f0) = true)
    (a1 : PySem.W.nsIn K mainGlobals "is_within" = some (some (.ref f1)))
    (l1 : K.lookup f1 = some ⟨oc1, od1, .func (PySem.W.fnOf "is_within" "is_within" (defArgs s_is_within) (defBody s_is_within) (defScope s_is_within) .none kV1 dc1 pm1 an1 cd1 ct1), sl1⟩)
    (c1 : PySem.W.codeIn K cd1 "is_within" = true)
    (k1 : PySem.W.keepIn K (.ref f1) = true)
    (a2 : PySem.W.nsIn K mainGlobals "is_q" = some (some (.ref f2)))
    (l2 : K.lookup f2 = some ⟨oc2, od2, .func (PySem.W.fnOf "is_q" "is_q" (defArgs s_is_q) (defBody s_is_q) (defScope s_is_q) .none kV2 dc2 pm2 an2 cd2 ct2), sl2⟩)
    (c2 : PySem.W.codeIn K cd2 "is_q" = true)
    (k2 : PySem.W.keepIn K (.ref f2) = true)
    (a3 : PySem.W.nsIn K mainGlobals "is_size" = some (some (.ref f3)))
    (l3 : K.lookup f3 = some ⟨oc3, od3, .func (PySem.W.fnOf "is_size" "is_size" (defArgs s_is_size) (defBody s_is_size) (defScope s_is_size) .none kV3 dc3 pm3 an3 cd3 ct3), sl3⟩)
    (c3 : PySem.W.codeIn K cd3 "is_size" = true)
    (k3 : PySem.W.keepIn K (.ref f3) = true)
    (a4 : PySem.W.nsIn K mainGlobals "rank_by" = some (some (.ref f4)))
    (l4 : K.lookup f4 = some ⟨oc4, od4, .func (PySem.W.fnOf "rank_by" "rank_by" (defArgs s_rank_by) (defBody s_rank_by) (defScope s_rank_by) .none kV4 dc4 pm4 an4 cd4 ct4), sl4⟩)
    (c4 : PySem.W.codeIn K cd4 "rank_by" = true)
    (k4 : PySem.W.keepIn K (.ref f4) = true)
    (a5 : PySem.W.nsIn K mainGlobals "things_of" = some (some (.ref f5)))
    (l5 : K.lookup f5 = some ⟨oc5, od5, .func (PySem.W.fnOf "things_of" "things_of" (defArgs s_things_of) (defBody s_things_of) (defScope s_things_of) .none kV5 dc5 pm5 an5 cd5 ct5), sl5⟩)
    (c5 : PySem.W.codeIn K cd5 "things_of" = true)
    (k5 : PySem.W.keepIn K (.ref f5) = true)
    (a6 : PySem.W.nsIn K mainGlobals "files_of" = some (some (.ref f6)))
    (l6 : K.lookup f6 = some ⟨oc6, od6, .func (PySem.W.fnOf "files_of" "files_of" (defArgs s_files_of) (defBody s_files_of) (defScope s_files_of) .none kV6 dc6 pm6 an6 cd6 ct6), sl6⟩)
    (c6 : PySem.W.codeIn K cd6 "files_of" = true)
    (k6 : PySem.W.keepIn K (.ref f6) = true)
    (a7 : PySem.W.nsIn K mainGlobals "placed" = some (some (.ref f7)))
    (l7 : K.lookup f7 = some ⟨oc7, od7, .func (PySem.W.fnOf "placed" "placed" (defArgs s_placed) (defBody s_placed) (defScope s_placed) .none kV7 dc7 pm7 an7 cd7 ct7), sl7⟩)
    (c7 : PySem.W.codeIn K cd7 "placed" = true)
    (k7 : PySem.W.keepIn K (.ref f7) = true)
    (a8 : PySem.W.nsIn K mainGlobals "rank_taking" = some (some (.ref f8)))
    (l8 : K.lookup f8 = some ⟨oc8, od8, .func (PySem.W.fnOf "rank_taking" "rank_taking" (defArgs s_rank_taking) (defBody s_rank_taking) (defScope s_rank_taking) .none kV8 dc8 pm8 an8 cd8 ct8), sl8⟩)
    (c8 : PySem.W.codeIn K cd8 "rank_taking" = true)
    (k8 : PySem.W.keepIn K (.ref f8) = true)
    (a9 : PySem.W.nsIn K mainGlobals "ascend" = some (some (.ref f9)))
    (l9 : K.lookup f9 = some ⟨oc9, od9, .func (PySem.W.fnOf "ascend" "ascend" (defArgs s_ascend) (defBody s_ascend) (defScope s_ascend) .none kV9 dc9 pm9 an9 cd9 ct9), sl9⟩)
    (c9 : PySem.W.codeIn K cd9 "ascend" = true)
    (k9 : PySem.W.keepIn K (.ref f9) = true)
    (a10 : PySem.W.nsIn K mainGlobals "are_let" = some (some (.ref f10)))
    (l10 : K.lookup f10 = some ⟨oc10, od10, .func (PySem.W.fnOf "are_let" "are_let" (defArgs s_are_let) (defBody s_are_let) (defScope s_are_let) .none kV10 dc10 pm10 an10 cd10 ct10), sl10⟩)
    (c10 : PySem.W.codeIn K cd10 "are_let" = true)
    (k10 : PySem.W.keepIn K (.ref f10) = true)
    (a11 : PySem.W.nsIn K mainGlobals "_are_regions" = some (some (.ref f11)))
    (l11 : K.lookup f11 = some ⟨oc11, od11, .func (PySem.W.fnOf "_are_regions" "_are_regions" (defArgs s_Uare_regions) (defBody s_Uare_regions) (defScope s_Uare_regions) .none kV11 dc11 pm11 an11 cd11 ct11), sl11⟩)
    (c11 : PySem.W.codeIn K cd11 "_are_regions" = true)
    (k11 : PySem.W.keepIn K (.ref f11) = true)
    (a12 : PySem.W.nsIn K mainGlobals "_ranks_fit" = some (some (.ref f12)))
    (l12 : K.lookup f12 = some ⟨oc12, od12, .func (PySem.W.fnOf "_ranks_fit" "_ranks_fit" (defArgs s_Uranks_fit) (defBody s_Uranks_fit) (defScope s_Uranks_fit) .none kV12 dc12 pm12 an12 cd12 ct12), sl12⟩)
    (c12 : PySem.W.codeIn K cd12 "_ranks_fit" = true)
    (k12 : PySem.W.keepIn K (.ref f12) = true)
    (a13 : PySem.W.nsIn K mainGlobals "_serials_fit" = some (some (.ref f13)))
    (l13 : K.lookup f13 = some ⟨oc13, od13, .func (PySem.W.fnOf "_serials_fit" "_serials_fit" (defArgs s_Userials_fit) (defBody s_Userials_fit) (defScope s_Userials_fit) .none kV13 dc13 pm13 an13 cd13 ct13), sl13⟩)
    (c13 : PySem.W.codeIn K cd13 "_serials_fit" = true)
    (k13 : PySem.W.keepIn K (.ref f13) = true)
    (a14 : PySem.W.nsIn K mainGlobals "_rooms_hold" = some (some (.ref f14)))
    (l14 : K.lookup f14 = some ⟨oc14, od14, .func (PySem.W.fnOf "_rooms_hold" "_rooms_hold" (defArgs s_Urooms_hold) (defBody s_Urooms_hold) (defScope s_Urooms_hold) .none kV14 dc14 pm14 an14 cd14 ct14), sl14⟩)
    (c14 : PySem.W.codeIn K cd14 "_rooms_hold" = true)
    (k14 : PySem.W.keepIn K (.ref f14) = true)
    (a15 : PySem.W.nsIn K mainGlobals "_rooms_are_later" = some (some (.ref f15)))
    (l15 : K.lookup f15 = some ⟨oc15, od15, .func (PySem.W.fnOf "_rooms_are_later" "_rooms_are_later" (defArgs s_Urooms_are_later) (defBody s_Urooms_are_later) (defScope s_Urooms_are_later) .none kV15 dc15 pm15 an15 cd15 ct15), sl15⟩)
    (c15 : PySem.W.codeIn K cd15 "_rooms_are_later" = true)
    (k15 : PySem.W.keepIn K (.ref f15) = true)
    (a16 : PySem.W.nsIn K mainGlobals "_have_passed" = some (some (.ref f16)))
    (l16 : K.lookup f16 = some ⟨oc16, od16, .func (PySem.W.fnOf "_have_passed" "_have_passed" (defArgs s_Uhave_passed) (defBody s_Uhave_passed) (defScope s_Uhave_passed) .none kV16 dc16 pm16 an16 cd16 ct16), sl16⟩)
    (c16 : PySem.W.codeIn K cd16 "_have_passed" = true)
    (k16 : PySem.W.keepIn K (.ref f16) = true)
    (a17 : PySem.W.nsIn K mainGlobals "text_of" = some (some (.ref f17)))
    (l17 : K.lookup f17 = some ⟨oc17, od17, .func (PySem.W.fnOf "text_of" "text_of" (defArgs s_text_of) (defBody s_text_of) (defScope s_text_of) .none kV17 dc17 pm17 an17 cd17 ct17), sl17⟩)
    (c17 : PySem.W.codeIn K cd17 "text_of" = true)
    (k17 : PySem.W.keepIn K (.ref f17) = true)
    (a18 : PySem.W.nsIn K mainGlobals "fixed" = some (some (.ref f18)))
    (l18 : K.lookup f18 = some ⟨oc18, od18, .func (PySem.W.fnOf "fixed" "fixed" (defArgs s_fixed) (defBody s_fixed) (defScope s_fixed) .none kV18 dc18 pm18 an18 cd18 ct18), sl18⟩)
    (c18 : PySem.W.codeIn K cd18 "fixed" = true)
    (k18 : PySem.W.keepIn K (.ref f18) = true)
    (a19 : PySem.W.nsIn K mainGlobals "rank_of" = some (some (.ref f19)))
    (l19 : K.lookup f19 = some ⟨oc19, od19, .func (PySem.W.fnOf "rank_of" "rank_of" (defArgs s_rank_of) (defBody s_rank_of) (defScope s_rank_of) .none kV19 dc19 pm19 an19 cd19 ct19), sl19⟩)
    (c19 : PySem.W.codeIn K cd19 "rank_of" = true)
    (k19 : PySem.W.keepIn K (.ref f19) = true)
    (a20 : PySem.W.nsIn K mainGlobals "check_q" = some (some (.ref f20)))
    (l20 : K.lookup f20 = some ⟨oc20, od20, .func (PySem.W.fnOf "check_q" "check_q" (defArgs s_check_q) (defBody s_check_q) (defScope s_check_q) .none kV20 dc20 pm20 an20 cd20 ct20), sl20⟩)
    (c20 : PySem.W.codeIn K cd20 "check_q" = true)
    (k20 : PySem.W.keepIn K (.ref f20) = true)
    (a21 : PySem.W.nsIn K mainGlobals "check_size" = some (some (.ref f21)))
    (l21 : K.lookup f21 = some ⟨oc21, od21, .func (PySem.W.fnOf "check_size" "check_size" (defArgs s_check_size) (defBody s_check_size) (defScope s_check_size) .none kV21 dc21 pm21 an21 cd21 ct21), sl21⟩)
    (c21 : PySem.W.codeIn K cd21 "check_size" = true)
    (k21 : PySem.W.keepIn K (.ref f21) = true)
    (pf22 : PySem.W.findIn K (.ref L0) "__init__" = some (some (.ref f22)))
    (l22 : K.lookup f22 = some ⟨oc22, od22, .func (PySem.W.fnOf "__init__" "Layout.__init__" (defArgs s_Layout_init) (defBody s_Layout_init) (defScope s_Layout_init) .none kV22 dc22 pm22 an22 cd22 ct22), sl22⟩)
    (c22 : PySem.W.codeIn K cd22 "Layout.__init__" = true)
    (k22 : PySem.W.keepIn K (.ref f22) = true)
    (pf23 : PySem.W.findIn K (.ref L0) "__eq__" = some (some (.ref f23)))
    (l23 : K.lookup f23 = some ⟨oc23, od23, .func (PySem.W.fnOf "__eq__" "Layout.__eq__" (defArgs s_Layout_eq) (defBody s_Layout_eq) (defScope s_Layout_eq) .none kV23 dc23 pm23 an23 cd23 ct23), sl23⟩)
    (c23 : PySem.W.codeIn K cd23 "Layout.__eq__" = true)
    (k23 : PySem.W.keepIn K (.ref f23) = true)
    (pf24 : PySem.W.findIn K (.ref L0) "__str__" = some (some (.ref f24)))
    (l24 : K.lookup f24 = some ⟨oc24, od24, .func (PySem.W.fnOf "__str__" "Layout.__str__" (defArgs s_Layout_str) (defBody s_Layout_str) (defScope s_Layout_str) .none kV24 dc24 pm24 an24 cd24 ct24), sl24⟩)
    (c24 : PySem.W.codeIn K cd24 "Layout.__str__" = true)
    (k24 : PySem.W.keepIn K (.ref f24) = true)
    (a25 : PySem.W.nsIn K mainGlobals "empty" = some (some (.ref f25)))
    (l25 : K.lookup f25 = some ⟨oc25, od25, .func (PySem.W.fnOf "empty" "empty" (defArgs s_empty) (defBody s_empty) (defScope s_empty) .none kV25 dc25 pm25 an25 cd25 ct25), sl25⟩)
    (c25 : PySem.W.codeIn K cd25 "empty" = true)
    (k25 : PySem.W.keepIn K (.ref f25) = true)
    (a26 : PySem.W.nsIn K mainGlobals "check_layout" = some (some (.ref f26)))
    (l26 : K.lookup f26 = some ⟨oc26, od26, .func (PySem.W.fnOf "check_layout" "check_layout" (defArgs s_check_layout) (defBody s_check_layout) (defScope s_check_layout) .none kV26 dc26 pm26 an26 cd26 ct26), sl26⟩)
    (c26 : PySem.W.codeIn K cd26 "check_layout" = true)
    (k26 : PySem.W.keepIn K (.ref f26) = true)
    (a27 : PySem.W.nsIn K mainGlobals "places" = some (some (.ref f27)))
    (l27 : K.lookup f27 = some ⟨oc27, od27, .func (PySem.W.fnOf "places" "places" (defArgs s_places) (defBody s_places) (defScope s_places) .none kV27 dc27 pm27 an27 cd27 ct27), sl27⟩)
    (c27 : PySem.W.codeIn K cd27 "places" = true)
    (k27 : PySem.W.keepIn K (.ref f27) = true)
    (a28 : PySem.W.nsIn K mainGlobals "length" = some (some (.ref f28)))
    (l28 : K.lookup f28 = some ⟨oc28, od28, .func (PySem.W.fnOf "length" "length" (defArgs s_length) (defBody s_length) (defScope s_length) .none kV28 dc28 pm28 an28 cd28 ct28), sl28⟩)
    (c28 : PySem.W.codeIn K cd28 "length" = true)
    (k28 : PySem.W.keepIn K (.ref f28) = true)
    (a29 : PySem.W.nsIn K mainGlobals "live" = some (some (.ref f29)))
    (l29 : K.lookup f29 = some ⟨oc29, od29, .func (PySem.W.fnOf "live" "live" (defArgs s_live) (defBody s_live) (defScope s_live) .none kV29 dc29 pm29 an29 cd29 ct29), sl29⟩)
    (c29 : PySem.W.codeIn K cd29 "live" = true)
    (k29 : PySem.W.keepIn K (.ref f29) = true)
    (a30 : PySem.W.nsIn K mainGlobals "room_for" = some (some (.ref f30)))
    (l30 : K.lookup f30 = some ⟨oc30, od30, .func (PySem.W.fnOf "room_for" "room_for" (defArgs s_room_for) (defBody s_room_for) (defScope s_room_for) .none kV30 dc30 pm30 an30 cd30 ct30), sl30⟩)
    (c30 : PySem.W.codeIn K cd30 "room_for" = true)
    (k30 : PySem.W.keepIn K (.ref f30) = true)
    (a31 : PySem.W.nsIn K mainGlobals "_law_ruler" = some (some (.ref f31)))
    (l31 : K.lookup f31 = some ⟨oc31, od31, .func (PySem.W.fnOf "_law_ruler" "_law_ruler" (defArgs s_Lruler) (defBody s_Lruler) (defScope s_Lruler) .none kV31 dc31 pm31 an31 cd31 ct31), sl31⟩)
    (c31 : PySem.W.codeIn K cd31 "_law_ruler" = true)
    (k31 : PySem.W.keepIn K (.ref f31) = true)
    (a32 : PySem.W.nsIn K mainGlobals "_law_notch" = some (some (.ref f32)))
    (l32 : K.lookup f32 = some ⟨oc32, od32, .func (PySem.W.fnOf "_law_notch" "_law_notch" (defArgs s_Lnotch) (defBody s_Lnotch) (defScope s_Lnotch) .none kV32 dc32 pm32 an32 cd32 ct32), sl32⟩)
    (c32 : PySem.W.codeIn K cd32 "_law_notch" = true)
    (k32 : PySem.W.keepIn K (.ref f32) = true)
    (a33 : PySem.W.nsIn K mainGlobals "_law_one" = some (some (.ref f33)))
    (l33 : K.lookup f33 = some ⟨oc33, od33, .func (PySem.W.fnOf "_law_one" "_law_one" (defArgs s_Lone) (defBody s_Lone) (defScope s_Lone) .none kV33 dc33 pm33 an33 cd33 ct33), sl33⟩)
    (c33 : PySem.W.codeIn K cd33 "_law_one" = true)
    (k33 : PySem.W.keepIn K (.ref f33) = true)
    (a34 : PySem.W.nsIn K mainGlobals "_law_is_refused" = some (some (.ref f34)))
    (l34 : K.lookup f34 = some ⟨oc34, od34, .func (PySem.W.fnOf "_law_is_refused" "_law_is_refused" (defArgs s_Lis_refused) (defBody s_Lis_refused) (defScope s_Lis_refused) .none kV34 dc34 pm34 an34 cd34 ct34), sl34⟩)
    (c34 : PySem.W.codeIn K cd34 "_law_is_refused" = true)
    (k34 : PySem.W.keepIn K (.ref f34) = true)
    (a35 : PySem.W.nsIn K mainGlobals "_law_size_right" = some (some (.ref f35)))
    (l35 : K.lookup f35 = some ⟨oc35, od35, .func (PySem.W.fnOf "_law_size_right" "_law_size_right" (defArgs s_Lsize_right) (defBody s_Lsize_right) (defScope s_Lsize_right) .none kV35 dc35 pm35 an35 cd35 ct35), sl35⟩)
    (c35 : PySem.W.codeIn K cd35 "_law_size_right" = true)
    (k35 : PySem.W.keepIn K (.ref f35) = true)
    (a36 : PySem.W.nsIn K mainGlobals "law" = some (some (.ref f36)))
    (l36 : K.lookup f36 = some ⟨oc36, od36, .func (PySem.W.fnOf "law" "law" (defArgs s_law) (defBody s_law) (defScope s_law) .none kV36 dc36 pm36 an36 cd36 ct36), sl36⟩)
    (c36 : PySem.W.codeIn K cd36 "law" = true)
    (k36 : PySem.W.keepIn K (.ref f36) = true)
    (v0 : PySem.W.nsIn K mainGlobals "LEAST_Q" = some (some (.int 2 t0)))
    (v1 : PySem.W.nsIn K mainGlobals "GREATEST_Q" = some (some (.int 64 t1)))
    (v2 : PySem.W.nsIn K mainGlobals "GREATEST_SIZE" = some (some (.int 4096 t2)))
    (v3 : PySem.W.nsIn K mainGlobals "LAST_RANK" = some (some (.int 12 t3)))
    (z0 : PySem.W.nsIn K mainGlobals "abs" = some none)
    (z1 : PySem.W.nsIn K mainGlobals "all" = some none)
    (z2 : PySem.W.nsIn K mainGlobals "bool" = some none)
    (z3 : PySem.W.nsIn K mainGlobals "int" = some none)
    (z4 : PySem.W.nsIn K mainGlobals "isinstance" = some none)
    (z5 : PySem.W.nsIn K mainGlobals "len" = some none)
    (z6 : PySem.W.nsIn K mainGlobals "list" = some none)
    (z7 : PySem.W.nsIn K mainGlobals "range" = some none)
    (z8 : PySem.W.nsIn K mainGlobals "repr" = some none)
    (z9 : PySem.W.nsIn K mainGlobals "set" = some none)
    (z10 : PySem.W.nsIn K mainGlobals "sorted" = some none)
    (z11 : PySem.W.nsIn K mainGlobals "str" = some none)
    (z12 : PySem.W.nsIn K mainGlobals "sum" = some none)
    (z13 : PySem.W.nsIn K mainGlobals "tuple" = some none)
    (z14 : PySem.W.nsIn K mainGlobals "zip" = some none)
    (ca0 : PySem.W.nsIn K mainGlobals "StripError" = some (some (.ref C0)))
    (cx0 : K.lookup C0 = some (excClassObj nm0 qn0 C0 CN0 bs0 bm0 true sn0 sb0 ab0 co0 dd0 ka0 kb0 kc0 kd0 ke0 "ValueError.__new__"))
    (cr0 : PySem.HandSPX.refsVE bm0 = true)
    (cb0 : clsB K C0 = true)
    (ck0 : PySem.W.keepIn K (.ref C0) = true)
    (cq0 : PySem.W.excIn K C0 [.type "ValueError", .type "Exception", .type "BaseException", .type "object"] "ValueError.__new__" = true)
    (ca1 : PySem.W.nsIn K mainGlobals "BadNumber" = some (some (.ref C1)))
    (cx1 : K.lookup C1 = some (excClassObj nm1 qn1 C1 CN1 bs1 bm1 true sn1 sb1 ab1 co1 dd1 ka1 kb1 kc1 kd1 ke1 "ValueError.__new__"))
    (cr1 : PySem.HandSPX.refsVE bm1 = true)
    (cb1 : clsB K C1 = true)
    (ci1 : PySem.W.findIn K (.ref C1) "__init__" = some (some (.ref f37)))
    (ct_1 : PySem.W.typeIn K (.ref f37) = some (.type "function"))
    (l37 : K.lookup f37 = some ⟨oc37, od37, .func (PySem.W.fnOf "__init__" "BadNumber.__init__" (defArgs s_BadNumber_init) (defBody s_BadNumber_init) (defScope s_BadNumber_init) .none kV37 dc37 pm37 an37 cd37 ct37), sl37⟩)
    (c37 : PySem.W.codeIn K cd37 "BadNumber.__init__" = true)
    (k37 : PySem.W.keepIn K (.ref f37) = true)
    (cn1_part : PySem.W.findIn K (.ref C1) "part" = some none)
    (ca2 : PySem.W.nsIn K mainGlobals "BadLayout" = some (some (.ref C2)))
    (cx2 : K.lookup C2 = some (excClassObj nm2 qn2 C2 CN2 bs2 bm2 true sn2 sb2 ab2 co2 dd2 ka2 kb2 kc2 kd2 ke2 "ValueError.__new__"))
    (cr2 : PySem.HandSPX.refsVE bm2 = true)
    (cb2 : clsB K C2 = true)
    (ci2 : PySem.W.findIn K (.ref C2) "__init__" = some (some (.ref f38)))
    (ct_2 : PySem.W.typeIn K (.ref f38) = some (.type "function"))
    (l38 : K.lookup f38 = some ⟨oc38, od38, .func (PySem.W.fnOf "__init__" "BadLayout.__init__" (defArgs s_BadLayout_init) (defBody s_BadLayout_init) (defScope s_BadLayout_init) .none kV38 dc38 pm38 an38 cd38 ct38), sl38⟩)
    (c38 : PySem.W.codeIn K cd38 "BadLayout.__init__" = true)
    (k38 : PySem.W.keepIn K (.ref f38) = true)
    (cn2_part : PySem.W.findIn K (.ref C2) "part" = some none)
    (pi0 : insB K L0 = true)
    (pk0 : mkB K L0 = true)
    (pn0 : noA K L0 ["q", "puts", "regions"] = true)
    (pg22 : PySem.W.isFn K (.ref f22) = true)
    (po0 : ownB K L0 f23 = true)
    (pg24 : PySem.W.isFn K (.ref f24) = true)
    (x_ino_n1 : PySem.W.kitOne K (.type "NoneType") (.ref C1) = some false)
    (x_isc_11 : PySem.W.kitOne K (.ref C1) (.ref C1) = some true)
    (x_exm_1 : PySem.W.exmOne K (.ref C1) (.ref C0) = some true)
    (x_isl : PySem.W.kitOne K (.ref L0) (.ref L0) = some true)
    (x_tb : tabsB K [f36] = true)
    (hr36 : (rs.any fun e => e.name == ("law" : Str)) = true)
    : LawT l w K CX0 10 63 P_law.head! mg fa rs := by
  have e := hfa.symm.trans (PySem.W.mg_of X G a36)
  cases e
  have T : Txt K mg (fun i => match i with | 0 => f0 | 1 => f1 | 2 => f2 | 3 => f3 | 4 => f4 | 5 => f5 | 6 => f6 | 7 => f7 | 8 => f8 | 9 => f9 | 10 => f10 | 11 => f11 | 12 => f12 | 13 => f13 | 14 => f14 | 15 => f15 | 16 => f16 | 17 => f17 | 18 => f18 | 19 => f19 | 20 => f20 | 21 => f21 | 22 => f22 | 23 => f23 | 24 => f24 | 25 => f25 | 26 => f26 | 27 => f27 | 28 => f28 | 29 => f29 | 30 => f30 | 31 => f31 | 32 => f32 | 33 => f33 | 34 => f34 | 35 => f35 | 36 => fa | 37 => f37 | 38 => f38 | _ => fa) (fun i => match i with | 0 => PySem.W.fnOf "is_integer" "is_integer" (defArgs s_is_integer) (defBody s_is_integer) (defScope s_is_integer) .none kV0 dc0 pm0 an0 cd0 ct0 | 1 => PySem.W.fnOf "is_within" "is_within" (defArgs s_is_within) (defBody s_is_within) (defScope s_is_within) .none kV1 dc1 pm1 an1 cd1 ct1 | 2 => PySem.W.fnOf "is_q" "is_q" (defArgs s_is_q) (defBody s_is_q) (defScope s_is_q) .none kV2 dc2 pm2 an2 cd2 ct2 | 3 => PySem.W.fnOf "is_size" "is_size" (defArgs s_is_size) (defBody s_is_size) (defScope s_is_size) .none kV3 dc3 pm3 an3 cd3 ct3 | 4 => PySem.W.fnOf "rank_by" "rank_by" (defArgs s_rank_by) (defBody s_rank_by) (defScope s_rank_by) .none kV4 dc4 pm4 an4 cd4 ct4 | 5 => PySem.W.fnOf "things_of" "things_of" (defArgs s_things_of) (defBody s_things_of) (defScope s_things_of) .none kV5 dc5 pm5 an5 cd5 ct5 | 6 => PySem.W.fnOf "files_of" "files_of" (defArgs s_files_of) (defBody s_files_of) (defScope s_files_of) .none kV6 dc6 pm6 an6 cd6 ct6 | 7 => PySem.W.fnOf "placed" "placed" (defArgs s_placed) (defBody s_placed) (defScope s_placed) .none kV7 dc7 pm7 an7 cd7 ct7 | 8 => PySem.W.fnOf "rank_taking" "rank_taking" (defArgs s_rank_taking) (defBody s_rank_taking) (defScope s_rank_taking) .none kV8 dc8 pm8 an8 cd8 ct8 | 9 => PySem.W.fnOf "ascend" "ascend" (defArgs s_ascend) (defBody s_ascend) (defScope s_ascend) .none kV9 dc9 pm9 an9 cd9 ct9 | 10 => PySem.W.fnOf "are_let" "are_let" (defArgs s_are_let) (defBody s_are_let) (defScope s_are_let) .none kV10 dc10 pm10 an10 cd10 ct10 | 11 => PySem.W.fnOf "_are_regions" "_are_regions" (defArgs s_Uare_regions) (defBody s_Uare_regions) (defScope s_Uare_regions) .none kV11 dc11 pm11 an11 cd11 ct11 | 12 => PySem.W.fnOf "_ranks_fit" "_ranks_fit" (defArgs s_Uranks_fit) (defBody s_Uranks_fit) (defScope s_Uranks_fit) .none kV12 dc12 pm12 an12 cd12 ct12 | 13 => PySem.W.fnOf "_serials_fit" "_serials_fit" (defArgs s_Userials_fit) (defBody s_Userials_fit) (defScope s_Userials_fit) .none kV13 dc13 pm13 an13 cd13 ct13 | 14 => PySem.W.fnOf "_rooms_hold" "_rooms_hold" (defArgs s_Urooms_hold) (defBody s_Urooms_hold) (defScope s_Urooms_hold) .none kV14 dc14 pm14 an14 cd14 ct14 | 15 => PySem.W.fnOf "_rooms_are_later" "_rooms_are_later" (defArgs s_Urooms_are_later) (defBody s_Urooms_are_later) (defScope s_Urooms_are_later) .none kV15 dc15 pm15 an15 cd15 ct15 | 16 => PySem.W.fnOf "_have_passed" "_have_passed" (defArgs s_Uhave_passed) (defBody s_Uhave_passed) (defScope s_Uhave_passed) .none kV16 dc16 pm16 an16 cd16 ct16 | 17 => PySem.W.fnOf "text_of" "text_of" (defArgs s_text_of) (defBody s_text_of) (defScope s_text_of) .none kV17 dc17 pm17 an17 cd17 ct17 | 18 => PySem.W.fnOf "fixed" "fixed" (defArgs s_fixed) (defBody s_fixed) (defScope s_fixed) .none kV18 dc18 pm18 an18 cd18 ct18 | 19 => PySem.W.fnOf "rank_of" "rank_of" (defArgs s_rank_of) (defBody s_rank_of) (defScope s_rank_of) .none kV19 dc19 pm19 an19 cd19 ct19 | 20 => PySem.W.fnOf "check_q" "check_q" (defArgs s_check_q) (defBody s_check_q) (defScope s_check_q) .none kV20 dc20 pm20 an20 cd20 ct20 | 21 => PySem.W.fnOf "check_size" "check_size" (defArgs s_check_size) (defBody s_check_size) (defScope s_check_size) .none kV21 dc21 pm21 an21 cd21 ct21 | 22 => PySem.W.fnOf "__init__" "Layout.__init__" (defArgs s_Layout_init) (defBody s_Layout_init) (defScope s_Layout_init) .none kV22 dc22 pm22 an22 cd22 ct22 | 23 => PySem.W.fnOf "__eq__" "Layout.__eq__" (defArgs s_Layout_eq) (defBody s_Layout_eq) (defScope s_Layout_eq) .none kV23 dc23 pm23 an23 cd23 ct23 | 24 => PySem.W.fnOf "__str__" "Layout.__str__" (defArgs s_Layout_str) (defBody s_Layout_str) (defScope s_Layout_str) .none kV24 dc24 pm24 an24 cd24 ct24 | 25 => PySem.W.fnOf "empty" "empty" (defArgs s_empty) (defBody s_empty) (defScope s_empty) .none kV25 dc25 pm25 an25 cd25 ct25 | 26 => PySem.W.fnOf "check_layout" "check_layout" (defArgs s_check_layout) (defBody s_check_layout) (defScope s_check_layout) .none kV26 dc26 pm26 an26 cd26 ct26 | 27 => PySem.W.fnOf "places" "places" (defArgs s_places) (defBody s_places) (defScope s_places) .none kV27 dc27 pm27 an27 cd27 ct27 | 28 => PySem.W.fnOf "length" "length" (defArgs s_length) (defBody s_length) (defScope s_length) .none kV28 dc28 pm28 an28 cd28 ct28 | 29 => PySem.W.fnOf "live" "live" (defArgs s_live) (defBody s_live) (defScope s_live) .none kV29 dc29 pm29 an29 cd29 ct29 | 30 => PySem.W.fnOf "room_for" "room_for" (defArgs s_room_for) (defBody s_room_for) (defScope s_room_for) .none kV30 dc30 pm30 an30 cd30 ct30 | 31 => PySem.W.fnOf "_law_ruler" "_law_ruler" (defArgs s_Lruler) (defBody s_Lruler) (defScope s_Lruler) .none kV31 dc31 pm31 an31 cd31 ct31 | 32 => PySem.W.fnOf "_law_notch" "_law_notch" (defArgs s_Lnotch) (defBody s_Lnotch) (defScope s_Lnotch) .none kV32 dc32 pm32 an32 cd32 ct32 | 33 => PySem.W.fnOf "_law_one" "_law_one" (defArgs s_Lone) (defBody s_Lone) (defScope s_Lone) .none kV33 dc33 pm33 an33 cd33 ct33 | 34 => PySem.W.fnOf "_law_is_refused" "_law_is_refused" (defArgs s_Lis_refused) (defBody s_Lis_refused) (defScope s_Lis_refused) .none kV34 dc34 pm34 an34 cd34 ct34 | 35 => PySem.W.fnOf "_law_size_right" "_law_size_right" (defArgs s_Lsize_right) (defBody s_Lsize_right) (defScope s_Lsize_right) .none kV35 dc35 pm35 an35 cd35 ct35 | 36 => PySem.W.fnOf "law" "law" (defArgs s_law) (defBody s_law) (defScope s_law) .none kV36 dc36 pm36 an36 cd36 ct36 | 37 => PySem.W.fnOf "__init__" "BadNumber.__init__" (defArgs s_BadNumber_init) (defBody s_BadNumber_init) (defScope s_BadNumber_init) .none kV37 dc37 pm37 an37 cd37 ct37 | 38 => PySem.W.fnOf "__init__" "BadLayout.__init__" (defArgs s_BadLayout_init) (defBody s_BadLayout_init) (defScope s_BadLayout_init) .none kV38 dc38 pm38 an38 cd38 ct38 | _ => PySem.W.fnOf "is_integer" "is_integer" (defArgs s_is_integer) (defBody s_is_integer) (defScope s_is_integer) .none kV0 dc0 pm0 an0 cd0 ct0) (fun i => match i with | 0 => t0 | 1 => t1 | 2 => t2 | 3 => t3 | _ => 0) (fun i => match i with | 0 => C0 | 1 => C1 | 2 => C2 | _ => C0) (fun i => match i with | 0 => L0 | _ => L0) :=
    ⟨fun_mk (st := s_is_integer) l0 c0 k0, PySem.W.mg_of X G a0, fun_mk (st := s_is_within) l1 c1 k1, PySem.W.mg_of X G a1, fun_mk (st := s_is_q) l2 c2 k2, PySem.W.mg_of X G a2, fun_mk (st := s_is_size) l3 c3 k3, PySem.W.mg_of X G a3, fun_mk (st := s_rank_by) l4 c4 k4, PySem.W.mg_of X G a4, fun_mk (st := s_things_of) l5 c5 k5, PySem.W.mg_of X G a5, fun_mk (st := s_files_of) l6 c6 k6, PySem.W.mg_of X G a6, fun_mk (st := s_placed) l7 c7 k7, PySem.W.mg_of X G a7, fun_mk (st := s_rank_taking) l8 c8 k8, PySem.W.mg_of X G a8, fun_mk (st := s_ascend) l9 c9 k9, PySem.W.mg_of X G a9, fun_mk (st := s_are_let) l10 c10 k10, PySem.W.mg_of X G a10, fun_mk (st := s_Uare_regions) l11 c11 k11, PySem.W.mg_of X G a11, fun_mk (st := s_Uranks_fit) l12 c12 k12, PySem.W.mg_of X G a12, fun_mk (st := s_Userials_fit) l13 c13 k13, PySem.W.mg_of X G a13, fun_mk (st := s_Urooms_hold) l14 c14 k14, PySem.W.mg_of X G a14, fun_mk (st := s_Urooms_are_later) l15 c15 k15, PySem.W.mg_of X G a15, fun_mk (st := s_Uhave_passed) l16 c16 k16, PySem.W.mg_of X G a16, fun_mk (st := s_text_of) l17 c17 k17, PySem.W.mg_of X G a17, fun_mk (st := s_fixed) l18 c18 k18, PySem.W.mg_of X G a18, fun_mk (st := s_rank_of) l19 c19 k19, PySem.W.mg_of X G a19, fun_mk (st := s_check_q) l20 c20 k20, PySem.W.mg_of X G a20, fun_mk (st := s_check_size) l21 c21 k21, PySem.W.mg_of X G a21, fun_mk (st := s_Layout_init) l22 c22 k22, fun_mk (st := s_Layout_eq) l23 c23 k23, fun_mk (st := s_Layout_str) l24 c24 k24, fun_mk (st := s_empty) l25 c25 k25, PySem.W.mg_of X G a25, fun_mk (st := s_check_layout) l26 c26 k26, PySem.W.mg_of X G a26, fun_mk (st := s_places) l27 c27 k27, PySem.W.mg_of X G a27, fun_mk (st := s_length) l28 c28 k28, PySem.W.mg_of X G a28, fun_mk (st := s_live) l29 c29 k29, PySem.W.mg_of X G a29, fun_mk (st := s_room_for) l30 c30 k30, PySem.W.mg_of X G a30, fun_mk (st := s_Lruler) l31 c31 k31, PySem.W.mg_of X G a31, fun_mk (st := s_Lnotch) l32 c32 k32, PySem.W.mg_of X G a32, fun_mk (st := s_Lone) l33 c33 k33, PySem.W.mg_of X G a33, fun_mk (st := s_Lis_refused) l34 c34 k34, PySem.W.mg_of X G a34, fun_mk (st := s_Lsize_right) l35 c35 k35, PySem.W.mg_of X G a35, fun_mk (st := s_law) l36 c36 k36, PySem.W.mg_of X G a36, PySem.W.mg_of X G v0, PySem.W.mg_of X G v1, PySem.W.mg_of X G v2, PySem.W.mg_of X G v3, PySem.W.mg_none_of X G z0, PySem.W.mg_none_of X G z1, PySem.W.mg_none_of X G z2, PySem.W.mg_none_of X G z3, PySem.W.mg_none_of X G z4, PySem.W.mg_none_of X G z5, PySem.W.mg_none_of X G z6, PySem.W.mg_none_of X G z7, PySem.W.mg_none_of X G z8, PySem.W.mg_none_of X G z9, PySem.W.mg_none_of X G z10, PySem.W.mg_none_of X G z11, PySem.W.mg_none_of X G z12, PySem.W.mg_none_of X G z13, PySem.W.mg_none_of X G z14, clsX_of cx0 cr0 cb0, PySem.W.mg_of X G ca0, ck0, cq0, clsX_of cx1 cr1 cb1, PySem.W.mg_of X G ca1, fun_mk (st := s_BadNumber_init) l37 c37 k37, ci1, ct_1, cn1_part, clsX_of cx2 cr2 cb2, PySem.W.mg_of X G ca2, fun_mk (st := s_BadLayout_init) l38 c38 k38, ci2, ct_2, cn2_part, PySem.W.mg_of X G pa0, mk_of pk0 pf22 pg22, (ins_of pi0).cl, ins_of pi0, noA_of pn0 (by simp), noA_of pn0 (by simp), noA_of pn0 (by simp), own_of po0 pf23, pf24, pg24, x_ino_n1, x_isc_11, x_exm_1, x_isl⟩
  obtain ⟨P0, e0, _⟩ := tabs_out x_tb fa (by simp)
  refine ⟨PySem.W.fnOf "law" "law" (defArgs s_law) (defBody s_law) (defScope s_law) .none kV36 dc36 pm36 an36 cd36 ct36, [fa], spLaw K P0, x_tb, fun f hf => ?_, fun s v => .of_eq rfl, fun H a ns hl hH hS => law_pre hl hS (hH _ (by simp) _ e0), fun base _ _ sb hT => ok_law sb (hT _ (by simp) _ e0) T⟩
  simp only [List.mem_cons, List.not_mem_nil, or_false] at hf
  rcases hf with rfl
  · exact rec_of hr36 (PySem.W.mg_of X G a36)
end Mine
open PySem PySem.W PyProof.Rows
set_option maxRecDepth 100000 in
set_option maxHeartbeats 0 in
theorem PySem.Challenge.cw_priceblind_k10_ranks_of_sizes_holds : PySem.Challenge.rw_priceblind_k10_ranks_of_sizes.Holds := by
  w_on; o_law; k_head; (case hw => w_witness2)
  k_fill
  refine GL.walkT (l := PySem.Challenge.rw_priceblind_k10_ranks_of_sizes) (n := 63) (k := 10) (x := Mine.P_law.head!) (cx := L2.CX0) (by first | rfl | decide +kernel) rfl (by decide) rfl ⟨rfl, by decide, by decide⟩ (fun w h Y => PySem.W.km_in_of Y) ?F (fun _ _ _ _ z => z)
  case F =>
    intro w mg fa h KX G hmg
    refine' Mine.all_mk KX G hmg ?pa0 ?a0 ?l0 ?c0 ?k0 ?a1 ?l1 ?c1 ?k1 ?a2 ?l2 ?c2 ?k2 ?a3 ?l3 ?c3 ?k3 ?a4 ?l4 ?c4 ?k4 ?a5 ?l5 ?c5 ?k5 ?a6 ?l6 ?c6 ?k6 ?a7 ?l7 ?c7 ?k7 ?a8 ?l8 ?c8 ?k8 ?a9 ?l9 ?c9 ?k9 ?a10 ?l10 ?c10 ?k10 ?a11 ?l11 ?c11 ?k11 ?a12 ?l12 ?c12 ?k12 ?a13 ?l13 ?c13 ?k13 ?a14 ?l14 ?c14 ?k14 ?a15 ?l15 ?c15 ?k15 ?a16 ?l16 ?c16 ?k16 ?a17 ?l17 ?c17 ?k17 ?a18 ?l18 ?c18 ?k18 ?a19 ?l19 ?c19 ?k19 ?a20 ?l20 ?c20 ?k20 ?a21 ?l21 ?c21 ?k21 ?pf22 ?l22 ?c22 ?k22 ?pf23 ?l23 ?c23 ?k23 ?pf24 ?l24 ?c24 ?k24 ?a25 ?l25 ?c25 ?k25 ?a26 ?l26 ?c26 ?k26 ?a27 ?l27 ?c27 ?k27 ?a28 ?l28 ?c28 ?k28 ?a29 ?l29 ?c29 ?k29 ?a30 ?l30 ?c30 ?k30 ?a31 ?l31 ?c31 ?k31 ?a32 ?l32 ?c32 ?k32 ?a33 ?l33 ?c33 ?k33 ?a34 ?l34 ?c34 ?k34 ?a35 ?l35 ?c35 ?k35 ?a36 ?l36 ?c36 ?k36 ?v0 ?v1 ?v2 ?v3 ?z0 ?z1 ?z2 ?z3 ?z4 ?z5 ?z6 ?z7 ?z8 ?z9 ?z10 ?z11 ?z12 ?z13 ?z14 ?ca0 ?cx0 ?cr0 ?cb0 ?ck0 ?cq0 ?ca1 ?cx1 ?cr1 ?cb1 ?ci1 ?ct_1 ?l37 ?c37 ?k37 ?cn1_part ?ca2 ?cx2 ?cr2 ?cb2 ?ci2 ?ct_2 ?l38 ?c38 ?k38 ?cn2_part ?pi0 ?pk0 ?pn0 ?pg22 ?po0 ?pg24 ?x_ino_n1 ?x_isc_11 ?x_exm_1 ?x_isl ?x_tb ?hr36
    (case pa0 => k_is)
    (case a0 => k_is)
    (case l0 => k_is)
    (case c0 => k_is)
    (case k0 => k_is)
    (case a1 => k_is)
    (case l1 => k_is)
    (case c1 => k_is)
    (case k1 => k_is)
    (case a2 => k_is)
    (case l2 => k_is)
    (case c2 => k_is)
    (case k2 => k_is)
    (case a3 => k_is)
    (case l3 => k_is)
    (case c3 => k_is)
    (case k3 => k_is)
    (case a4 => k_is)
    (case l4 => k_is)
    (case c4 => k_is)
    (case k4 => k_is)
    (case a5 => k_is)
    (case l5 => k_is)
    (case c5 => k_is)
    (case k5 => k_is)
    (case a6 => k_is)
    (case l6 => k_is)
    (case c6 => k_is)
    (case k6 => k_is)
    (case a7 => k_is)
    (case l7 => k_is)
    (case c7 => k_is)
    (case k7 => k_is)
    (case a8 => k_is)
    (case l8 => k_is)
    (case c8 => k_is)
    (case k8 => k_is)
    (case a9 => k_is)
    (case l9 => k_is)
    (case c9 => k_is)
    (case k9 => k_is)
    (case a10 => k_is)
    (case l10 => k_is)
    (case c10 => k_is)
    (case k10 => k_is)
    (case a11 => k_is)
    (case l11 => k_is)
    (case c11 => k_is)
    (case k11 => k_is)
    (case a12 => k_is)
    (case l12 => k_is)
    (case c12 => k_is)
    (case k12 => k_is)
    (case a13 => k_is)
    (case l13 => k_is)
    (case c13 => k_is)
    (case k13 => k_is)
    (case a14 => k_is)
    (case l14 => k_is)
    (case c14 => k_is)
    (case k14 => k_is)
    (case a15 => k_is)
    (case l15 => k_is)
    (case c15 => k_is)
    (case k15 => k_is)
    (case a16 => k_is)
    (case l16 => k_is)
    (case c16 => k_is)
    (case k16 => k_is)
    (case a17 => k_is)
    (case l17 => k_is)
    (case c17 => k_is)
    (case k17 => k_is)
    (case a18 => k_is)
    (case l18 => k_is)
    (case c18 => k_is)
    (case k18 => k_is)
    (case a19 => k_is)
    (case l19 => k_is)
    (case c19 => k_is)
    (case k19 => k_is)
    (case a20 => k_is)
    (case l20 => k_is)
    (case c20 => k_is)
    (case k20 => k_is)
    (case a21 => k_is)
    (case l21 => k_is)
    (case c21 => k_is)
    (case k21 => k_is)
    (case pf22 => k_is)
    (case l22 => k_is)
    (case c22 => k_is)
    (case k22 => k_is)
    (case pf23 => k_is)
    (case l23 => k_is)
    (case c23 => k_is)
    (case k23 => k_is)
    (case pf24 => k_is)
    (case l24 => k_is)
    (case c24 => k_is)
    (case k24 => k_is)
    (case a25 => k_is)
    (case l25 => k_is)
    (case c25 => k_is)
    (case k25 => k_is)
    (case a26 => k_is)
    (case l26 => k_is)
    (case c26 => k_is)
    (case k26 => k_is)
    (case a27 => k_is)
    (case l27 => k_is)
    (case c27 => k_is)
    (case k27 => k_is)
    (case a28 => k_is)
    (case l28 => k_is)
    (case c28 => k_is)
    (case k28 => k_is)
    (case a29 => k_is)
    (case l29 => k_is)
    (case c29 => k_is)
    (case k29 => k_is)
    (case a30 => k_is)
    (case l30 => k_is)
    (case c30 => k_is)
    (case k30 => k_is)
    (case a31 => k_is)
    (case l31 => k_is)
    (case c31 => k_is)
    (case k31 => k_is)
    (case a32 => k_is)
    (case l32 => k_is)
    (case c32 => k_is)
    (case k32 => k_is)
    (case a33 => k_is)
    (case l33 => k_is)
    (case c33 => k_is)
    (case k33 => k_is)
    (case a34 => k_is)
    (case l34 => k_is)
    (case c34 => k_is)
    (case k34 => k_is)
    (case a35 => k_is)
    (case l35 => k_is)
    (case c35 => k_is)
    (case k35 => k_is)
    (case a36 => k_is)
    (case l36 => k_is)
    (case c36 => k_is)
    (case k36 => k_is)
    (case v0 => k_is)
    (case v1 => k_is)
    (case v2 => k_is)
    (case v3 => k_is)
    (case z0 => k_is)
    (case z1 => k_is)
    (case z2 => k_is)
    (case z3 => k_is)
    (case z4 => k_is)
    (case z5 => k_is)
    (case z6 => k_is)
    (case z7 => k_is)
    (case z8 => k_is)
    (case z9 => k_is)
    (case z10 => k_is)
    (case z11 => k_is)
    (case z12 => k_is)
    (case z13 => k_is)
    (case z14 => k_is)
    (case ca0 => k_is)
    (case cx0 => k_is)
    (case cr0 => first | rfl | decide | k_is)
    (case cb0 => kernel_rfl)
    (case ck0 => k_is)
    (case cq0 => k_exc)
    (case ca1 => k_is)
    (case cx1 => k_is)
    (case cr1 => first | rfl | decide | k_is)
    (case cb1 => kernel_rfl)
    (case ci1 => k_is)
    (case ct_1 => k_is)
    (case l37 => k_is)
    (case c37 => k_is)
    (case k37 => k_is)
    (case cn1_part => k_is)
    (case ca2 => k_is)
    (case cx2 => k_is)
    (case cr2 => first | rfl | decide | k_is)
    (case cb2 => kernel_rfl)
    (case ci2 => k_is)
    (case ct_2 => k_is)
    (case l38 => k_is)
    (case c38 => k_is)
    (case k38 => k_is)
    (case cn2_part => k_is)
    (case pi0 => kernel_rfl)
    (case pk0 => kernel_rfl)
    (case pn0 => kernel_rfl)
    (case pg22 => kernel_rfl)
    (case po0 => kernel_rfl)
    (case pg24 => kernel_rfl)
    (case x_ino_n1 => kernel_rfl)
    (case x_isc_11 => kernel_rfl)
    (case x_exm_1 => kernel_rfl)
    (case x_isl => kernel_rfl)
    (case x_tb => kernel_rfl)
    (case hr36 => first | rfl | decide +kernel)
