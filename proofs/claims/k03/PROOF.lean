import PyProof.Rows.All
import Wide.All
import OpenK.AllK
import Wide.FinOn
import HandS.ForMost
import HandS.IsInst
import HandS.Style
import HandS.Flow
import HandS.Evl
import HandS.Walk
import HandS.Conv
import HandS.SortInts
import HandS.ExcInit
import HandS.ExcIs
import HandS.ExcField
import HandS.TryMany
import KE.KExcIs
import HandS.ExcValue
import HandS.HotCalls
import KE.KDictZip
import HandS.Lambda
import HandS.EndTab
import KE.KDflt
import PyProof.ListStr
import HandS.Replace
import HandS.Wide
import HandS.WordsExc
import HandS.More
import KE.KFmtOwn
import PyProof.InstNe
import HandS.OwnEq
import HandS.DictComp
import HandS.FStr
import HandS.Zip
import HandS.RaiseMore
import HandS.WideBits
import HandS.TupAny
import HandS.Deep
import KE.SortData
import HandS.Strs
import PyProof.Rows.SetFrom
import KE.GoesEnum
import HandS.Dict
import HandS.TupMul
import HandS.Text
import HandS.SetFor
import HandS.Iter
import HandS.DictTup
import KE.KDictExact
import PySem.Challenge.RW_priceblind_k03_a_disk_by_an_own_one
section
set_option Elab.async false
set_option linter.all false
set_option maxRecDepth 100000
set_option maxHeartbeats 4000000
/-! Our own layer over HandS: defs that are called where no repr is under way (guards known), repr of data, keyword calls. -/
namespace GL
open PySem PySem.Spec PyProof.Rows L2

structure FnG (pg : Program) (w : World) (K : PySem.W.Frag) (mg : Str → Option Value) (bs : Heap) (cx : CXT)
    (k : Nat) (f : Addr) (fd : FuncData) (ps : List Str) (sp : Sp) : Prop where
  len : ∀ vs H Q E, sp vs H Q E → vs.length = ps.length
  run : ∀ (A : Around) (out : List Env) (s : Shared) (H : Hp) (ar : Args) (us : List Value) (vs : List V) (Q : VK) (E : XK),
    A.guards = some [] → Room k A → Env0 pg w K mg bs A out s H → BindsTo s fd ar (ps.zip us) → Vals vs us → sp vs H Q E →
    codeAny (model pg w) A (.call (.ref f) ar) (CR cx out pg w H s Q E) s

theorem FnG.more {pg : Program} {w : World} {K : PySem.W.Frag} {mg : Str → Option Value} {bs : Heap} {cx : CXT} {j k : Nat} {f : Addr}
    {fd : FuncData} {ps : List Str} {sp : Sp} (F : FnG pg w K mg bs cx j f fd ps sp) (h : j ≤ k) : FnG pg w K mg bs cx k f fd ps sp :=
  ⟨F.len, fun A out s H ar us vs Q E hg rm => F.run A out s H ar us vs Q E hg (rm.mono h)⟩

theorem FnG.weak {pg : Program} {w : World} {K : PySem.W.Frag} {mg : Str → Option Value} {bs : Heap} {cx : CXT} {k : Nat} {f : Addr}
    {fd : FuncData} {ps : List Str} {sp sp' : Sp} (F : FnG pg w K mg bs cx k f fd ps sp) (h : ∀ vs H Q E, sp' vs H Q E → sp vs H Q E) :
    FnG pg w K mg bs cx k f fd ps sp' :=
  ⟨fun vs H Q E q => F.len vs H Q E (h _ _ _ _ q), fun A out s H ar us vs Q E hg rm e0 hb hv hs => F.run A out s H ar us vs Q E hg rm e0 hb hv (h _ _ _ _ hs)⟩

section
variable {pg : Program} {w : World} {K : PySem.W.Frag} {mg : Str → Option Value} {bs : Heap}

/-- a body's end is the call's end -/
theorem to_end {cx : CXT} {N : List Str} {q : Str} {sc : Scope} {f : Addr} {cd : Value} {A : Around} {out : List Env} {s s' : Shared} {H : Hp} {Q : VK} {E : XK}
    {τ : L2.St} {G : Hp} {v : V} {u : Value} (J : Inv (cxOf cx pg w K mg bs N q sc f cd A out s H E) [] τ G s') (rv : RelV v u) (z : Q v G) : CE out pg w H s Q u s' :=
  ⟨v, G, J.os, J.bare, J.base, J.hok, rv, z⟩

/-- a def by its body, the guards known -/
theorem Fun.okG {cx : CXT} {x q : Str} {st : Stmt} {f : Addr} {fd : FuncData} {N ps : List Str} {k : Nat} {sp : Sp} (F : Fun K x q st f fd)
    (S : FnScope N ps (defScope st)) (len : ∀ vs H Q E, sp vs H Q E → vs.length = ps.length)
    (hb : ∀ (cd : Value) (A : Around) (out : List Env) (s : Shared) (H : Hp) (vs : List V) (Q : VK) (E : XK), A.guards = some [] →
      Room k (A.deeper (envOfC q (defScope st) s.heap.objs.size f cd)) → sp vs H Q E →
      ∃ t, PSs (cxOf cx pg w K mg bs N q (defScope st) f cd A out s H E) (defBody st) t ∧ t { nx := fun _ H' => Q .non H', rt := Q } (start N vs) H) :
    FnG pg w K mg bs cx (k + 1) f fd ps sp := by
  obtain ⟨oc, od, kV, doc, pm, an, cd, ct, osl, rfl, lk, hcd⟩ := F.ex
  refine ⟨len, fun A out s H ar us vs Q E hg rm ev hbi rv hsp => ?_⟩
  have hle := len _ _ _ _ hsp
  have keepB : ∀ b o, bs.get? b = some o → s.heap.get? b = some o := fun b o z => (ev.bs b o z).1
  have KX : K.In s.heap := ev.mod.kin.keeps keepB
  have lim : s.heap.NoLimit := ev.mod.nolimit.keeps keepB
  have kinds : ∀ y ∈ ps.zip us, (defScope st).names.lookup y.1 = some .local ∨
      ((defScope st).names.lookup y.1 = some .cell ∧ ((cellsFrom (s.heap.objs.size + 1) (defScope st).names []).lookup y.1).isSome = true) := by
    rintro ⟨n, v⟩ hy
    rcases S.par n (List.of_mem_zip hy).1 with z | z
    · exact .inl z
    · exact .inr ⟨z, PySem.W.cellsFrom_some _ _ _ (.inl z)⟩
  have room := rm.depth
  refine codeAny_call_function room (KX _ _ lk) rfl S.co S.gen rfl (PySem.W.codeRec_of KX hcd) (hbi _ _ _ _ ?_)
  refine wpAny_newFunctionEnv_cells S.kind kinds fun env he s1 ic => ?_
  subst he
  refine ⟨lim.keeps ic.toInCall.keep, codeAny_func ?_⟩
  obtain ⟨t, ht, hq⟩ := hb cd A out s H vs Q E hg (rm.deeper _) hsp
  have J := inv_start (CX := cx) (E := E) S rm.hd ev hle rv ic
  refine wpAny_mono (ht.run [] s1 (start N vs) H _ J hq) (fun fl s' hs => ?_) fun e s' hs => hs
  cases fl with
  | ret u => exact (let ⟨_, _, _, J', rv', z⟩ := hs; to_end J' rv' z)
  | next => exact (let ⟨_, _, J', z⟩ := hs; to_end (v := V.non) (u := Value.none) J' rfl z)
  | brk => exact (let ⟨_, _, _, z⟩ := hs; False.elim z)
  | cont => exact (let ⟨_, _, _, z⟩ := hs; False.elim z)

/-- a promise at the call itself, over a state where the guards are known -/
theorem FnG.goes {X : Cx} {cx : CXT} {k : Nat} {f : Addr} {fd : FuncData} {ps : List Str} {sp : Sp} {E : XK} {pins : List (Addr × Obj)} {σ : L2.St} {H : Hp}
    {s : Shared} {Q : VK} {ar : Args} {us : List Value} {vs : List V} (F : FnG X.prog X.w X.K X.mg X.base cx k f fd ps sp) (gd : X.A.guards = some [])
    (rm : Room k X.A) (hb : BindsTo s fd ar (ps.zip us)) (hx : Passes cx X E) (I : Inv X pins σ H s) (r : Vals vs us) (h : sp vs H Q E) :
    codeAny (model X.prog X.w) X.A (.call (.ref f) ar) (wants (EP X pins σ Q) X.xe) s := by
  refine codeAny_mono (F.run X.A X.stack s H ar us vs Q E gd rm I.env0 hb r h) fun res s' hq => ?_
  cases res with
  | error e => exact hx pins σ H s e s' I hq
  | ok fl =>
    cases fl with
    | ret u => exact I.after hq
    | next => exact hq.elim
    | brk => exact hq.elim
    | cont => exact hq.elim
end
end GL

end
section
set_option Elab.async false
set_option linter.all false
set_option maxRecDepth 100000
set_option maxHeartbeats 4000000
namespace GL
open PySem PySem.Spec PyProof.Rows L2
section
variable {X : Cx} {cx : CXT} {k : Nat} {f : Addr} {fd : FuncData} {ps ks : List Str} {sp : Sp} {dvs : List V} {ds : List Value} {E : XK}
  {x : Str} {p pos : Pos} {e : Expr} {es : List Expr} {kws : List Keyword} {t tk : TA}

/-- the callee, given its values -/
theorem FnG.call_vals {pins : List (Addr × Obj)} {σ : L2.St} {H : Hp} {s : Shared} {Q : VK} {us : List Value} {vs : List V}
    (F : FnG X.prog X.w X.K X.mg X.base cx k f fd ps sp) (gd : X.A.guards = some []) (rm : Room k X.A) (hb : Binds X.K fd ps ds) (hd : Vals dvs ds)
    (hx : Passes cx X E) (I : Inv X pins σ H s) (r : Vals vs us) (h : sp (vs ++ dvs) H Q E) :
    wpAny (model X.prog X.w) X.A (call (.ref f) us) (EP X pins σ Q) X.xe s := by
  have r2 := r.append hd
  have hl : (us ++ ds).length = ps.length := r2.length.symm.trans (F.len _ _ _ _ h)
  exact wpAny_call (F.goes gd rm (hb s us I.kIn hl) hx I r2 h)

/-- f(e, ..) -/
theorem pg_call (F : FnG X.prog X.w X.K X.mg X.base cx k f fd ps sp) (gd : X.A.guards = some []) (rm : Room k X.A) (hg : Gl X x)
    (hm : X.mg x = some (.ref f)) (kp : PySem.W.keepIn X.K (.ref f) = true) (hb : Binds X.K fd ps ds) (hd : Vals dvs ds) (hx : Passes cx X E) (ha : PA X (e :: es) t)
    (hdb : (x == ("__debug__" : Str)) = false := by decide) (hst : starEach (e :: es) X.env = (false, eval e X.env) :: starEach es X.env := by rfl)
    (hpl : (backTo pos (starEach es X.env)).any (·.1) = false := by rfl) : PE X (.Call (.Name x p) (e :: es) [] pos) (tCall sp dvs E t) := by
  refine ⟨fun pins s σ H Q I h => wpAny_Call_Name_kw (ld_glob I hg hm ?_ hdb)⟩
  refine PySem.W.callWith_K (h₀ := X.base) I.ok.mod.kin kp (thn (ha.run pos pins s σ H _ I h) ?_) hst hpl
  rintro us s1 ⟨vs, H1, I1, r, q⟩
  exact ⟨I1.kIn, F.call_vals gd rm hb hd hx I1 r q⟩

/-- f() -/
theorem pg_call0 (F : FnG X.prog X.w X.K X.mg X.base cx k f fd ps sp) (gd : X.A.guards = some []) (rm : Room k X.A) (hg : Gl X x)
    (hm : X.mg x = some (.ref f)) (kp : PySem.W.keepIn X.K (.ref f) = true) (hb : Binds X.K fd ps ds) (hd : Vals dvs ds) (hx : Passes cx X E)
    (hdb : (x == ("__debug__" : Str)) = false := by decide) : PE X (.Call (.Name x p) [] [] pos) (tCall sp dvs E tNil) :=
  ⟨fun pins s σ H Q I h => wpAny_Call_Name_kw (ld_glob I hg hm (PySem.W.callWith_K0 I.kIn kp (F.call_vals (us := []) gd rm hb hd hx I .nil h)) hdb)⟩

/-- how n values by place and the keywords ks bind -/
structure KwB (K : PySem.W.Frag) (fd : FuncData) (ps : List Str) (n : Nat) (ks : List Str) (g : {α : Type} → List α → List α → List α) : Prop where
  to : ∀ (s : Shared) (us ws : List Value), us.length = n → ws.length = ks.length → BindsTo s fd ⟨us, ks.zip ws⟩ (ps.zip (g us ws))
  rel : ∀ {vs : List V} {us : List Value} {zs : List V} {ws : List Value}, vs.length = n → zs.length = ks.length → Vals vs us → Vals zs ws → Vals (g vs zs) (g us ws)
variable {n : Nat} {g : {α : Type} → List α → List α → List α}
def tKw (n m : Nat) (sp : Sp) (g : {α : Type} → List α → List α → List α) (E : XK) (t tk : TA) : TE := fun σ H Q => t σ H fun vs H1 => tk σ H1 fun zs H2 =>
  vs.length = n ∧ zs.length = m ∧ sp (g vs zs) H2 Q E

theorem FnG.call_kw {pins : List (Addr × Obj)} {σ : L2.St} {H : Hp} {s : Shared} {Q : VK} {us ws : List Value} {vs zs : List V}
    (F : FnG X.prog X.w X.K X.mg X.base cx k f fd ps sp) (gd : X.A.guards = some []) (rm : Room k X.A) (hb : KwB X.K fd ps n ks g) (hx : Passes cx X E)
    (I : Inv X pins σ H s) (r : Vals vs us) (rz : Vals zs ws) (l1 : vs.length = n) (l2 : zs.length = ks.length) (h : sp (g vs zs) H Q E) :
    wpAny (model X.prog X.w) X.A (call (.ref f) us (ks.zip ws)) (EP X pins σ Q) X.xe s :=
  wpAny_call (F.goes gd rm (hb.to s us ws (r.length.symm.trans l1) (rz.length.symm.trans l2)) hx I (hb.rel l1 l2 r rz) h)

/-- f(e, .., k = v, ..) -/
theorem pg_callK (F : FnG X.prog X.w X.K X.mg X.base cx k f fd ps sp) (gd : X.A.guards = some []) (rm : Room k X.A) (hg : Gl X x)
    (hm : X.mg x = some (.ref f)) (kp : PySem.W.keepIn X.K (.ref f) = true) (hb : KwB X.K fd ps n ks g) (hx : Passes cx X E) (ha : PA X (e :: es) t) (hk : PK X kws tk)
    (hall : (backToKw pos (keywordEach kws X.env)).all (·.1.isSome) = true := by rfl) (hks : (backToKw pos (keywordEach kws X.env)).filterMap (·.1) = ks := by rfl)
    (hdb : (x == ("__debug__" : Str)) = false := by decide) (hst : starEach (e :: es) X.env = (false, eval e X.env) :: starEach es X.env := by rfl)
    (hpl : ((backTo pos (starEach (e :: es) X.env)).any (·.1) || (backToKw pos (keywordEach kws X.env)).any (·.1.isNone)) = false := by rfl) :
    PE X (.Call (.Name x p) (e :: es) kws pos) (tKw n ks.length sp g E t tk) := by
  refine ⟨fun pins s σ H Q I h => wpAny_Call_Name_kw (ld_glob I hg hm ?_ hdb)⟩
  refine PySem.W.callWith_KW (h₀ := X.base) I.ok.mod.kin kp hall (thn (ha.run pos pins s σ H _ I h) ?_) hpl hst
  rintro us s1 ⟨vs, H1, I1, r, q⟩
  refine thn (hk.run pos pins s1 σ H1 _ I1 q) ?_
  rintro ws s2 ⟨zs, H2, I2, rz, l1, l2, q2⟩
  rw [hks]
  exact ⟨I2.kIn, F.call_kw gd rm hb hx I2 r rz l1 l2 q2⟩

/-- f(k = v, ..) -/
theorem pg_callK0 (F : FnG X.prog X.w X.K X.mg X.base cx k f fd ps sp) (gd : X.A.guards = some []) (rm : Room k X.A) (hg : Gl X x)
    (hm : X.mg x = some (.ref f)) (kp : PySem.W.keepIn X.K (.ref f) = true) (hb : KwB X.K fd ps 0 ks g) (hx : Passes cx X E) (hk : PK X kws tk)
    (hall : (backToKw pos (keywordEach kws X.env)).all (·.1.isSome) = true := by rfl) (hks : (backToKw pos (keywordEach kws X.env)).filterMap (·.1) = ks := by rfl)
    (hdb : (x == ("__debug__" : Str)) = false := by decide)
    (hpl : ((backTo pos (starEach [] X.env)).any (·.1) || (backToKw pos (keywordEach kws X.env)).any (·.1.isNone)) = false := by rfl) :
    PE X (.Call (.Name x p) [] kws pos) (tKw 0 ks.length sp g E tNil tk) := by
  refine ⟨fun pins s σ H Q I h => wpAny_Call_Name_kw (ld_glob I hg hm ?_ hdb)⟩
  refine PySem.W.callWith_KW0 (h₀ := X.base) I.ok.mod.kin kp hall ?_ hpl
  refine thn (hk.run pos pins s σ H _ I h) ?_
  rintro ws s2 ⟨zs, H2, I2, rz, l1, l2, q2⟩
  rw [hks]
  exact ⟨I2.kIn, F.call_kw (us := []) gd rm hb hx I2 .nil rz l1 l2 q2⟩

/-! ### repr of data -/
/-- repr(x), x data -/
def rRepr (K : PySem.W.Frag) : List V → Hp → VK → Prop := fun xs H Q => ∃ (v : V) (d : PyData), xs = [v] ∧ Dp K H v d ∧ d.showable = true ∧ d.hasDict = false ∧ d.depth ≤ 60 ∧ d.shown.length ≤ sizeLine ∧ Q (.str d.shown) H

theorem call_repr (gd : X.A.guards = some []) {j : Nat} (rm : Room j X.A) : CallR X (.builtin "repr") (rRepr X.K) := by
  intro pins s σ H xs us Q I r h
  obtain ⟨v, d, rfl, hd, hs, hn, hz, hl, q⟩ := h
  cases r with
  | cons rv rn =>
    rename_i u us
    cases rn
    have hu := rm.units
    obtain ⟨as, rd⟩ := Dp.reads I d v u hd rv
    have fin : ∀ (h' : Heap) (u' tk : Tok), (∀ b o, s.heap.get? b = some o → h'.get? b = some o) → EP X pins σ Q (.str d.shown u') { s with heap := h', toks := tk } :=
      fun h' u' tk kk => ⟨.str d.shown, H, I.kept (t' := tk) kk, ⟨u', rfl⟩, q⟩
    cases hd with
    | non => cases rv; exact P.repr_of_none (fin s.heap _ _ fun _ _ z => z)
    | bl b => cases rv; exact P.repr_of_bool (fin s.heap _ _ fun _ _ z => z)
    | int i => obtain ⟨t, rfl⟩ := rv; exact P.repr_of_int (by simpa [PyData.showable] using hs) (fin s.heap _ _ fun _ _ z => z)
    | str y => obtain ⟨t, rfl⟩ := rv; exact P.repr_of_str (fin s.heap _ _ fun _ _ z => z) hl
    | lst h1 h2 =>
      cases rv
      exact repr_of_reads' rd hs (fun z => by rw [hn] at z; cases z) gd (by omega) (fun _ _ z => z) fin hl
    | tup h1 h2 =>
      cases rv
      exact repr_of_reads' rd hs (fun z => by rw [hn] at z; cases z) gd (by omega) (fun _ _ z => z) fin hl
end

/-! ### the law's end -/
def SmB (h : Heap) : Prop := ∃ o, h.get? sysModules = some o
section
theorem law_in {pg : Program} {w : World} {K : PySem.W.Frag} {mg mb : Str → Option Value} {cx : CXT} {k : Nat} {fa a : Addr} {fd : FuncData} {x : Str} {sp : Sp} {s : Shared}
    {vs : List Value} {H : Hp} (KX : K.In s.heap) (hns : s.heap.Ns mainGlobals mg) (hb : s.heap.Ns builtinsNs mb)
    (hbb : ∀ y : Str, y ≠ "__name__" → mb y = bootBuiltins y) (lim : s.heap.NoLimit) (hg : s.gens = #[])
    (ha : s.heap.get? a = some { cls := .type "list", data := .seq vs.toArray }) (rm : Room k callerA)
    (sm : ∃ o es ep, s.heap.get? sysModules = some o ∧ o.data = .dict es ep) (F : ∀ bs : Heap, K.In bs → bs.Ns mainGlobals mg → SmB bs → FnG pg w K mg bs cx k fa fd [x] sp) (hbi : ∀ (s : Shared) (u : Value), BindsTo s fd ⟨[u], []⟩ [(x, u)])
    (hO : Only H) (hok : HOk pg w H s.heap) (only : ∀ b, H b ≠ none → b = a) (hK : H a ≠ none → K.lookup a = none)
    (hsp : sp [.ref a] H (fun v _ => v = .bl true) fun _ _ _ => False) (hcx : ∀ H e s', cx [] H s (fun _ _ _ => False) e s' → False) :
    codeAny (model pg w) callerA (.call (.ref fa) ⟨[.ref a], []⟩)
      (fun r s' => r = .ok (.ret (.bool true)) ∧ OldK s.heap s'.heap ∧ s'.os = s.os ∧ AllBare s'.gens) s := by
  have at_a : ∀ {b : Addr}, H b ≠ none → b = a := fun {b} => only b
  have noDict : ∀ {b : Addr} {o : Obj} {es : Array DictEntry} {ep : Nat}, s.heap.get? b = some o → o.data = .dict es ep → H b = none := by
    intro b o es ep e d
    by_cases z : H b = none
    · exact z
    · cases at_a z
      rw [ha] at e
      cases e
      cases d
  have ns_of : ∀ {b : Addr} {m : Str → Option Value}, s.heap.Ns b m → (hidT s.heap H).Ns b m := fun ⟨o, es, ep, e, d, r⟩ => ⟨o, es, ep, hidT_get e (noDict e d), d, r⟩
  have KB : K.In (hidT s.heap H) := fun b o e => hidT_get (KX b o e) (by
    by_cases z : H b = none
    · exact z
    · cases at_a z
      rw [hK z] at e
      cases e)
  have md : Mod K mg (hidT s.heap H) := ⟨KB, ns_of hns, ⟨mb, ns_of hb, hbb⟩, lim.imp fun _ z => ⟨ns_of z.1, z.2⟩⟩
  have ev : Env0 pg w K mg (hidT s.heap H) callerA [] s H :=
    ⟨rfl, md, fun _ _ e => of_hidT e, Nat.le_of_eq (hidT_size _ _), trivial, (fun b z => absurd (show b ∈ ([] : List Addr) from z) (by simp)), hok, .of_eq hg⟩
  refine codeAny_mono ((F _ KB (ns_of hns) (let ⟨o, es, ep, e1, e2⟩ := sm; ⟨o, hidT_get e1 (noDict e1 e2)⟩)).run callerA [] s H ⟨[.ref a], []⟩ [.ref a] [.ref a] _ _ rfl rm ev (hbi s (.ref a)) (.cons rfl .nil) hsp) ?_
  rintro (e | fl) s' z
  · exact (hcx H e s' z).elim
  · cases fl with
    | ret u =>
      obtain ⟨v, H', os, bare, un, hok', ru, rfl⟩ := z
      cases ru
      refine ⟨rfl, OldK.of_keep fun b o e => ?_, os, bare⟩
      rcases hO b with q | ⟨ob, xs, q⟩
      · exact un.keep b o e q (by intro y; cases y) (by intro y; cases y)
      · have e1 := (hok b _ q).1
        have e2 := (hok' b _ (un.frzs b ob _ q)).1
        exact e2.trans (e1.symm.trans e)
    | next => exact z.elim
    | brk => exact z.elim
    | cont => exact z.elim

theorem walkG {l : PySem.W.OpenLaw} {n k : Nat} {q : Program} {loose : List Str} {XP : (Str → Option Value) → Heap → Prop} {YP : World → Heap → Prop} {d : DefRec}
    {K : Params → PySem.W.Frag} {cx : CXT} {sp : PySem.W.Frag → Sp} {x : Str} (hi : importsNone q = true) (hn : l.most = some n) (hn2 : n ≤ sizeLine) (hdf : d.params.defaults = []) (rm : Room k callerA)
    (hY : ∀ (w : World) (h : Heap), YP w h → (K w.params).In h)
    (F : ∀ (w : World) (mg : Str → Option Value) (fa : Addr) (h : Heap), (K w.params).In h → h.Ns mainGlobals mg → mg d.name = some (.ref fa) →
      ∃ fd : FuncData, (∀ (s : Shared) (u : Value), BindsTo s fd ⟨[u], []⟩ [(x, u)]) ∧
        ∀ bs : Heap, (K w.params).In bs → bs.Ns mainGlobals mg → SmB bs → FnG l.prog w (K w.params) mg bs cx k fa fd [x] (sp (K w.params)))
    (hsp : ∀ (K : PySem.W.Frag) (H : Hp) (a : Addr) (ns : List Int), ns.length ≤ n → Only H → SqL K H a (ns.map V.int) → sp K [.ref a] H (fun v _ => v = .bl true) fun _ _ _ => False)
    (hcx : ∀ (H : Hp) (s : Shared) (e : Value) (s' : Shared), cx [] H s (fun _ _ _ => False) e s' → False) :
    PySem.W.WalkO q loose XP YP l.row.toRowW d [] (fun f vs => PySem.call f vs) := by
  refine Att.attach_call hn hdf ?_
  intro w _ s mg mb fa o pm cd doc a vs ns G Y ho hd hcd hmg hob hin hle hg
  have KX := hY w _ Y
  have sm : ∃ o es ep, s.heap.get? sysModules = some o ∧ o.data = .dict es ep := by
    obtain ⟨mm, ⟨o, es, ep, e1, e2, _⟩, _⟩ := (G.T.seer hi).mods
    exact ⟨o, es, ep, e1, e2⟩
  obtain ⟨fd, hb, hF⟩ := F w mg fa _ KX G.T.g hmg
  have rv := vals_ints hin
  have lv := hin.length
  cases hk : (K w.params).lookup a with
  | some o' =>
    have e := KX a o' hk
    rw [hob] at e
    cases e
    have O : Only (fun _ => none) := fun _ => .inl rfl
    have S : SqL (K w.params) (fun _ => none) a (ns.map V.int) :=
      .inr ⟨_, vs.toArray, _, hk, rfl, rfl, rfl, by rw [List.size_toArray, lv]; exact Nat.le_trans hle hn2, by simpa using rv⟩
    exact law_in (H := fun _ => none) KX G.T.g G.T.b G.T.builtins G.T.nolimit hg hob rm sm hF hb O (fun b u z => by cases z) (fun b z => absurd rfl z) (fun z => absurd rfl z)
      (hsp _ _ a ns hle O S) fun H e s' => hcx H s e s'
  | none =>
    let H : Hp := fun b => if b = a then some (.frz { cls := .type "list", data := .seq vs.toArray } (.lst (ns.map V.int))) else none
    have Ha : H a = some (.frz { cls := .type "list", data := .seq vs.toArray } (.lst (ns.map V.int))) := if_pos rfl
    have Hn : ∀ b, b ≠ a → H b = none := fun b z => if_neg z
    have O : Only H := fun b => by
      by_cases z : b = a
      · exact .inr ⟨_, _, if_pos z⟩
      · exact .inl (Hn b z)
    have ok : HOk l.prog w H s.heap := fun b u z => by
      by_cases e : b = a
      · subst e
        rw [Ha] at z
        cases z
        exact ⟨hob, by rw [List.length_map]; exact Nat.le_trans hle hn2, vs, _, rv, hob⟩
      · rw [Hn b e] at z
        cases z
    refine law_in (H := H) KX G.T.g G.T.b G.T.builtins G.T.nolimit hg hob rm sm hF hb O ok (fun b z => ?_) (fun _ => hk) (hsp _ _ a ns hle O (.inl (.inr ⟨_, Ha⟩))) fun H e s' => hcx H s e s'
    by_cases e : b = a
    · exact e
    · exact absurd (Hn b e) z
end
end GL

end
section
set_option Elab.async false
set_option linter.all false
set_option maxRecDepth 100000
set_option maxHeartbeats 4000000
/-! What laws draw: data known to any depth, the rack of a law's draws, isinstance of such data, loops over a list or a tuple. -/
namespace GL
open PySem PySem.Spec PyProof.Rows L2

/-- nothing that was tracked has changed -/
abbrev Ex (H H' : Hp) : Prop := ∀ a o, H a = some o → H' a = some o
/-- nothing that was tracked has changed, but p -/
def Kp (p : Addr) (H H' : Hp) : Prop := ∀ a o, a ≠ p → H a = some o → H' a = some o
theorem Ex.rfl' (H : Hp) : Ex H H := fun _ _ h => h
theorem Ex.tr {H H1 H2 : Hp} (a : Ex H H1) (b : Ex H1 H2) : Ex H H2 := fun x o h => b x o (a x o h)
theorem Ex.nw {H : Hp} {p : Addr} {o : HO} (h : H p = none) : Ex H (upd H p o) := fun a u e => by
  rw [upd_ne (ne_of_none e h)]; exact e
/-- an object that H does not know changes -/
theorem Ex.up {H H' : Hp} {p : Addr} {o : HO} (e : Ex H H') (h : H p = none) : Ex H (upd H' p o) := fun a u ha => by
  rw [upd_ne (ne_of_none ha h)]; exact e a u ha
theorem Ex.no {H H' : Hp} {p : Addr} (e : Ex H H') (h : H' p = none) : H p = none := by
  cases h1 : H p with
  | none => rfl
  | some o => rw [e p o h1] at h; cases h
theorem Ex.kp {p : Addr} {H H' : Hp} (e : Ex H H') : Kp p H H' := fun a o _ h => e a o h
theorem Kp.rfl' {p : Addr} (H : Hp) : Kp p H H := fun _ _ _ h => h
theorem Kp.tr {p : Addr} {H H1 H2 : Hp} (a : Kp p H H1) (b : Kp p H1 H2) : Kp p H H2 := fun x o n h => b x o n (a x o n h)
theorem Kp.ex {p : Addr} {H H1 H2 : Hp} (a : Kp p H H1) (b : Ex H1 H2) : Kp p H H2 := fun x o n h => b x o (a x o n h)
theorem Kp.nw {p q : Addr} {H H' : Hp} {o : HO} (e : Kp p H H') (h : H q = none) : Kp p H (upd H' q o) := fun a u n ha => by
  rw [upd_ne (ne_of_none ha h)]; exact e a u n ha
theorem Kp.up {p : Addr} {H H' : Hp} {o : HO} (e : Kp p H H') : Kp p H (upd H' p o) := fun a u n ha => by
  rw [upd_ne n]; exact e a u n ha

/-- data: known to any depth, none of it at p -/
inductive Kd (p : Addr) (H : Hp) : V → Prop
  | non : Kd p H .non
  | bl (b : Bool) : Kd p H (.bl b)
  | int (i : Int) : Kd p H (.int i)
  | str (z : Str) : Kd p H (.str z)
  | lst {a : Addr} {xs : List V} (n : a ≠ p) (e : H a = some (.lst xs)) (z : xs.length ≤ 100000) (all : ∀ x, x ∈ xs → Kd p H x) : Kd p H (.ref a)
  | tup {a : Addr} {xs : List V} (n : a ≠ p) (e : H a = some (.tup xs)) (z : xs.length ≤ 100000) (all : ∀ x, x ∈ xs → Kd p H x) : Kd p H (.ref a)
  | dK {a : Addr} {kvs : List (Key × V)} (n : a ≠ p) (e : H a = some (.dK kvs)) : Kd p H (.ref a)
theorem Kd.kp {p : Addr} {H H' : Hp} (k : Kp p H H') {v : V} (h : Kd p H v) : Kd p H' v := by
  induction h with
  | non => exact .non
  | bl b => exact .bl b
  | int i => exact .int i
  | str z => exact .str z
  | lst n e z _ ih => exact .lst n (k _ _ n e) z ih
  | tup n e z _ ih => exact .tup n (k _ _ n e) z ih
  | dK n e => exact .dK n (k _ _ n e)
theorem Kd.ex {p : Addr} {H H' : Hp} (k : Ex H H') {v : V} (h : Kd p H v) : Kd p H' v := h.kp (Ex.kp k)

/-- the name of a value's type -/
def tyN (H : Hp) : V → String
  | .non => "NoneType"
  | .bl _ => "bool"
  | .int _ => "int"
  | .str _ => "str"
  | .ref a => match H a with
    | some (.lst _) => "list"
    | some (.tup _) => "tuple"
    | some (.dK _) => "dict"
    | _ => ""
  | _ => ""
theorem tyN_lst {H : Hp} {a : Addr} {xs : List V} (e : H a = some (.lst xs)) : tyN H (.ref a) = "list" := by
  show (match H a with | some (.lst _) => "list" | some (.tup _) => "tuple" | some (.dK _) => "dict" | _ => "") = _
  rw [e]
theorem tyN_tup {H : Hp} {a : Addr} {xs : List V} (e : H a = some (.tup xs)) : tyN H (.ref a) = "tuple" := by
  show (match H a with | some (.lst _) => "list" | some (.tup _) => "tuple" | some (.dK _) => "dict" | _ => "") = _
  rw [e]
theorem tyN_dK {H : Hp} {a : Addr} {kvs : List (Key × V)} (e : H a = some (.dK kvs)) : tyN H (.ref a) = "dict" := by
  show (match H a with | some (.lst _) => "list" | some (.tup _) => "tuple" | some (.dK _) => "dict" | _ => "") = _
  rw [e]
theorem tyN_ex {p : Addr} {H H' : Hp} (k : Kp p H H') {v : V} (h : Kd p H v) : tyN H' v = tyN H v := by
  cases h with
  | non => rfl
  | bl b => rfl
  | int i => rfl
  | str z => rfl
  | lst n e _ _ => rw [tyN_lst e, tyN_lst (k _ _ n e)]
  | tup n e _ _ => rw [tyN_tup e, tyN_tup (k _ _ n e)]
  | dK n e => rw [tyN_dK e, tyN_dK (k _ _ n e)]
/-- the items of a list or a tuple -/
def its (H : Hp) : V → Option (List V)
  | .ref a => match H a with
    | some (.lst xs) => some xs
    | some (.tup xs) => some xs
    | _ => none
  | _ => none
theorem its_lst {H : Hp} {a : Addr} {xs : List V} (e : H a = some (.lst xs)) : its H (.ref a) = some xs := by
  show (match H a with | some (.lst xs) => some xs | some (.tup xs) => some xs | _ => none) = _
  rw [e]
theorem its_tup {H : Hp} {a : Addr} {xs : List V} (e : H a = some (.tup xs)) : its H (.ref a) = some xs := by
  show (match H a with | some (.lst xs) => some xs | some (.tup xs) => some xs | _ => none) = _
  rw [e]
theorem its_dK {H : Hp} {a : Addr} {kvs : List (Key × V)} (e : H a = some (.dK kvs)) : its H (.ref a) = none := by
  show (match H a with | some (.lst xs) => some xs | some (.tup xs) => some xs | _ => none) = _
  rw [e]
theorem its_ex {p : Addr} {H H' : Hp} (k : Kp p H H') {v : V} (h : Kd p H v) : its H' v = its H v := by
  cases h with
  | non => rfl
  | bl b => rfl
  | int i => rfl
  | str z => rfl
  | lst n e _ _ => rw [its_lst e, its_lst (k _ _ n e)]
  | tup n e _ _ => rw [its_tup e, its_tup (k _ _ n e)]
  | dK n e => rw [its_dK e, its_dK (k _ _ n e)]
theorem its_kd {p : Addr} {H : Hp} {v : V} {xs : List V} (h : Kd p H v) (e : its H v = some xs) : ∀ x, x ∈ xs → Kd p H x := by
  cases h with
  | non => cases e
  | bl b => cases e
  | int i => cases e
  | str z => cases e
  | lst n e' _ all => rw [its_lst e'] at e; cases e; exact all
  | tup n e' _ all => rw [its_tup e'] at e; cases e; exact all
  | dK n e' => rw [its_dK e'] at e; cases e

theorem kd_ty {K : PySem.W.Frag} {p : Addr} {H : Hp} {v : V} (h : Kd p H v) : TyX K H v (.type (tyN H v)) := by
  cases h with
  | non => exact .base .non
  | bl b => exact .base (.bl b)
  | int i => exact .base (.int i)
  | str z => exact .base (.str z)
  | lst n e _ _ => rw [tyN_lst e]; exact .base (.lst e)
  | tup n e _ _ => rw [tyN_tup e]; exact .base (.tup e)
  | dK n e => rw [tyN_dK e]; exact .base (.dK e)
def kinds : List String := ["NoneType", "bool", "int", "str", "list", "tuple", "dict"]
theorem kd_kind {p : Addr} {H : Hp} {v : V} (h : Kd p H v) : tyN H v ∈ kinds := by
  cases h with
  | non => show "NoneType" ∈ kinds; decide
  | bl b => show "bool" ∈ kinds; decide
  | int i => show "int" ∈ kinds; decide
  | str z => show "str" ∈ kinds; decide
  | lst n e _ _ => rw [tyN_lst e]; decide
  | tup n e _ _ => rw [tyN_tup e]; decide
  | dK n e => rw [tyN_dK e]; decide
/-- is of the type, by name: bool is below int -/
def isT (t c : String) : Bool := t == c || (t == "bool" && c == "int")
theorem kit_all : ∀ t ∈ kinds, ∀ c ∈ ["int", "bool", "str", "list", "tuple", "dict"], kitB t c = some (isT t c) := by decide +kernel
theorem isi_go {K : PySem.W.Frag} {p : Addr} {H : Hp} {v : V} {c : String} {Q : VK} (h : Kd p H v) (hc : c ∈ ["int", "bool", "str", "list", "tuple", "dict"]) (q : Q (.bl (isT (tyN H v) c)) H) : rIsi K [v, .ty c] H Q :=
  ⟨v, .ty c, _, _, _, rfl, .ty c, kd_ty h, kit_ty (kit_all _ (kd_kind h) c hc), q⟩
/-- isinstance(x, (c, d)) -/
theorem isi_go2 {K : PySem.W.Frag} {p t : Addr} {H : Hp} {v : V} {c d : String} {Q : VK} (h : Kd p H v) (ht : H t = some (.tup [.ty c, .ty d])) (hc : c ∈ ["int", "bool", "str", "list", "tuple", "dict"]) (hd : d ∈ ["int", "bool", "str", "list", "tuple", "dict"])
    (q : Q (.bl (isT (tyN H v) c || isT (tyN H v) d)) H) : rIsiT K [v, .ref t] H Q := by
  refine ⟨v, t, [.ty c, .ty d], _, [.type c, .type d], _, rfl, ht, .cons (.ty c) (.cons (.ty d) .nil), kd_ty h, ?_, q⟩
  refine kitAny_cons (kit_ty (kit_all _ (kd_kind h) c hc)) (fun e => ?_) fun e => by rw [e]; rfl
  rw [e, Bool.false_or]
  refine kitAny_cons (kit_ty (kit_all _ (kd_kind h) d hd)) (fun e2 => ?_) fun e2 => e2
  rw [e2]; exact kitAny_nil

/-- an integer that is no truth -/
def wh : V → Bool
  | .int _ => true
  | _ => false
theorem wh_ty {p : Addr} {H : Hp} {v : V} (h : Kd p H v) : wh v = (isT (tyN H v) "int" && !isT (tyN H v) "bool") := by
  cases h with
  | non => show false = (isT "NoneType" "int" && !isT "NoneType" "bool"); decide
  | bl b => show false = (isT "bool" "int" && !isT "bool" "bool"); decide
  | int i => show true = (isT "int" "int" && !isT "int" "bool"); decide
  | str z => show false = (isT "str" "int" && !isT "str" "bool"); decide
  | lst n e _ _ => rw [tyN_lst e]; show false = (isT "list" "int" && !isT "list" "bool"); decide
  | tup n e _ _ => rw [tyN_tup e]; show false = (isT "tuple" "int" && !isT "tuple" "bool"); decide
  | dK n e => rw [tyN_dK e]; show false = (isT "dict" "int" && !isT "dict" "bool"); decide
theorem wh_int {v : V} (h : wh v = true) : ∃ i, v = .int i := by
  cases v <;> first | (cases h; done) | exact ⟨_, rfl⟩
/-- a list or a tuple, by isinstance -/
theorem seq_ty {p : Addr} {H : Hp} {v : V} (h : Kd p H v) : (isT (tyN H v) "list" || isT (tyN H v) "tuple") = (its H v).isSome := by
  cases h with
  | non => show (isT "NoneType" "list" || isT "NoneType" "tuple") = false; decide
  | bl b => show (isT "bool" "list" || isT "bool" "tuple") = false; decide
  | int i => show (isT "int" "list" || isT "int" "tuple") = false; decide
  | str z => show (isT "str" "list" || isT "str" "tuple") = false; decide
  | lst n e _ _ => rw [tyN_lst e, its_lst e]; show _ = true; decide
  | tup n e _ _ => rw [tyN_tup e, its_tup e]; show _ = true; decide
  | dK n e => rw [tyN_dK e, its_dK e]; show _ = false; decide
theorem its_len {p : Addr} {H : Hp} {v : V} {xs : List V} (h : Kd p H v) (e : its H v = some xs) : xs.length ≤ 100000 := by
  cases h with
  | non => cases e
  | bl b => cases e
  | int i => cases e
  | str z => cases e
  | lst n e' z _ => rw [its_lst e'] at e; cases e; exact z
  | tup n e' z _ => rw [its_tup e'] at e; cases e; exact z
  | dK n e' => rw [its_dK e'] at e; cases e
/-- a list or a tuple, to walk it -/
theorem its_at {p : Addr} {H : Hp} {v : V} {xs : List V} (h : Kd p H v) (e : its H v = some xs) : ∃ a, v = .ref a ∧ a ≠ p ∧ (H a = some (.lst xs) ∨ H a = some (.tup xs)) := by
  cases h with
  | non => cases e
  | bl b => cases e
  | int i => cases e
  | str z => cases e
  | lst n e' _ _ => rw [its_lst e'] at e; cases e; exact ⟨_, rfl, n, .inl e'⟩
  | tup n e' _ _ => rw [its_tup e'] at e; cases e; exact ⟨_, rfl, n, .inr e'⟩
  | dK n e' => rw [its_dK e'] at e; cases e
/-- the readings of isinstance(x, C), isinstance(x, (C, D)), x a name -/
theorem rd_isi {K : PySem.W.Frag} {p : Addr} {σ : L2.St} {i : Nat} {H : Hp} {v : V} {c : String} {Q : VK} (hi : σ[i]? = some (some v)) (h : Kd p H v)
    (hc : c ∈ ["int", "bool", "str", "list", "tuple", "dict"]) (q : Q (.bl (isT (tyN H v) c)) H) : tCB (rIsi K) (tCons (tVar i) (tCons (tC (.ty c)) tNil)) σ H Q :=
  ⟨v, hi, isi_go h hc q⟩
theorem rd_isi2 {K : PySem.W.Frag} {p : Addr} {σ : L2.St} {i : Nat} {H : Hp} {v : V} {c d : String} {Q : VK} (hi : σ[i]? = some (some v)) (h : Kd p H v)
    (hc : c ∈ ["int", "bool", "str", "list", "tuple", "dict"]) (hd : d ∈ ["int", "bool", "str", "list", "tuple", "dict"])
    (q : ∀ H', Ex H H' → Q (.bl (isT (tyN H v) c || isT (tyN H v) d)) H') : tCB (rIsiT K) (tCons (tVar i) (tCons (tTup (tCons (tC (.ty c)) (tCons (tC (.ty d)) tNil))) tNil)) σ H Q := by
  refine ⟨v, hi, (show 2 ≤ sizeLine by decide), fun t ht => ?_⟩
  have e : Ex H (upd H t (.tup [.ty c, .ty d])) := Ex.nw ht
  refine isi_go2 (K := K) (h.ex e) upd_same hc hd ?_
  rw [tyN_ex (Ex.kp e) h]
  exact q _ e
/-! ### walking a list or a tuple -/
def iSeq (K : PySem.W.Frag) (tl tl' : TE) : TI := fun σ H R => iList K tl σ H R ∨ iTup K tl' σ H R
theorem pi_seq {X : Cx} {tg e : Expr} {tl tl' : TE} (h : PE X e tl) (h' : PE X e tl') : PI X tg e (iSeq X.K tl tl') :=
  ⟨fun pins s σ H R I q => q.elim ((pi_list h).run pins s σ H R I) ((pi_tup h').run pins s σ H R I)⟩

/-! ### the rack of a law's draws: [cells, turn, left] -/
structure Rk (H : Hp) (p c : Addr) (n : Nat) : Prop where
  ex : ∃ (ns : List Int) (t l : Int), H p = some (.lst [.ref c, .int t, .int l]) ∧ H c = some (.lst (ns.map V.int)) ∧ c ≠ p ∧ ns.length ≤ 63 ∧ 0 ≤ t ∧ t ≤ n ∧ 0 ≤ l
theorem Rk.kp {H H' : Hp} {p c : Addr} {n : Nat} (r : Rk H p c n) (e : Ex H H') : Rk H' p c n := by
  obtain ⟨ns, t, l, h1, h2, h3⟩ := r.ex
  exact ⟨⟨ns, t, l, e _ _ h1, e _ _ h2, h3⟩⟩
theorem Rk.ne {H : Hp} {p c q : Addr} {n : Nat} (r : Rk H p c n) (h : H q = none) : q ≠ p := by
  obtain ⟨ns, t, l, h1, h2, h3⟩ := r.ex
  intro e; subst e; rw [h1] at h; cases h
theorem Rk.nc {H : Hp} {p c q : Addr} {n : Nat} (r : Rk H p c n) (h : H q = none) : q ≠ c := by
  obtain ⟨ns, t, l, h1, h2, h3⟩ := r.ex
  intro e; subst e; rw [h2] at h; cases h
/-- another object changes -/
theorem Rk.up {H : Hp} {p c q : Addr} {n : Nat} {o : HO} (r : Rk H p c n) (hp : q ≠ p) (hc : q ≠ c) : Rk (upd H q o) p c n := by
  obtain ⟨ns, t, l, h1, h2, h3⟩ := r.ex
  exact ⟨⟨ns, t, l, by rw [upd_ne hp.symm]; exact h1, by rw [upd_ne hc.symm]; exact h2, h3⟩⟩
theorem Rk.more {H : Hp} {p c : Addr} {m n : Nat} (r : Rk H p c n) (h : n ≤ m) : Rk H p c m := by
  obtain ⟨ns, t, l, h1, h2, h3, h4, h5, h6, h7⟩ := r.ex
  exact ⟨⟨ns, t, l, h1, h2, h3, h4, h5, by omega, h7⟩⟩
/-- a draw: an int from 0 on below many -/
def spDraw : Sp := fun vs H Q _ => ∃ (p c : Addr) (many : Int) (n : Nat), vs = [.ref p, .int many] ∧ Rk H p c n ∧ n < 100000 ∧ 0 < many ∧ many < 1073741824 ∧
  ∀ (r : Int) (H' : Hp), 0 ≤ r → r < many → Rk H' p c (n + 1) → Kp p H H' → Q (.int r) H'
/-- a draw from a list, or a sign from a text -/
def spPick : Sp := fun vs H Q _ => ∃ (p c : Addr) (x : V) (n : Nat), vs = [.ref p, x] ∧ Rk H p c n ∧ n < 100000 ∧
  ((∃ a xs, x = .ref a ∧ a ≠ p ∧ H a = some (.lst xs) ∧ xs ≠ [] ∧ xs.length < 1000000 ∧ ∀ (v : V) (H' : Hp), v ∈ xs → Rk H' p c (n + 1) → Kp p H H' → Q v H') ∨
   (∃ z : Str, x = .str z ∧ 0 < z.length ∧ z.length < 1000000 ∧ ∀ (s : Nat) (H' : Hp), s ∈ z.cps.toList → Rk H' p c (n + 1) → Kp p H H' → Q (.str ⟨#[s]⟩) H'))
/-- the rack is made -/
def spRack (K : PySem.W.Frag) : Sp := fun vs H Q _ => ∃ (a : Addr) (ns : List Int), vs = [.ref a] ∧ SqL K H a (ns.map V.int) ∧ ns.length ≤ 63 ∧
  ∀ (p c : Addr) (H' : Hp), H p = none → Rk H' p c 0 → Ex H H' → Q (.ref p) H'
end GL

end
section
set_option Elab.async false
set_option linter.all false
set_option maxRecDepth 100000
set_option maxHeartbeats 4000000
/-! Lists of ints and of truths as data: ==, repr. -/
namespace GL
open PySem PySem.Spec PyProof.Rows L2
section
variable {K : PySem.W.Frag} {H : Hp}
theorem dp_ints : ∀ ns : List Int, DpAll K H (ns.map V.int) (ns.map PyData.int)
  | [] => .nil
  | n :: r => .cons (.int n) (dp_ints r)
theorem dp_bools : ∀ bs : List Bool, DpAll K H (bs.map V.bl) (bs.map PyData.bool)
  | [] => .nil
  | b :: r => .cons (.bl b) (dp_bools r)
theorem lay_ints : ∀ ns : List Int, PyData.canLayAll0 (ns.map PyData.int) = true ∧ PyData.depthAll (ns.map PyData.int) = 0
  | [] => ⟨rfl, rfl⟩
  | n :: r => by
    obtain ⟨h1, h2⟩ := lay_ints r
    refine ⟨?_, ?_⟩
    · simp only [List.map_cons, PyData.canLayAll0, PyData.canLay0, h1]; rfl
    · simp only [List.map_cons, PyData.depthAll, PyData.depth, h2]; rfl
theorem shaped_ints (ns : List Int) : SeqAt.shaped (.list (ns.map PyData.int)) = true := by
  obtain ⟨h1, h2⟩ := lay_ints ns
  show (PyData.canLay0 (.list _) && decide (PyData.depth (.list _) ≤ 64)) = true
  simp only [PyData.canLay0, PyData.depth, h1, h2]; decide
theorem eqv_ints : ∀ ns ms : List Int, PyData.eqvAll (ns.map PyData.int) (ms.map PyData.int) = decide (ns = ms)
  | [], [] => rfl
  | [], m :: ms => by simp [PyData.eqvAll]
  | n :: ns, [] => by simp [PyData.eqvAll]
  | n :: ns, m :: ms => by
    have ih := eqv_ints ns ms
    simp only [List.map_cons, PyData.eqvAll, PyData.eqv, ih]
    by_cases h : n = m <;> by_cases h' : ns = ms <;> simp [h, h']
theorem eqv_nil : ∀ d : List PyData, PyData.eqvAll d [] = d.isEmpty
  | [] => rfl
  | _ :: _ => rfl
/-! ### repr of truths -/
def bText (bs : List Bool) : Str := PyData.shown (.list (bs.map PyData.bool))
theorem bools_show : ∀ bs : List Bool, PyData.showableAll (bs.map PyData.bool) = true ∧ PyData.hasDictAll (bs.map PyData.bool) = false ∧ PyData.depthAll (bs.map PyData.bool) = 0 ∧
    ((PyData.shownAll (bs.map PyData.bool)).map (·.length)).sum ≤ 5 * bs.length ∧ (PyData.shownAll (bs.map PyData.bool)).length = bs.length
  | [] => ⟨rfl, rfl, rfl, Nat.le_refl _, rfl⟩
  | b :: r => by
    obtain ⟨h1, h2, h3, h4, h5⟩ := bools_show r
    have hb : (PyData.shown (.bool b)).length ≤ 5 := by cases b <;> (simp only [PyData.shown]; decide)
    refine ⟨?_, ?_, ?_, ?_, ?_⟩
    · simp only [List.map_cons, PyData.showableAll, PyData.showable, h1]; rfl
    · simp only [List.map_cons, PyData.hasDictAll, PyData.hasDict, h2]; rfl
    · simp only [List.map_cons, PyData.depthAll, PyData.depth, h3]; rfl
    · simp only [List.map_cons, PyData.shownAll, List.sum_cons, List.length_cons]; omega
    · simp only [List.map_cons, PyData.shownAll, List.length_cons, h5]
theorem repr_bools {a : Addr} {bs : List Bool} {Q : VK} (h : H a = some (.lst (bs.map V.bl))) (hl : bs.length ≤ 1000) (q : Q (.str (bText bs)) H) : rRepr K [.ref a] H Q := by
  obtain ⟨h1, h2, h3, h4, h5⟩ := bools_show bs
  refine ⟨.ref a, .list (bs.map PyData.bool), rfl, .lst (SqL.of h) (dp_bools bs), by simpa only [PyData.showable] using h1, by simpa only [PyData.hasDict] using h2, ?_, ?_, q⟩
  · simp only [PyData.depth, h3]; decide
  · have := listText_len_le (PyData.shownAll (bs.map PyData.bool))
    have e : (1000 * 7 + 3 : Nat) ≤ sizeLine := by decide
    show (PyData.shown (.list (bs.map PyData.bool))).length ≤ sizeLine
    simp only [PyData.shown]
    omega
end
end GL
namespace GL
theorem mix_small {m t a b c : Int} (m0 : 0 ≤ m) (m1 : m < 2147483648) (t0 : 0 ≤ t) (t1 : t ≤ 100000) (a0 : 0 ≤ a) (a1 : a ≤ 100000) (b0 : 0 ≤ b) (b1 : b ≤ 100000) (c0 : 0 ≤ c) (c1 : c ≤ 100000) :
    (m * (2 * t + a) + b * t * t + c).natAbs < 2 ^ 64 := by
  have h1 : 0 ≤ m * (2 * t + a) := Int.mul_nonneg m0 (by omega)
  have h2 : m * (2 * t + a) ≤ 2147483648 * 300000 := Int.mul_le_mul (by omega) (by omega) (by omega) (by omega)
  have h3 : 0 ≤ b * t := Int.mul_nonneg b0 t0
  have h4 : b * t ≤ 100000 * 100000 := Int.mul_le_mul b1 t1 t0 (by omega)
  have h5 : 0 ≤ b * t * t := Int.mul_nonneg h3 t0
  have h6 : b * t * t ≤ 10000000000 * 100000 := Int.mul_le_mul (by omega) t1 t0 (by omega)
  omega
end GL
namespace GL
open PySem PySem.Spec PyProof.Rows L2
theorem take_step {α : Type} {l : List α} {i : Nat} {x : α} (h : l[i]? = some x) : l.take (i + 1) = l.take i ++ [x] := by
  rw [List.take_add_one, h]; rfl
theorem map_get {α β : Type} {f : α → β} {l : List α} {i : Nat} {y : β} (h : (l.map f)[i]? = some y) : ∃ x, l[i]? = some x ∧ f x = y := by
  rw [List.getElem?_map] at h
  cases e : l[i]? with
  | none => rw [e] at h; cases h
  | some x => rw [e] at h; exact ⟨x, rfl, Option.some.inj h⟩
theorem lt_of_get {α : Type} {l : List α} {i : Nat} {x : α} (h : l[i]? = some x) : i < l.length := (List.getElem?_eq_some_iff.mp h).1
theorem cut_ints (ns : List Int) (lo hi : Option Int) : ∃ ms : List Int, cutV (ns.map V.int) lo hi = ms.map V.int ∧ ms.length ≤ ns.length ∧ (∀ x, x ∈ ms → x ∈ ns) := by
  refine ⟨(ns.drop (HT.sIx ns.length 0 lo)).take (HT.sIx ns.length ns.length hi - HT.sIx ns.length 0 lo), ?_, ?_, fun x hx => List.mem_of_mem_drop (List.mem_of_mem_take hx)⟩
  · unfold cutV
    rw [List.length_map, List.map_take, List.map_drop]
  · rw [List.length_take, List.length_drop]; omega
theorem sz_ok {n : Nat} (h : n ≤ 1000000) : n < sizeLine := Nat.lt_of_le_of_lt h (by decide)
theorem sz_le {n : Nat} (h : n ≤ 1000000) : n ≤ sizeLine := Nat.le_of_lt (sz_ok h)
end GL
namespace GL
open PySem PySem.Spec PyProof.Rows L2
theorem Kd.l0 {p a : Addr} {H : Hp} (n : a ≠ p) (e : H a = some (.lst [])) : Kd p H (.ref a) := .lst n e (Nat.zero_le _) (fun x h => by cases h)
theorem Kd.t0 {p a : Addr} {H : Hp} (n : a ≠ p) (e : H a = some (.tup [])) : Kd p H (.ref a) := .tup n e (Nat.zero_le _) (fun x h => by cases h)
theorem Kd.l1 {p a : Addr} {H : Hp} {x : V} (n : a ≠ p) (e : H a = some (.lst [x])) (h : Kd p H x) : Kd p H (.ref a) := .lst n e (show 1 ≤ 100000 by decide) (fun y hy => by rw [List.mem_singleton.mp hy]; exact h)
theorem Kd.t1 {p a : Addr} {H : Hp} {x : V} (n : a ≠ p) (e : H a = some (.tup [x])) (h : Kd p H x) : Kd p H (.ref a) := .tup n e (show 1 ≤ 100000 by decide) (fun y hy => by rw [List.mem_singleton.mp hy]; exact h)
theorem Kd.t2 {p a : Addr} {H : Hp} {x y : V} (n : a ≠ p) (e : H a = some (.tup [x, y])) (h : Kd p H x) (h' : Kd p H y) : Kd p H (.ref a) := .tup n e (show 2 ≤ 100000 by decide) (fun z hz => by
  rcases List.mem_cons.mp hz with rfl | hz
  · exact h
  · rw [List.mem_singleton.mp hz]; exact h')
/-- texts among data are short -/
abbrev Sh (v : V) : Prop := ∀ z : Str, v = .str z → z.length ≤ 100000
end GL
namespace GL
open PySem PySem.Spec PyProof.Rows L2
/-- repr(x): a list of truths, or any data -/
def rReprX (K : PySem.W.Frag) : List V → Hp → VK → Prop := fun xs H Q => (∃ (a : Addr) (bs : List Bool), xs = [.ref a] ∧ H a = some (.lst (bs.map V.bl)) ∧ bs.length ≤ 1000 ∧ Q (.str (bText bs)) H) ∨ rRepr K xs H Q
theorem call_reprX {X : Cx} (gd : X.A.guards = some []) {j : Nat} (rm : Room j X.A) : CallR X (.builtin "repr") (rReprX X.K) := by
  intro pins s σ H xs us Q I r h
  refine call_repr gd rm pins s σ H xs us Q I r ?_
  rcases h with ⟨a, bs, rfl, h1, h2, q⟩ | h
  · exact repr_bools h1 h2 q
  · exact h
end GL
namespace GL
open PySem PySem.Spec PyProof.Rows L2
/-- None, a truth, an int -/
def Fl : V → Bool
  | .non => true
  | .bl _ => true
  | .int _ => true
  | _ => false
theorem dp_flat {K : PySem.W.Frag} {H : Hp} : ∀ xs : List V, xs.all Fl = true → ∃ ds, DpAll K H xs ds ∧ PyData.canLayAll0 ds = true ∧ PyData.depthAll ds = 0 ∧ ds.isEmpty = xs.isEmpty
  | [], _ => ⟨[], .nil, rfl, rfl, rfl⟩
  | x :: r, h => by
    rw [List.all_cons, Bool.and_eq_true] at h
    obtain ⟨ds, h1, h2, h3, h4⟩ := dp_flat (K := K) (H := H) r h.2
    cases x with
    | non => exact ⟨.none :: ds, .cons .non h1, by simp only [PyData.canLayAll0, PyData.canLay0, h2]; rfl, by simp only [PyData.depthAll, PyData.depth, h3]; rfl, rfl⟩
    | bl b => exact ⟨.bool b :: ds, .cons (.bl b) h1, by simp only [PyData.canLayAll0, PyData.canLay0, h2]; rfl, by simp only [PyData.depthAll, PyData.depth, h3]; rfl, rfl⟩
    | int i => exact ⟨.int i :: ds, .cons (.int i) h1, by simp only [PyData.canLayAll0, PyData.canLay0, h2]; rfl, by simp only [PyData.depthAll, PyData.depth, h3]; rfl, rfl⟩
    | str z => cases h.1
    | byt b => cases h.1
    | flt b => cases h.1
    | ref a => cases h.1
    | ty n => cases h.1
/-- [..] == [], the items flat -/
theorem eq_nil {K : PySem.W.Frag} {H : Hp} {a b : Addr} {xs : List V} {Q : VK} (ha : H a = some (.lst xs)) (hb : H b = some (.lst [])) (hx : xs.all Fl = true) (q : Q (.bl xs.isEmpty) H) : rEqD K (.ref a) (.ref b) H Q := by
  obtain ⟨ds, h1, h2, h3, h4⟩ := dp_flat (K := K) (H := H) xs hx
  refine ⟨.list ds, .list [], .lst (SqL.of ha) h1, .lst (SqL.of hb) .nil, ?_, rfl, ?_⟩
  · show (PyData.canLay0 (.list _) && decide (PyData.depth (.list _) ≤ 64)) = true
    simp only [PyData.canLay0, PyData.depth, h2, h3]; decide
  · show Q (.bl (PyData.eqv (.list ds) (.list []))) H
    have : PyData.eqv (.list ds) (.list []) = xs.isEmpty := by simp only [PyData.eqv]; rw [eqv_nil, h4]
    rw [this]; exact q
end GL
namespace GL
open PySem PySem.Spec PyProof.Rows L2
/-- ==: a list and the empty list, whatever the items; or data -/
def rEqX (K : PySem.W.Frag) : R2 := fun x y H Q => (∃ (a b : Addr) (xs : List V), x = .ref a ∧ y = .ref b ∧ H a = some (.lst xs) ∧ H b = some (.lst []) ∧ Q (.bl xs.isEmpty) H) ∨ rEqD K x y H Q
theorem op_eqX {X : Cx} (hu : X.A.units + 64 < cLine) : OpR X (compareOp .Eq) (rEqX X.K) := by
  intro pins s σ H x y v u Q I rx ry h
  rcases h with ⟨a, b, xs, rfl, rfl, ha, hb, q⟩ | h
  · cases xs with
    | nil => exact op_eqD hu pins s σ H _ _ v u Q I rx ry ⟨.list [], .list [], .lst (SqL.of ha) .nil, .lst (SqL.of hb) .nil, rfl, rfl, q⟩
    | cons z r =>
      cases rx
      cases ry
      obtain ⟨is, r1, ⟨o1, m1, ho1, hc1, _, hd1⟩, _⟩ := I.list (SqL.of ha)
      obtain ⟨js, r2, ⟨o2, m2, ho2, hc2, _, hd2⟩, _⟩ := I.list (SqL.of hb)
      refine SeqAt.eq_list_lengthsAt ⟨o1, ho1, hc1, m1, hd1⟩ ⟨o2, ho2, hc2, m2, hd2⟩ ?_ (by omega) ⟨.bl _, H, I, rfl, q⟩
      have l1 := r1.length
      have l2 := r2.length
      simp only [List.length_cons, List.length_nil] at l1 l2
      simp only [bne_iff_ne, ne_eq, List.size_toArray]
      omega
  · exact op_eqD hu pins s σ H x y v u Q I rx ry h
end GL

end
section
set_option Elab.async false
set_option linter.all false
set_option maxRecDepth 100000
set_option maxHeartbeats 4000000
/-! Loops and comprehensions over what is known: a source gives the values xs while all but p stays. -/
namespace GL
open PySem PySem.Spec PyProof.Rows L2
def Src (p : Addr) (wi : TI) (σ : L2.St) (H : Hp) (xs : List V) : Prop :=
  ∀ R : It → Hp → Prop, (∀ (J : It) (H1 : Hp), Ex H H1 → Walk J xs.length (fun H2 => Kp p H1 H2) (YAt xs) → R J H1) → wi σ H R
section
variable {K : PySem.W.Frag} {p : Addr} {σ : L2.St} {H : Hp} {xs : List V} {te tl tl' : TE}
theorem Src.list (h : ∀ Q : VK, (∀ a H1, Ex H H1 → a ≠ p → H1 a = some (.lst xs) → Q (.ref a) H1) → te σ H Q) : Src p (iList K te) σ H xs := fun R q =>
  h _ fun a H1 e n ha => ⟨a, rfl, ⟨xs, SqL.of ha⟩, q _ H1 e (walk_list.mono (fun H2 k => SqL.of (k _ _ n ha)) fun _ _ _ _ _ _ y => y)⟩
theorem Src.tup (h : ∀ Q : VK, (∀ a H1, Ex H H1 → a ≠ p → H1 a = some (.tup xs) → Q (.ref a) H1) → te σ H Q) : Src p (iTup K te) σ H xs := fun R q =>
  h _ fun a H1 e n ha => ⟨a, rfl, ⟨xs, SqT.of ha⟩, q _ H1 e (walk_tup.mono (fun H2 k => SqT.of (k _ _ n ha)) fun _ _ _ _ _ _ y => y)⟩
theorem Src.nameL {i : Nat} {a : Addr} (hi : σ[i]? = some (some (.ref a))) (n : a ≠ p) (ha : H a = some (.lst xs)) : Src p (iList K (tVar i)) σ H xs :=
  .list fun Q q => ⟨_, hi, q a H (Ex.rfl' H) n ha⟩
theorem Src.nameT {i : Nat} {a : Addr} (hi : σ[i]? = some (some (.ref a))) (n : a ≠ p) (ha : H a = some (.tup xs)) : Src p (iTup K (tVar i)) σ H xs :=
  .tup fun Q q => ⟨_, hi, q a H (Ex.rfl' H) n ha⟩
/-- a name that holds a list or a tuple -/
theorem Src.nameS {i : Nat} {v : V} (hi : σ[i]? = some (some v)) (h : Kd p H v) (e : its H v = some xs) : Src p (iSeq K (tVar i) (tVar i)) σ H xs := fun R q => by
  obtain ⟨a, rfl, n, ha | ha⟩ := its_at h e
  · exact .inl (Src.nameL hi n ha R q)
  · exact .inr (Src.nameT hi n ha R q)
theorem Src.str {z : Str} (h : ∀ Q : VK, (∀ H1, Ex H H1 → Q (.str z) H1) → te σ H Q) : Src p (iStr te) σ H (z.cps.toList.map fun c => V.str ⟨#[c]⟩) := fun R q =>
  h _ fun H1 e => ⟨z, rfl, q _ H1 e (by
    rw [List.length_map, Array.length_toList]
    refine walk_str.mono (fun _ _ => trivial) fun i H x H' hi _ y => ⟨y.1, ?_⟩
    obtain ⟨c, hc, rfl⟩ := y.2
    rw [List.getElem?_map, Array.getElem?_toList, hc]; rfl)⟩
/-- 0, 1, .. below n -/
def ups (n : Int) : List V := (List.range n.toNat).map fun (i : Nat) => V.int (i : Int)
theorem ups_len (n : Int) : (ups n).length = n.toNat := by unfold ups; rw [List.length_map, List.length_range]
theorem ups_get {n : Int} {i : Nat} (h : i < n.toNat) : (ups n)[i]? = some (.int (i : Int)) := by
  unfold ups; rw [List.getElem?_map, List.getElem?_range h]; rfl
theorem Src.range {ta : TA} {n : Int} (hn : -1000000 ≤ n ∧ n ≤ 1000000) (h : ∀ Q : List V → Hp → Prop, (∀ H1, Ex H H1 → Q [.int n] H1) → ta σ H Q) : Src p (iRng1 ta) σ H (ups n) := fun R q =>
  h _ fun H1 e => ⟨n, rfl, by omega, by omega, q _ H1 e (by
    rw [ups_len]
    refine walk_range.mono (fun _ _ => trivial) fun i H x H' hi _ y => ⟨y.1, ?_⟩
    rw [ups_get hi, y.2]
    show some (V.int (i : Int)) = some (V.int (0 + (i : Int)))
    rw [Int.zero_add])⟩

/-- a comprehension whose parts change nothing: what is left of xs, each by f -/
theorem lc_pure {wi : TI} {tt : TT} {j : Nat} {Q : VK} (src : Src p wi σ H xs) (hz : xs.length ≤ 500000) (pd : V → Bool) (f : V → V)
    (ht : ∀ x, x ∈ xs → ∀ H1, Ex H H1 → ∀ Q1 : Bool → Hp → Prop, (∀ H2, Ex H1 H2 → Q1 (pd x) H2) → tt ((σ.set j none).set j (some x)) H1 Q1)
    (he : ∀ x, x ∈ xs → pd x = true → ∀ H1, Ex H H1 → ∀ Q1 : VK, (∀ H2, Ex H1 H2 → Q1 (f x) H2) → te ((σ.set j none).set j (some x)) H1 Q1)
    (q : ∀ D H2, H D = none → H2 D = some (.lst ((xs.filter pd).map f)) → Ex H H2 → Q (.ref D) H2) : tLc wi (gName j) tt te [j] σ H Q := by
  refine src _ fun J H1 e1 w D hD => ?_
  refine lc_it w (fun i H2 => H2 D = some (.lst (((xs.take i).filter pd).map f)) ∧ Ex H1 H2) ⟨upd_same, Ex.nw hD⟩ (fun i H2 _ g => Ex.kp g.2) ?_ fun H2 g => ?_
  · rintro i x H2 H3 hi ⟨g1, g2⟩ ⟨rfl, hx⟩
    have hm : x ∈ xs := List.mem_of_getElem? hx
    refine ⟨?_, ?_⟩
    · show ((σ.set j none).set j (some x)).set j none = σ.set j none
      rw [List.set_set, List.set_set]
    · refine ht x hm H3 (e1.tr g2) _ fun H4 e4 => ?_
      have g4 := e4 _ _ g1
      cases hp : pd x with
      | true =>
        refine iteT ?_
        refine he x hm hp H4 ((e1.tr g2).tr e4) _ fun H5 e5 => ⟨_, e5 _ _ g4, ?_, ?_, ((g2.tr e4).tr e5).up hD⟩
        · rw [List.length_map]
          have := List.length_filter_le pd (xs.take i)
          rw [List.length_take] at this
          exact sz_ok (by omega)
        · rw [take_step hx, List.filter_append, List.map_append, List.filter_cons_of_pos hp]
          exact upd_same
      | false =>
        refine iteF ⟨?_, g2.tr e4⟩
        rw [take_step hx, List.filter_append, List.filter_cons_of_neg (by rw [hp]; decide)]
        simpa using g4
  · have g1 := g.1
    rw [List.take_length] at g1
    exact q D H2 (e1.no hD) g1 (e1.tr g.2)
theorem yes_pd {x : V} {τ : L2.St} {H1 : Hp} {Q1 : Bool → Hp → Prop} (h : ∀ H2, Ex H1 H2 → Q1 ((fun _ : V => true) x) H2) : tYes τ H1 Q1 := h H1 (Ex.rfl' H1)
/-- without a test -/
theorem lc_map {wi : TI} {j : Nat} {Q : VK} (src : Src p wi σ H xs) (hz : xs.length ≤ 500000) (f : V → V)
    (he : ∀ x, x ∈ xs → ∀ H1, Ex H H1 → ∀ Q1 : VK, (∀ H2, Ex H1 H2 → Q1 (f x) H2) → te ((σ.set j none).set j (some x)) H1 Q1)
    (q : ∀ D H2, H D = none → H2 D = some (.lst (xs.map f)) → Ex H H2 → Q (.ref D) H2) : tLc wi (gName j) tYes te [j] σ H Q :=
  lc_pure src hz (fun _ => true) f (fun x _ H1 _ Q1 h => h H1 (Ex.rfl' H1)) (fun x hx _ => he x hx) fun D H2 n g e => q D H2 n (by rw [List.filter_eq_self.mpr (fun _ _ => rfl)] at g; exact g) e
/-- a loop over a source: Pv by the heap ahead, the turn, the slots, the heap -/
theorem for_src {wi : TI} {j : Nat} {tb : TS} {D : Ends} (src : Src p wi σ H xs) (Pv : Hp → Nat → L2.St → Hp → Prop) (h0 : ∀ H1, Ex H H1 → Pv H1 0 σ H1)
    (hk : ∀ H1 i σ' H2, Pv H1 i σ' H2 → Kp p H1 H2)
    (hs : ∀ H1 i x σ' H2, Ex H H1 → xs[i]? = some x → Pv H1 i σ' H2 → tb { D with nx := Pv H1 (i + 1), ct := Pv H1 (i + 1), bk := D.nx } (σ'.set j (some x)) H2)
    (hd : ∀ H1 σ' H2, Ex H H1 → Pv H1 xs.length σ' H2 → D.nx σ' H2) : tFor wi (gName j) tb D σ H :=
  src _ fun J H1 e1 w => for_it w (Pv H1) (h0 H1 e1) (fun i σ' H2 _ g => hk H1 i σ' H2 g) (fun i x σ' H2 H3 hi g y => by
    obtain ⟨rfl, hx⟩ := y
    exact hs H1 i x σ' H3 e1 hx g) fun σ' H2 g => hd H1 σ' H2 e1 g
end
end GL
namespace GL
open PySem PySem.Spec PyProof.Rows L2
/-- a value, the heap as it is -/
abbrev Va (te : TE) (σ : L2.St) (H : Hp) (v : V) : Prop := ∀ Q : VK, Q v H → te σ H Q
theorem va_var {i : Nat} {σ : L2.St} {H : Hp} {v : V} (h : σ[i]? = some (some v)) : Va (tVar i) σ H v := fun _ q => ⟨v, h, q⟩
theorem va_c {σ : L2.St} {H : Hp} {v : V} : Va (tC v) σ H v := fun _ q => q
theorem va_chain {p q : Int → Int → Bool} {ta tb tc : TE} {σ : L2.St} {H : Hp} {a b c : Int} (ha : Va ta σ H (.int a)) (hb : Va tb σ H (.int b)) (hc : Va tc σ H (.int c)) :
    Va (tChain (rI0 fun i j => .bl (p i j)) (rI0 fun i j => .bl (q i j)) ta tb tc) σ H (.bl (p a b && q b c)) := fun Q k =>
  ha _ (hb _ ⟨a, b, rfl, rfl, p a b, rfl, by
    cases e : p a b with
    | true => rw [e, Bool.true_and] at k; exact iteT (hc _ ⟨b, c, rfl, rfl, k⟩)
    | false => rw [e, Bool.false_and] at k; exact iteF k⟩)
end GL

end
section
set_option Elab.async false
set_option linter.all false
set_option maxRecDepth 100000
set_option maxHeartbeats 4000000
/-! Own exceptions made by keywords. -/
namespace GL
open PySem PySem.W PySem.HandSPX
section
variable {prog : Program} {w : World} {M : Model} {A : Around} {E : Value → Shared → Prop} {R : Result → Shared → Prop} {h : Heap} {g : Array GenState} {d : Drawn} {t : Nat} {os : OsState}
variable {nm q : Str} {C N : Addr} {bs bm bmB : List Value} {hdct : Bool} {sn : List Str} {sub : List Value} {ab : Bool} {col : Option Bool} {dd : Option Addr} {k0 k1 k2 k3 k5 : Option Value} {B newId initId : String} {kw : List (Str × Value)} {rest : List Value}
theorem chk_newK (F : ExcBaseFacts B newId initId bmB) (hT : ∀ Y : String, bm.contains (.type Y) = bmB.contains (.type Y)) {Q : Unit → Shared → Prop}
    (hC : h.get? C = some (excClassObj nm q C N bs bm hdct sn sub ab col dd k0 k1 k2 k3 k5 newId)) (z : Q () ⟨h, g, d, t, os⟩) : wpAny M A (checkBuiltinCall newId ⟨.ref C :: rest, kw⟩) Q E ⟨h, g, d, t, os⟩ := by
  have hB : (Value.ref C :: bm).contains (.type B) = true := by
    rw [List.contains_cons, hT, F.hasB]; exact Bool.or_true _
  have st := F.noStar
  simp only [checkBuiltinCall, F.newSplit, F.newKind, F.newRow]
  repeat (first | (refine wpAny_isSubtype_exc hC ?_; rw [hB]) | refine wpAny_madeBy_exc hC ?_ | refine wpAny_staticBase_exc hC ?_ | refine wpAny_loadPart_at hC ?_ | simp only [bne_self_eq_false, Bool.false_eq_true, if_false] | wp_step)
  exact z
theorem run_newK (F : ExcBaseFacts B newId initId bmB) (hT : ∀ Y : String, bm.contains (.type Y) = bmB.contains (.type Y))
    (hC : h.get? C = some (excClassObj nm q C N bs bm hdct sn sub ab col dd k0 k1 k2 k3 k5 newId)) (hl : rest.length ≤ sizeLine)
    (z : R (.ok (.ret (.ref (h.objs.size + 1)))) ⟨(h.push (kdv_tup rest)).push (excO C h.objs.size), g, d, t, os⟩) :
    codeAny (model prog w) A (.builtin newId ⟨.ref C :: rest, kw⟩) R ⟨h, g, d, t, os⟩ := by
  have en := F.ends
  have cB : (Value.ref C :: bm).contains (.type B) = true := by
    rw [List.contains_cons, hT, F.hasB]; exact Bool.or_true _
  have cA : (Value.ref C :: bm).contains (.type "AttributeError") = false := by
    rw [List.contains_cons, hT, F.noAttr]; rfl
  have cN : (Value.ref C :: bm).contains (.type "NameError") = false := by
    rw [List.contains_cons, hT, F.noName]; rfl
  refine codeAny_builtinAt F.entry ?_
  unfold Builtin.«BaseException.__new__»
  refine wpAt_bind ?_
  show wpAt _ _ _ (stack >>= _) _ _ _
  refine wpAt_bind (wpAt_stack fun p below => wpAt_of_wpAny ?_)
  wp_walk
  refine wpAt_of_wpAny ?_
  rw [F.owner]
  repeat (first | with_reducible refine wpAny_loadPart_at hC ?_ | with_reducible refine wpAny_madeHere_exc F.canon hC ?_ | (with_reducible refine wpAny_isSubtype_exc hC ?_; first | rw [cA] | rw [cB] | rw [cN]) | wp_step)
  show R _ _
  rw [Heap.size_push]
  exact z
theorem tcall_ownK (F : ExcBaseFacts B newId initId bmB) (hT : ∀ Y : String, bm.contains (.type Y) = bmB.contains (.type Y)) {fI : Addr} {Q : Fin → Shared → Prop}
    (hC : h.get? C = some (excClassObj nm q C N bs bm hdct sn sub ab col dd k0 k1 k2 k3 k5 newId))
    (hi : W.Looks (model prog w) h (typeLookup (.ref C) "__init__") (some (.ref fI))) (hb : ∀ self, W.Looks (model prog w) h (bindSpecial (.ref fI) self) (.ref fI, [self])) (hl : rest.length ≤ sizeLine)
    (z : codeAny (model prog w) A (.call (.ref fI) ⟨.ref (h.objs.size + 1) :: rest, kw⟩)
      (fun r s' => match r with | .ok (.ret v) => v = .none ∧ Q (.done (.ret (.ref (h.objs.size + 1)))) s' | .ok _ => False | .error e => E e s')
      ⟨(h.push (kdv_tup rest)).push (excO C h.objs.size), g, d, t, os⟩) :
    wpAny (model prog w) A (Builtin.«type.__call__» ⟨.ref C :: rest, kw⟩) Q E ⟨h, g, d, t, os⟩ := by
  repeat (first | with_reducible refine wpAny_madeBy_exc hC ?_ | with_reducible refine wpAny_loadPart_at hC ?_ | wp_step)
  refine codeAny_call_builtin_code (Code.quiet_builtin _ F.quiet) (chk_newK F hT hC ?_)
  refine run_newK F hT hC hl ?_
  show wpAny _ _ _ _ _ _
  have k : ∀ b o, h.get? b = some o → ((h.push (kdv_tup rest)).push (excO C h.objs.size)).get? b = some o := fun b o e => Heap.get?_push_of_some _ (Heap.get?_push_of_some _ e)
  have hC1 := k _ _ hC
  have hg : ((h.push (kdv_tup rest)).push (excO C h.objs.size)).get? (h.objs.size + 1) = some (excO C h.objs.size) := by heap_get
  have cC : (Value.ref C :: bm).contains (.ref C) = true := by simp
  have i1 := hi.keeps k
  have b1 := (hb (.ref (h.objs.size + 1))).keeps k
  unfold isInstance
  repeat (first | (with_reducible refine wpAny_isSubtype_exc hC1 ?_; rw [cC]) | with_reducible refine wpAny_loadPart_at hg ?_ | wp_step)
  show wpAny _ _ (typeLookup (.ref C) _) _ _ _
  refine i1.at ?_
  refine wpAny_holding (wpAny_bind (b1.at ?_))
  refine wpAny_bind (wpAny_call (codeAny_mono z fun r s' y => ?_))
  rcases r with e | (v | _ | _ | _) <;> first | exact y.elim | exact y | skip
  obtain ⟨rfl, y⟩ := y
  first
    | exact wpAny_pure (wpAny_pure y)
    | (wp_walk; exact y)
theorem chk_tcK {Q : Unit → Shared → Prop} (hC : h.get? C = some (excClassObj nm q C N bs bm hdct sn sub ab col dd k0 k1 k2 k3 k5 newId))
    (z : Q () ⟨h, g, d, t, os⟩) : wpAny M A (checkBuiltinCall "type.__call__" ⟨.ref C :: rest, kw⟩) Q E ⟨h, g, d, t, os⟩ := by
  have f3 := tc_sub
  have ty : (⟨h, g, d, t, os⟩ : Shared).TypeIs (.ref C) "type" := ⟨_, hC, rfl⟩
  simp only [checkBuiltinCall, tc_split, tc_kind]
  repeat (any_goals (first | assumption | with_reducible refine wpAny_map ?_ | with_reducible refine wpAny_loadPart_at hC ?_ | with_reducible refine wpAny_onRaise ?_ | wp_step))
theorem call_ownK (F : ExcBaseFacts B newId initId bmB) (hT : ∀ Y : String, bm.contains (.type Y) = bmB.contains (.type Y)) {fI : Addr}
    (hC : h.get? C = some (excClassObj nm q C N bs bm hdct sn sub ab col dd k0 k1 k2 k3 k5 newId))
    (hi : W.Looks (model prog w) h (typeLookup (.ref C) "__init__") (some (.ref fI))) (hb : ∀ self, W.Looks (model prog w) h (bindSpecial (.ref fI) self) (.ref fI, [self])) (hl : rest.length ≤ sizeLine)
    (z : codeAny (model prog w) (A.under (.builtin "type.__call__" ⟨.ref C :: rest, kw⟩)) (.call (.ref fI) ⟨.ref (h.objs.size + 1) :: rest, kw⟩) (W.InitBack (h.objs.size + 1) R)
      ⟨(h.push (kdv_tup rest)).push (excO C h.objs.size), g, d, t, os⟩) :
    codeAny (model prog w) A (.call (.ref C) ⟨rest, kw⟩) R ⟨h, g, d, t, os⟩ := by
  have f1 := tc_lookup
  have f2 := tc_bind (.ref C)
  have ty : (⟨h, g, d, t, os⟩ : Shared).TypeIs (.ref C) "type" := ⟨_, hC, rfl⟩
  refine codeAny_of_tree ?_
  show wpAny _ _ (callAny (.ref C) _) _ _ _
  repeat (any_goals (first | with_reducible refine wpAny_loadPart_at hC ?_ | assumption | wp_step))
  refine ⟨rfl, ?_⟩
  refine codeAny_call_builtin_at (Code.quiet_builtin _ (by decide +kernel)) entry_typeCall (chk_tcK hC (tcall_ownK F hT hC hi hb hl ?_))
  refine codeAny_mono z fun r s' y => ?_
  rcases r with e | (v | _ | _ | _) <;> exact y
end
end GL

end
section
set_option Elab.async false
set_option linter.all false
set_option maxRecDepth 100000
set_option maxHeartbeats 4000000
/-! Own exceptions as values: made, their fields read, isinstance. -/
namespace GL
open PySem PySem.Spec PyProof.Rows L2
/-- an own exception at a, of the class at C; its dict d -/
def Ed (H : Hp) (a C : Addr) (d : Option Addr) (fs : List (Str × V)) : Prop := ∃ φ, H a = some (.ext φ) ∧ (∀ h, φ h → ∃ oe vs, h.get? a = some oe ∧ Zc (.ref C) d oe ∧ oe.data = .fields vs) ∧
  match d with | some dd => H dd = some (exd dd fs) | none => fs = []
def Ef (H : Hp) (a C : Addr) (fs : List (Str × V)) : Prop := ∃ d, Ed H a C d fs
def Ei (H : Hp) (a C : Addr) : Prop := ∃ fs, Ef H a C fs
theorem Ed.ex {H H' : Hp} {a C : Addr} {d : Option Addr} {fs : List (Str × V)} (e : Ex H H') (h : Ed H a C d fs) : Ed H' a C d fs := by
  obtain ⟨φ, h1, h2, h3⟩ := h
  refine ⟨φ, e _ _ h1, h2, ?_⟩
  cases d with
  | none => exact h3
  | some dd => exact e _ _ h3
theorem Ef.ex {H H' : Hp} {a C : Addr} {fs : List (Str × V)} (e : Ex H H') (h : Ef H a C fs) : Ef H' a C fs := by obtain ⟨d, h⟩ := h; exact ⟨d, h.ex e⟩
theorem Ei.ex {H H' : Hp} {a C : Addr} (e : Ex H H') (h : Ei H a C) : Ei H' a C := by obtain ⟨fs, h⟩ := h; exact ⟨fs, h.ex e⟩
theorem Ef.ei {H : Hp} {a C : Addr} {fs : List (Str × V)} (h : Ef H a C fs) : Ei H a C := ⟨fs, h⟩
theorem Ed.of {H : Hp} {a C dd : Addr} {fs : List (Str × V)} (h1 : H a = some (exo a C (some dd))) (h2 : H dd = some (exd dd fs)) : Ed H a C (some dd) fs :=
  ⟨_, h1, fun h ⟨t, z⟩ => ⟨_, _, z, ⟨rfl, rfl⟩, rfl⟩, h2⟩
theorem Ed.of0 {H : Hp} {a C : Addr} (h1 : H a = some (exo a C none)) : Ed H a C none [] := ⟨_, h1, fun h ⟨t, z⟩ => ⟨_, _, z, ⟨rfl, rfl⟩, rfl⟩, rfl⟩
/-- what the written part says of such a class -/
structure ClsX (K : PySem.W.Frag) (C : Addr) : Prop where
  ox : OexC K C
  ga : PySem.W.findIn K (.ref C) "__getattribute__" = some (some (.builtin "BaseException.__getattribute__"))
  gg : PySem.W.findIn K (.ref C) "__getattr__" = some none
  hd : PySem.W.hasDictIn K C = true
  hc : PySem.W.findIn K (.ref C) "__class__" = some (some (.builtin "object.__class__"))
  hm : PySem.W.mroIn K C (.type "object") = some true
  sn : PySem.W.specialIn K (.builtin "object.__class__") "__get__" = some (some (.builtin "getset_descriptor.__get__"))
  st : PySem.W.takesIn K (.builtin "object.__class__") = some true
section
variable {X : Cx} {pins : List (Addr × Obj)} {σ : L2.St} {H : Hp} {s : Shared} {a C : Addr} {d : Option Addr} {fs : List (Str × V)}
theorem inst_of (I : Inv X pins σ H s) (e : Ed H a C d fs) : ∃ oe od, PySem.W.InstAt s.heap a oe C od ∧ (∀ dd, d = some dd → ∃ mA, s.heap.Ns1 dd mA ∧ (∀ f, RelO (fs.lookup f) (mA f)) ∧ ∃ o, od = some o ∧ s.heap.get? dd = some o) := by
  obtain ⟨φ, h1, h2, h3⟩ := e
  have x : φ s.heap := (I.hok a _ h1).1
  obtain ⟨oe, vs, hg, hz, hv⟩ := h2 _ x
  cases d with
  | none =>
    refine ⟨oe, none, ⟨hg, hz.1, by unfold PySem.W.notCls; rw [hv] <;> rfl, by rw [hz.2]; trivial⟩, fun dd z => by cases z⟩
  | some dd =>
    obtain ⟨mA, hns, rel⟩ := exd_at I.hok h3
    obtain ⟨od, ho, hl⟩ := lookIn_ns hns
    exact ⟨oe, some od, ⟨hg, hz.1, by unfold PySem.W.notCls; rw [hv] <;> rfl, by rw [hz.2]; exact ho⟩, fun d2 z => by cases z; exact ⟨mA, hns, rel, od, rfl, ho⟩⟩
/-- e.f of such an exception -/
def tAtX (K : PySem.W.Frag) (f : Str) (te : TE) : TE := fun σ H Q => te σ H fun x H1 => ∃ (a C : Addr) (fs : List (Str × V)) (v : V), x = .ref a ∧ Ef H1 a C fs ∧ ClsX K C ∧ PySem.W.findIn K (.ref C) f = some none ∧ fs.lookup f = some v ∧ Q v H1
theorem pe_atX {e : Expr} {te : TE} {pos : Pos} {f : Str} (he : PE X e te) (hb : attributeBase e f X.env (eval e X.env) = eval e X.env := by rfl) : PE X (.Attribute e f pos) (tAtX X.K f te) := by
  refine ⟨fun pins s σ H Q I h => attr_of hb (thn (he.run pins s σ H _ I h) fun u s1 hh => ?_)⟩
  obtain ⟨x, H1, I1, rx, a, C, fs, v, rfl, ⟨d, ed⟩, cx, hno, hl, q⟩ := hh
  obtain rfl : u = Value.ref a := rx
  obtain ⟨oe, od, J, hdd⟩ := inst_of I1 ed
  cases d with
  | none =>
    obtain ⟨φ, _, _, z⟩ := ed
    have z' : fs = [] := z
    rw [z'] at hl; cases hl
  | some dd =>
    obtain ⟨mA, hns, hr, o, rfl, ho⟩ := hdd dd rfl
    obtain ⟨od', ho', hl'⟩ := lookIn_ns hns
    rw [ho] at ho'
    cases ho'
    obtain ⟨u, hu, ru⟩ := RelO.some_of (v := v) (o := mA f) (by rw [← hl]; exact hr f)
    exact HandSPX.exc_get I1.kIn J cx.ga cx.gg cx.ox.exC (PySem.W.findObj_own cx.hd hno rfl (by rw [hl', hu])) (handed_of ru) ⟨v, H1, I1.tok _, ru, q⟩
theorem kit_exc (cx : ClsX X.K C) {od : Option Obj} {oe : Obj} : PySem.W.KitX X.K (.ref a) (.ref C) (fun h => PySem.W.InstAt h a oe C od) :=
  PySem.W.kitx_exc (by obtain ⟨cd, hc, _⟩ := PySem.W.any_some cx.hd; rw [hc]; rfl) cx.ga cx.gg cx.ox.exC cx.hc cx.sn cx.st cx.hm
/-- isinstance(e, c) -/
def rIsX (K : PySem.W.Frag) : List V → Hp → VK → Prop := fun xs H Q => ∃ (a C : Addr) (c : V) (cv : Value) (b : Bool), xs = [.ref a, c] ∧ Ei H a C ∧ ClsX K C ∧ (∀ u, RelV c u → u = cv) ∧ PySem.W.kitOne K (.ref C) cv = some b ∧ Q (.bl b) H
theorem call_isX : CallR X (.builtin "isinstance") (rIsX X.K) := by
  intro pins s σ H xs us Q I r h
  obtain ⟨a, C, c, cv, b, rfl, ⟨fs, d, ed⟩, cx, hcv, e, q⟩ := h
  cases r with
  | cons rx rr =>
    cases rr with
    | cons rt rr =>
      cases rr
      cases rx
      have ec := hcv _ rt
      subst ec
      obtain ⟨oe, od, J, _⟩ := inst_of I ed
      exact PySem.W.kia_one (kit_exc cx) I.kIn J e (fun z => nomatch z) fun tk => ⟨.bl b, H, I.kept (t' := tk) fun _ _ z => z, rfl, q⟩
/-- isinstance(e, (c, ..)) -/
def rIsXT (K : PySem.W.Frag) : List V → Hp → VK → Prop := fun xs H Q => ∃ (a C tp : Addr) (cs : List V) (us : List Value) (b : Bool), xs = [.ref a, .ref tp] ∧ H tp = some (.tup cs) ∧ Ei H a C ∧ ClsX K C ∧ Paired ClsV cs us ∧ PySem.W.kitAny K (.ref C) us = some b ∧ Q (.bl b) H
end
end GL

end
section
set_option Elab.async false
set_option linter.all false
set_option maxRecDepth 100000
set_option maxHeartbeats 4000000
/-! C(..) of an own exception class: by place, by keywords, without a word. -/
namespace GL
open PySem PySem.Spec PyProof.Rows L2
section
variable {X : Cx} {cx : CXT} {k n : Nat} {C fI : Addr} {fd : FuncData} {ps ks : List Str} {sp spC : Sp} {x : Str} {p pos : Pos} {e : Expr} {es : List Expr} {kws : List Keyword} {t tk : TA} {g gC : {α : Type} → List α → List α → List α}
theorem call_isXT : CallR X (.builtin "isinstance") (rIsXT X.K) := by
  intro pins s σ H xs us Q I r h
  obtain ⟨a, C, tp, cs, ws, b, rfl, hT, ⟨fs, d, ed⟩, cl, pr, e, q⟩ := h
  obtain ⟨u1, u2, rfl, r1, r2⟩ := vals2 r
  cases (show u1 = Value.ref a from r1)
  cases (show u2 = Value.ref tp from r2)
  obtain ⟨oe, od, J, _⟩ := inst_of I ed
  have hO : ObjOk X.prog X.w H s.heap tp (.tup cs) := I.hok tp _ hT
  obtain ⟨_, its, rv, o, h1, h2, n, h3⟩ := hO
  have ew := ClsV.all pr rv
  subst ew
  obtain ⟨oc, od2, dt, sl⟩ := o
  simp only at h2 h3
  subst h2 h3
  exact PySem.W.kia_tup (kit_exc cl) I.kIn J h1 e (fun z => nomatch z) fun tk => ⟨.bl b, H, I.tok tk, rfl, q⟩
/-- what __init__ must do that C's call gives spC -/
def Inits (C : Addr) (sp spC : Sp) : Prop := ∀ (vs : List V) (H : Hp) (Q : VK) (a : Addr), H a = none → spC vs H Q (fun _ _ _ => False) → vs.length ≤ 1000 ∧ sp (.ref a :: vs) (upd H a (exo a C none)) (fun v H2 => v = .non ∧ Q (.ref a) H2) (fun _ _ _ => False)
theorem run_newX {pins : List (Addr × Obj)} {σ : L2.St} {H : Hp} {s : Shared} {Q : VK} {us zs : List Value} {vs : List V} {kw : List (Str × Value)} (cl : ClsX X.K C) (iC : PySem.W.findIn X.K (.ref C) "__init__" = some (some (.ref fI))) (tI : PySem.W.typeIn X.K (.ref fI) = some (.type "function"))
    (Fi : FnG X.prog X.w X.K X.mg X.base cx k fI fd ps sp) (gd : X.A.guards = some []) (rm : Room (k + 1) X.A) (hx : Passes cx X (fun _ _ _ => False)) (im : Inits C sp spC) (I : Inv X pins σ H s) (hl : us.length ≤ 1000)
    (hb : ∀ (s : Shared) (a : Addr), X.K.In s.heap → BindsTo s fd ⟨.ref a :: us, kw⟩ (ps.zip (.ref a :: zs))) (r : Vals vs zs) (h : spC vs H Q (fun _ _ _ => False)) :
    wpAny (model X.prog X.w) X.A (call (.ref C) us kw) (EP X pins σ Q) X.xe s := by
  obtain ⟨nm, q, N, bs, bm, sn, sub, ab, col, dd, k0, k1, k2, k3, k5, hC, hbm⟩ := cl.ox.cls
  obtain ⟨hp, gs, dr, tk, os⟩ := s
  have big : hp.objs.size ≤ hp.objs.size + 1 := Nat.le_succ _
  have free : H (hp.objs.size + 1) = none := I.hok.fresh big
  obtain ⟨_, hq⟩ := im vs H Q _ free h
  have kk : ∀ b o, hp.get? b = some o → ((hp.push (PySem.W.kdv_tup us)).push (PySem.HandSPX.excO C hp.objs.size)).get? b = some o := fun b o z => Heap.get?_push_of_some _ (Heap.get?_push_of_some _ z)
  have at1 : ((hp.push (PySem.W.kdv_tup us)).push (PySem.HandSPX.excO C hp.objs.size)).get? (hp.objs.size + 1) = some (PySem.HandSPX.excO C hp.objs.size) := by heap_get
  have J : Inv X pins σ (upd H (hp.objs.size + 1) (exo (hp.objs.size + 1) C none)) ⟨(hp.push (PySem.W.kdv_tup us)).push (PySem.HandSPX.excO C hp.objs.size), gs, dr, tk, os⟩ :=
    I.laid (t' := tk) (a := hp.objs.size + 1) (o := exo (hp.objs.size + 1) C none) kk big (exo_ok at1)
  have rr : Vals (V.ref (hp.objs.size + 1) :: vs) (Value.ref (hp.objs.size + 1) :: zs) := .cons rfl r
  refine wpAny_call (call_ownK F.excBase_ValueError (fun Y => PySem.HandSPX.refsVE_contains Y bm hbm) (I.kIn _ _ hC) (PySem.W.looks_findIn I.kIn iC) (fun self => PySem.W.bind_fn I.kIn self tI) (by rw [sizeLine_eq]; omega) ?_)
  refine codeAny_mono (Fi.run _ X.stack _ _ ⟨.ref (hp.objs.size + 1) :: us, kw⟩ _ _ _ (fun _ _ _ => False) gd (rm.make C us kw) (J.env0.make C us kw) (hb _ _ J.kIn) rr hq) fun res s' z => ?_
  cases res with
  | error er => exact hx pins σ _ _ er s' J z
  | ok fl =>
    cases fl with
    | ret u =>
      obtain ⟨v, H', J2, rv, ev, q3⟩ := J.after z
      subst ev
      exact ⟨rv, ⟨V.ref (hp.objs.size + 1), H', J2, rfl, q3⟩⟩
    | next => exact z.elim
    | brk => exact z.elim
    | cont => exact z.elim
/-- C(e, ..) -/
theorem pe_newX (cl : ClsX X.K C) (iC : PySem.W.findIn X.K (.ref C) "__init__" = some (some (.ref fI))) (tI : PySem.W.typeIn X.K (.ref fI) = some (.type "function")) (Fi : FnG X.prog X.w X.K X.mg X.base cx k fI fd ps sp) (gd : X.A.guards = some [])
    (rm : Room (k + 1) X.A) (hx : Passes cx X (fun _ _ _ => False)) (im : Inits C sp spC) (hb : Binds X.K fd ps []) (hg : Gl X x) (hm : X.mg x = some (.ref C)) (ha : PA X (e :: es) t)
    (hdb : (x == ("__debug__" : Str)) = false := by decide) (hst : starEach (e :: es) X.env = (false, eval e X.env) :: starEach es X.env := by rfl)
    (hpl : (backTo pos (starEach es X.env)).any (·.1) = false := by rfl) : PE X (.Call (.Name x p) (e :: es) [] pos) (tCall spC [] (fun _ _ _ => False) t) := by
  refine ⟨fun pins s σ H Q I h => wpAny_Call_Name_kw (ld_glob I hg hm ?_ hdb)⟩
  refine PySem.W.callWith_K (h₀ := X.base) I.ok.mod.kin cl.ox.kC (thn (ha.run pos pins s σ H _ I h) ?_) hst hpl
  rintro us s1 ⟨vs, H1, I1, r, q⟩
  have q' : spC (vs ++ []) H1 Q (fun _ _ _ => False) := q
  rw [List.append_nil] at q'
  have fr := I1.hok.fresh (Nat.le_refl s1.heap.objs.size)
  have l1 := (im vs H1 Q _ fr q').1
  have l2 := r.length
  have l3 := Fi.len _ _ _ _ (im vs H1 Q _ fr q').2
  refine ⟨I1.kIn, run_newX cl iC tI Fi gd rm hx im I1 (us := us) (zs := us) (show us.length ≤ 1000 by omega) (fun s a X1 => ?_) r q'⟩
  have z := hb s (.ref a :: us) X1 (by rw [List.append_nil]; simp only [List.length_cons] at l3 ⊢; omega)
  rw [List.append_nil] at z
  exact z
/-- C(k = v, ..) -/
theorem pe_newK (cl : ClsX X.K C) (iC : PySem.W.findIn X.K (.ref C) "__init__" = some (some (.ref fI))) (tI : PySem.W.typeIn X.K (.ref fI) = some (.type "function")) (Fi : FnG X.prog X.w X.K X.mg X.base cx k fI fd ps sp) (gd : X.A.guards = some [])
    (rm : Room (k + 1) X.A) (hx : Passes cx X (fun _ _ _ => False)) (im : Inits C sp spC) (hb : KwB X.K fd ps 1 ks g) (hgc : ∀ {α : Type} (a : α) (ws : List α), ws.length = ks.length → g [a] ws = a :: gC [] ws)
    (hr : ∀ {zs : List V} {ws : List Value}, zs.length = ks.length → Vals zs ws → Vals (gC [] zs) (gC [] ws)) (hg : Gl X x) (hm : X.mg x = some (.ref C)) (hk : PK X kws tk)
    (hall : (backToKw pos (keywordEach kws X.env)).all (·.1.isSome) = true := by rfl) (hks : (backToKw pos (keywordEach kws X.env)).filterMap (·.1) = ks := by rfl)
    (hdb : (x == ("__debug__" : Str)) = false := by decide)
    (hpl : ((backTo pos (starEach [] X.env)).any (·.1) || (backToKw pos (keywordEach kws X.env)).any (·.1.isNone)) = false := by rfl) :
    PE X (.Call (.Name x p) [] kws pos) (tKw 0 ks.length spC gC (fun _ _ _ => False) tNil tk) := by
  refine ⟨fun pins s σ H Q I h => wpAny_Call_Name_kw (ld_glob I hg hm ?_ hdb)⟩
  refine PySem.W.callWith_KW0 (h₀ := X.base) I.ok.mod.kin cl.ox.kC hall ?_ hpl
  refine thn (hk.run pos pins s σ H _ I h) ?_
  rintro ws s2 ⟨zs, H2, I2, rz, l1, l2, q2⟩
  rw [hks]
  refine ⟨I2.kIn, run_newX cl iC tI Fi gd rm hx im I2 (us := []) (zs := gC [] ws) (Nat.zero_le _) (fun s a X1 => ?_) (hr l2 rz) q2⟩
  have z := hb.to s [.ref a] ws rfl (rz.length.symm.trans l2)
  rw [hgc _ _ (rz.length.symm.trans l2)] at z
  exact z
/-- C() of a class that has no own __init__ -/
theorem pe_new0 {bmB : List Value} {B newId initId : String} (F0 : ExcBaseFacts B newId initId bmB) (qx : PySem.W.excIn X.K C bmB newId = true) (hm : X.mg x = some (.ref C)) (kC : PySem.W.keepIn X.K (.ref C) = true) (hg : Gl X x)
    (hdb : (x == ("__debug__" : Str)) = false := by decide) : PE X (.Call (.Name x p) [] [] pos) (fun _ H Q => ∀ a H', H a = none → Ex H H' → Ef H' a C [] → Q (.ref a) H') := by
  refine ⟨fun pins s σ H Q I h => wpAny_Call_Name_kw (ld_glob I hg hm (PySem.W.callWith_K0 I.kIn kC ?_) hdb)⟩
  obtain ⟨bm, N, nm, qn, bs, hdct, sn, sub, ab, col, dd, k0, k1, k2, k3, k5, mN, hC, hN, hni, T⟩ := exc_obj I.kIn qx
  refine wpAny_call_exc_subT F0 T hC hN hni (fun h' a hm => ?_) (by show 0 ≤ sizeLine; omega)
  have free : H a = none := I.hok.gone hm.new
  obtain ⟨t, ht, _, _⟩ := hm.there
  refine ⟨.ref a, upd H a (exo a C none), I.laidN hm.keeps hm.new free (exo_ok ht), rfl, h a _ free (Ex.nw free) ⟨none, Ed.of0 upd_same⟩⟩
end
end GL

end
section
set_option Elab.async false
set_option linter.all false
set_option maxRecDepth 100000
set_option maxHeartbeats 4000000
/-! try with a clause of several classes that is not meant, then except x as n, the exception tracked within the suite. -/
namespace GL
open PySem PySem.Spec PyProof.Rows L2
theorem fly_more {B h h' : Heap} {l : List Env} {e : Addr} {Z : Obj → Prop} (x : HandSPX.FlyingZ B l e Z h) (k : ∀ b o, h.get? b = some o → h'.get? b = some o) : HandSPX.FlyingZ B l e Z h' := by
  obtain ⟨h1, h2, h3, oe, vs, T, oT, ts, he, hz, hd, hv, hn, hne, hT, hdT, h4⟩ := x
  exact ⟨fun b o z => k _ _ (h1 b o z), h2, h3.of_keeps fun b o z _ => ⟨o, k _ _ z, rfl⟩, oe, vs, T, oT, ts, k _ _ he, hz, hd, hv, hn, hne, k _ _ hT, hdT, h4⟩
section
variable {X : Cx} {pins : List (Addr × Obj)} {σ : L2.St} {H : Hp} {s : Shared}
/-- the suite's state, the exception tracked in the place of its pin -/
theorem Inv.track {a : Addr} {oe : Obj} {vs : Array Value} {pn : List (Addr × Obj)} {φ : Heap → Prop} (ok : X.Ok) (I : Inv (X.suite a ((a, oe) :: pn)) [] σ H s) (hv : oe.data = .fields vs) (hφ : φ s.heap) (mono : ∀ h h' : Heap, φ h → (∀ o, h.get? a = some o → h'.get? a = some o) → φ h')
    (h0 : ∀ o, X.s_0.heap.get? a = some o → X.H_0 a = none → a ∉ X.ex → False) (hp : ∀ q ∈ pn, q.1 ≠ a) : Inv (X.suite a pn) [] σ (upd H a (.ext φ)) s := by
  obtain ⟨ha, na, nL, nF, nc⟩ := I.pin (a, oe) (List.mem_append_left _ List.mem_cons_self)
  have neN : ∀ {b : Addr} {o : HO}, H b = some o → b ≠ a := fun z e => by rw [e, na] at z; cases z
  refine ⟨ok.suite a pn, I.os, I.bare, ⟨I.base.keep, I.base.slot, fun b o z n hx => ?_, I.base.there, fun b xs z => ?_, fun b o u z => ?_, fun b ps z => ?_⟩, I.loc, I.cell, ?_, fun y c z => ?_, fun q hq => ?_, fun b o z => ?_, I.len⟩
  · by_cases e : b = a
    · subst e; exact (h0 o z n hx).elim
    · rw [upd_ne e]; exact I.base.free b o z n hx
  · have q := I.base.tups b xs z
    rw [upd_ne (neN q)]; exact q
  · have q := I.base.frzs b o u z
    rw [upd_ne (neN q)]; exact q
  · obtain ⟨m, q⟩ := I.base.tbls b ps z
    exact ⟨m, by rw [upd_ne (neN q)]; exact q⟩
  · rw [upd_ne nL.symm]; exact I.free
  · have q := I.freeC y c z
    have ne : c ≠ a := fun e => by
      obtain ⟨w', o, ho, hd⟩ := I.cell y c z
      subst e
      rw [ha] at ho
      cases ho
      exact nc _ hd
    rw [upd_ne ne]; exact q
  · have hq' : q ∈ pn := by rw [List.append_nil] at hq; exact hq
    obtain ⟨e, n, x1, x2, x3⟩ := I.pin q (List.mem_append_left _ (List.mem_cons_of_mem _ hq'))
    exact ⟨e, by rw [upd_ne (hp q hq')]; exact n, x1, x2, x3⟩
  · by_cases e : b = a
    · subst e
      rw [upd_same] at z
      cases z
      exact ⟨hφ, ⟨_, ha⟩, fun h1 h2 x k => mono h1 h2 x (fun o q => k o q)⟩
    · rw [upd_ne e] at z
      exact (I.hok b o z).stay (fun c v _ q => q) (fun c q => by rw [upd_ne (neN q)]; exact q) (fun c xs q => by rw [upd_ne (neN q)]; exact q)
end
end GL

end
section
set_option Elab.async false
set_option linter.all false
set_option maxRecDepth 100000
set_option maxHeartbeats 4000000
namespace GL
open PySem PySem.Spec PyProof.Rows L2
/-- tracked anew at a: an exception of the class cls -/
def ExcAt (H : Hp) (a : Addr) (cls : Value) (d : Option Addr) (H' : Hp) : Prop := ∃ φ, H' = upd H a (.ext φ) ∧ ∀ h, φ h → ∃ oe vs, h.get? a = some oe ∧ Zc cls d oe ∧ oe.data = .fields vs
def back (i : Nat) (D : Ends) : Ends := { nx := fun τ G => D.nx (τ.set i none) G, rt := D.rt, bk := fun τ G => D.bk (τ.set i none) G, ct := fun τ G => D.ct (τ.set i none) G }
def wLast (K : PySem.W.Frag) (c : Value) (i : Nat) (ts : TS) (D : Ends) : WX := fun cls d τ G => PySem.W.exmOne K cls c = some true ∧ ∀ a G', G a = none → ExcAt G a cls d G' → ts (back i D) (τ.set i (some (.ref a))) G'
/-- a clause that isn't meant -/
def Skip (X : Cx) (cs : List Value) (hd : ExceptHandler) : Prop := ∀ (a : Addr) (pn pins : List (Addr × Obj)) (σ : L2.St) (H : Hp) (s : Shared) (cls : Value) (rest : List ExceptHandler) (Q : Flow → Shared → Prop) (E : Value → Shared → Prop),
  Inv (X.suite a pn) pins σ H s → (∃ oe, s.heap.get? a = some oe ∧ oe.cls = cls) → PySem.W.exmAny X.K cls cs = some false →
  (∀ h', (∀ b o, s.heap.get? b = some o → h'.get? b = some o) → wpAny (model X.prog X.w) X.A (handleBy (.ref a) X.env rest) Q E { s with heap := h' }) → wpAny (model X.prog X.w) X.A (handleBy (.ref a) X.env (hd :: rest)) Q E s
section
variable {X : Cx} {x n x1 x2 x3 : Str} {c c1 c2 c3 : Value} {i : Nat} {body suite : List Stmt} {b₀ : Stmt} {np pos pos' p1 p2 p3 tp : Pos} {kk : Nat} {tb : WX → TS} {ts : TS} {hd : ExceptHandler} {cs : List Value}
theorem skip3 (h1 : Names X x1 c1) (h2 : Names X x2 c2) (h3 : Names X x3 c3) : Skip X [c1, c2, c3] (.ExceptHandler (some (.Tuple [.Name x1 p1, .Name x2 p2, .Name x3 p3] kk tp)) none body pos) := by
  intro a pn pins σ H s cls rest Q E I hcl hx hq
  obtain ⟨oe, he, hc⟩ := hcl
  have name : ∀ {y : Str} {v : Value} {p : Pos} {s' : Shared} {Q : Value → Shared → Prop} {E : Value → Shared → Prop}, Names X y v → Inv (X.suite a pn) pins σ H s' → Q v s' → wpAny (model X.prog X.w) (X.A.mark (some (.ref a))) (eval (.Name y p) X.env) Q E s' := fun {y v p s' Q E} hn I q => by
    obtain ⟨hg, hdb, hm | ⟨hm, hv, hnn⟩⟩ := hn
    · exact ld_glob (X := X.suite a pn) I hg hm q hdb
    · exact ld_blt (X := X.suite a pn) I hg hm hv q hnn hdb
  have LT : PySem.W.Looks (model X.prog X.w) s.heap (typeOf (.ref a)) cls := fun A Q E s' k q => wpAny_typeOf_ref (k _ _ he) (by rw [hc]; exact q)
  refine wpAny_handleBy_cons (codeAny_handlers_test ?_) (by intro z; cases z)
  refine wpAny_Tuple (wpAny_items_cons (name h1 I ?_))
  refine wpAny_items_cons (name h2 I ?_)
  refine wpAny_items_cons (name h3 I ?_)
  refine wpAny_items_nil ⟨by size_fits, ?_⟩
  have kp : ∀ b o, s.heap.get? b = some o → (s.heap.push { cls := .type "tuple", data := .seq [c1, c2, c3].toArray }).get? b = some o := fun _ _ z => Heap.get?_push_of_some _ z
  refine (PySem.W.exm_tup3 (I.kIn.keeps kp) (LT.keeps kp) (Heap.get?_push_size s.heap rfl) hx).here ?_
  exact hq _ kp
theorem skip2 (h1 : Names X x1 c1) (h2 : Names X x2 c2) : Skip X [c1, c2] (.ExceptHandler (some (.Tuple [.Name x1 p1, .Name x2 p2] kk tp)) none body pos) := by
  intro a pn pins σ H s cls rest Q E I hcl hx hq
  obtain ⟨oe, he, hc⟩ := hcl
  have name : ∀ {y : Str} {v : Value} {p : Pos} {s' : Shared} {Q : Value → Shared → Prop} {E : Value → Shared → Prop}, Names X y v → Inv (X.suite a pn) pins σ H s' → Q v s' → wpAny (model X.prog X.w) (X.A.mark (some (.ref a))) (eval (.Name y p) X.env) Q E s' := fun {y v p s' Q E} hn I q => by
    obtain ⟨hg, hdb, hm | ⟨hm, hv, hnn⟩⟩ := hn
    · exact ld_glob (X := X.suite a pn) I hg hm q hdb
    · exact ld_blt (X := X.suite a pn) I hg hm hv q hnn hdb
  have LT : PySem.W.Looks (model X.prog X.w) s.heap (typeOf (.ref a)) cls := fun A Q E s' k q => wpAny_typeOf_ref (k _ _ he) (by rw [hc]; exact q)
  refine wpAny_handleBy_cons (codeAny_handlers_test ?_) (by intro z; cases z)
  refine wpAny_Tuple (wpAny_items_cons (name h1 I ?_))
  refine wpAny_items_cons (name h2 I ?_)
  refine wpAny_items_nil ⟨by size_fits, ?_⟩
  have kp : ∀ b o, s.heap.get? b = some o → (s.heap.push { cls := .type "tuple", data := .seq [c1, c2].toArray }).get? b = some o := fun _ _ z => Heap.get?_push_of_some _ z
  refine (PySem.W.exm_tup2 (I.kIn.keeps kp) (LT.keeps kp) (Heap.get?_push_size s.heap rfl) hx).here ?_
  exact hq _ kp
/-- the last clause, which is meant -/
theorem catch_last {pins : List (Addr × Obj)} {σ : L2.St} {H : Hp} {sI s' : Shared} {B : Heap} {a : Addr} {cls : Value} {d : Option Addr} {D : Ends} (hN : X.N.Nodup) (hi : X.N[i]? = some n) (hln : X.env.kindOf n = some .local) (hc : Names X x c)
    (hsu : ∀ (a : Addr) (pn : List (Addr × Obj)), PSs (X.suite a pn) (b₀ :: suite) ts) (J : Inv X pins σ H sI) (nb : ∀ b o, sI.heap.get? b = some o → b ∉ frs X.stack → B.get? b = some o) (up : sI.heap.UpToSlots s'.heap) (fl : HandSPX.FlyingZ B X.stack a (Zc cls d) s'.heap)
    (na : H a = none) (os : s'.os = sI.os) (ag : AllBare s'.gens) (nL : a ≠ X.env.locals) (nF : a ∉ X.fs) (nS : a ∉ frs X.stack) (w : wLast X.K c i ts D cls d σ H) :
    wpAny (model X.prog X.w) X.A (handleBy (.ref a) X.env [.ExceptHandler (some (.Name x np)) (some n) (b₀ :: suite) pos']) (SP X pins D) X.xe s' := by
  have ok := J.ok
  have nB : B.get? a = none := fl.2.1
  have nI : sI.heap.get? a = none := by
    cases e : sI.heap.get? a with
    | none => rfl
    | some o => rw [nb a o e nS] at nB; cases nB
  have K3 : Inv X pins σ H s' := J.landed nb fl.1 up os ag
  obtain ⟨oe, vs, he, hz, hd⟩ := fl.there
  have S3 := K3.suite he hd na nL nF
  obtain ⟨hb1, hw⟩ := w
  refine wpAny_handleBy_cons (codeAny_handlers_test ?_) (by intro z; cases z)
  have LT : PySem.W.Looks (model X.prog X.w) s'.heap (typeOf (.ref a)) cls := fun A Q E s k q => wpAny_typeOf_ref (k _ _ he) (by rw [hz.1]; exact q)
  have LM := PySem.W.exm_one (M := model X.prog X.w) K3.kIn LT hb1
  have tst : ∀ {Q : Value → Shared → Prop} {E : Value → Shared → Prop}, Q c s' → wpAny (model X.prog X.w) (X.A.mark (some (.ref a))) (eval (.Name x np) X.env) Q E s' := fun {Q E} q => by
    obtain ⟨hg, hdb, hm | ⟨hm, hv, hnn⟩⟩ := hc
    · exact ld_glob (X := X.suite a ((a, oe) :: (X.pn ++ pins))) S3 hg hm q hdb
    · exact ld_blt (X := X.suite a ((a, oe) :: (X.pn ++ pins))) S3 hg hm hv q hnn hdb
  refine tst (LM.here ?_)
  refine codeAny_handlers_suite_as ?_
  refine HandSPX.lands_againZ fl fun h4 fl4 up4 => ?_
  have K4 : Inv X pins σ H { s' with heap := h4 } := J.landed nb fl4.1 (up.trans up4) os ag
  obtain ⟨oe4, vs4, he4, hz4, hd4⟩ := fl4.there
  have S4 := K4.suite he4 hd4 na nL nF
  refine store_ok (X := X.suite a ((a, oe4) :: (X.pn ++ pins))) (v := .ref a) S4 hN hi (.inl hln) rfl (fun s5 S5 => ?_) (.inr hln)
  have T5 := Inv.track (φ := fun h => h.get? a = some oe4) ok S5 hd4 (S5.pin (a, oe4) (List.mem_append_left _ List.mem_cons_self)).1 (fun h1 h2 z k => k _ z)
    (fun o z n hx => by have q := J.base.keep a o z n nF hx; rw [nI] at q; cases q) (fun q hq e => by
      have z := (J.pin q hq).1
      rw [e, nI] at z; cases z)
  refine wpAny_mono ((hsu a (X.pn ++ pins)).run [] s5 _ _ (back i D) T5 (hw a _ na ⟨_, rfl, fun h z => ⟨oe4, vs4, z, hz4, hd4⟩⟩)) (fun f s6 hsp => ?_) (fun _ _ z => False.elim z)
  have fin : ∀ {τ : L2.St} {G : Hp} {Q : Shared → Prop}, Inv (X.suite a (X.pn ++ pins)) [] τ G s6 → (∀ s7, Inv X pins (τ.set i none) G s7 → Q s7) →
      wpAny (model X.prog X.w) X.A (do bindName X.env n .none; unbindBehindTheSuite X.env n pos') (fun _ s7 => Q s7) X.xe s6 := fun {τ G Q} S6 hq =>
    gone_ok (X := X) (pins := pins) ⟨ok, S6.os, S6.bare, S6.base, S6.loc, S6.cell, S6.free, S6.freeC, fun p hp => S6.pin p (List.mem_append_left _ hp), S6.hok, S6.len⟩ hN hi hln hq
  cases f with
  | next =>
    obtain ⟨τ, G, S6, q6⟩ := hsp
    exact fin S6 fun s7 J7 => ⟨_, G, J7, q6⟩
  | brk =>
    obtain ⟨τ, G, S6, q6⟩ := hsp
    exact fin S6 fun s7 J7 => ⟨_, G, J7, q6⟩
  | cont =>
    obtain ⟨τ, G, S6, q6⟩ := hsp
    exact fin S6 fun s7 J7 => ⟨_, G, J7, q6⟩
  | ret u =>
    obtain ⟨v6, τ, G, S6, r6, q6⟩ := hsp
    exact fin S6 fun s7 J7 => ⟨v6, _, G, J7, r6, q6⟩
/-- try: body; except (..): ..; except x as n: suite -/
theorem ps_tryL {hds : List ExceptHandler} {css : List (List Value)} (hs : X.stack = X.env :: X.outer) (hf : X.env.frame = some X.env.locals) (hN : X.N.Nodup) (hi : X.N[i]? = some n) (hln : X.env.kindOf n = some .local) (hc : Names X x c)
    (hb : ∀ (W : WX) (pn : List (Addr × Obj)) (xe : Value → Shared → Prop), Takes (X.tr pn xe) W → PassesOwn (model X.prog X.w) X.A X.env xe → PSs (X.tr pn xe) body (tb W))
    (hk : Paired (Skip X) css hds) (hsu : ∀ (a : Addr) (pn : List (Addr × Obj)), PSs (X.suite a pn) (b₀ :: suite) ts) (hne : ∃ h₀ r, hds ++ [.ExceptHandler (some (.Name x np)) (some n) (b₀ :: suite) pos'] = h₀ :: r) :
    PS X (.Try body (hds ++ [.ExceptHandler (some (.Name x np)) (some n) (b₀ :: suite) pos']) [] [] pos)
      (fun D σ H => tb (fun cls d τ G => (∀ cs, cs ∈ css → PySem.W.exmAny X.K cls cs = some false) ∧ wLast X.K c i ts D cls d τ G) D σ H) := by
  refine ⟨fun pins s σ H D I h => ?_⟩
  have ok := I.ok
  have hfr : X.A.frames = some (X.env :: X.outer) := by rw [ok.frames, hs]
  generalize hL : hds ++ [.ExceptHandler (some (.Name x np)) (some n) (b₀ :: suite) pos'] = L at hne ⊢
  obtain ⟨h₀, r0, rfl⟩ := hne
  refine wpAny_Try_except ?_
  refine wpAny_mono ((hb (fun cls d τ G => (∀ cs, cs ∈ css → PySem.W.exmAny X.K cls cs = some false) ∧ wLast X.K c i ts D cls d τ G) (X.pn ++ pins) (fun e s₁ => wpAny (model X.prog X.w) X.A (noteFrame e X.env) (fun _ s₂ =>
    wpAny (model X.prog X.w) X.A (setFlight e none) (fun _ s₃ => wpAny (model X.prog X.w) X.A (handleBy e X.env (h₀ :: r0)) (SP X pins D) X.xe s₃) X.xe s₂) X.xe s₁) (fun u s' xx => ?_) PassesOwn.looking).run [] s σ H D (I.toTry _) h) (fun f s1 hsp => ?_) (fun e s1 he => he)
  · obtain ⟨a, B, sI, pins', σ', H', cls, d, rfl, J', nb, up, sky, na, os, ag, hsk, w⟩ := xx
    have J : Inv X pins σ' H' sI := J'.ofTry ok
    have sky2 : Sky B (X.env :: X.outer) a (Zc cls d) X.env.locals s'.heap := by rw [← hs]; exact sky
    show wpAny (model X.prog X.w) X.A (noteFrame (.ref a) X.env) _ _ _
    refine Sky.land Zc.steady hfr hf sky2 fun h3 fl3 up3 => ?_
    rw [← hs] at fl3
    obtain ⟨oe3, vs3, he3, hz3, hd3⟩ := fl3.there
    have nS : a ∉ frs X.stack := fun hm => by
      obtain ⟨_, o', e', hnf⟩ := fl3.2.2.1.mem hm
      rw [he3] at e'; cases e'
      exact hnf _ hd3
    have nL : a ≠ X.env.locals := fun z => nS (List.mem_filterMap.mpr ⟨X.env, by rw [hs]; exact List.mem_cons_self, by rw [hf, z]⟩)
    have nF : a ∉ X.fs := fun hm => by
      obtain ⟨e, hx, q⟩ := List.mem_filterMap.mp hm
      exact nS (List.mem_filterMap.mpr ⟨e, by rw [hs]; exact List.mem_cons_of_mem _ hx, q⟩)
    rw [← hL]
    clear hL hb
    have go : ∀ (h3 : Heap), HandSPX.FlyingZ B X.stack a (Zc cls d) h3 → sI.heap.UpToSlots h3 → wpAny (model X.prog X.w) X.A (handleBy (.ref a) X.env (hds ++ [.ExceptHandler (some (.Name x np)) (some n) (b₀ :: suite) pos'])) (SP X pins D) X.xe { s' with heap := h3 } := by
      clear h3 fl3 up3 oe3 vs3 he3 hz3 hd3 h
      induction hk with
      | nil => exact fun h3 fl up => catch_last (s' := { s' with heap := h3 }) hN hi hln hc hsu J nb up fl na os ag nL nF nS w
      | @cons cs0 hd0 css0 hds0 hk0 hkr ih =>
        intro h3 fl up3
        obtain ⟨oe, vs, he, hz, hd⟩ := fl.there
        have K3 : Inv X pins σ' H' { s' with heap := h3 } := J.landed nb fl.1 up3 os ag
        refine hk0 a _ [] σ' H' { s' with heap := h3 } cls _ _ _ (K3.suite he hd na nL nF) ⟨oe, he, hz.1⟩ (hsk _ List.mem_cons_self) fun h' kp => ?_
        exact ih (fun cs m => hsk cs (List.mem_cons_of_mem _ m)) h' (fly_more fl kp) (up3.trans (Heap.UpToSlots.of_keeps kp))
    exact go h3 fl3 (up.trans up3)
  · cases f with
    | next =>
      obtain ⟨τ, G, J, q⟩ := hsp
      exact wpAny_execs_nil ⟨τ, G, J.ofTry ok, q⟩
    | brk =>
      obtain ⟨τ, G, J, q⟩ := hsp
      exact ⟨τ, G, J.ofTry ok, q⟩
    | cont =>
      obtain ⟨τ, G, J, q⟩ := hsp
      exact ⟨τ, G, J.ofTry ok, q⟩
    | ret u =>
      obtain ⟨v, τ, G, J, r, q⟩ := hsp
      exact ⟨v, τ, G, J.ofTry ok, r, q⟩
end
end GL

end
section
set_option Elab.async false
set_option linter.all false
set_option maxRecDepth 100000
set_option maxHeartbeats 4000000
/-! repr of data with dicts; raise of a made exception; what __init__ does. -/
namespace GL
open PySem PySem.Spec PyProof.Rows L2
def kD : Key → PyData
  | .inl i => .int i
  | .inr x => .str x
mutual
/-- data of any depth, all of it tracked -/
inductive Dq (H : Hp) : V → PyData → Prop
  | non : Dq H .non .none
  | bl (b : Bool) : Dq H (.bl b) (.bool b)
  | int (i : Int) : Dq H (.int i) (.int i)
  | str (x : Str) : Dq H (.str x) (.str x)
  | lst {a : Addr} {xs : List V} {ds : List PyData} : H a = some (.lst xs) → DqA H xs ds → Dq H (.ref a) (.list ds)
  | tup {a : Addr} {xs : List V} {ds : List PyData} : H a = some (.tup xs) → DqA H xs ds → Dq H (.ref a) (.tuple ds)
  | dic {a : Addr} {kvs : List (Key × V)} {ps : List (PyData × PyData)} : H a = some (.dK kvs) → ps.map (·.1) = kvs.map (fun p => kD p.1) → DqA H (kvs.map (·.2)) (ps.map (·.2)) → Dq H (.ref a) (.dict ps)
inductive DqA (H : Hp) : List V → List PyData → Prop
  | nil : DqA H [] []
  | cons {v : V} {vs : List V} {d : PyData} {ds : List PyData} : Dq H v d → DqA H vs ds → DqA H (v :: vs) (d :: ds)
end
structure Mono (H H' : Hp) : Prop where
  l : ∀ a xs, H a = some (.lst xs) → H' a = some (.lst xs)
  t : ∀ a xs, H a = some (.tup xs) → H' a = some (.tup xs)
  d : ∀ a xs, H a = some (.dK xs) → H' a = some (.dK xs)
theorem Ex.mono {H H' : Hp} (e : Ex H H') : Mono H H' := ⟨fun a _ h => e a _ h, fun a _ h => e a _ h, fun a _ h => e a _ h⟩
mutual
theorem Dq.mono {H H' : Hp} (k : Mono H H') : ∀ (d : PyData) (v : V), Dq H v d → Dq H' v d
  | .none, _, h => by cases h; exact .non
  | .bool b, _, h => by cases h; exact .bl b
  | .int i, _, h => by cases h; exact .int i
  | .str x, _, h => by cases h; exact .str x
  | .list ds, _, h => by
    cases h with
    | @lst a xs _ h1 h2 => exact .lst (k.l _ _ h1) (DqA.mono k ds xs h2)
  | .tuple ds, _, h => by
    cases h with
    | @tup a xs _ h1 h2 => exact .tup (k.t _ _ h1) (DqA.mono k ds xs h2)
  | .dict ps, _, h => by
    cases h with
    | @dic a kvs _ h1 h2 h3 => exact .dic (k.d _ _ h1) h2 (DqA.mono2 k ps _ h3)
theorem DqA.mono {H H' : Hp} (k : Mono H H') : ∀ (ds : List PyData) (vs : List V), DqA H vs ds → DqA H' vs ds
  | [], _, h => by cases h; exact .nil
  | d :: ds, _, h => by
    cases h with
    | cons h1 h2 => exact .cons (Dq.mono k d _ h1) (DqA.mono k ds _ h2)
theorem DqA.mono2 {H H' : Hp} (k : Mono H H') : ∀ (ps : List (PyData × PyData)) (vs : List V), DqA H vs (ps.map (·.2)) → DqA H' vs (ps.map (·.2))
  | [], _, h => by cases h; exact .nil
  | p :: ps, _, h => by
    cases h with
    | cons h1 h2 => exact .cons (Dq.mono k p.2 _ h1) (DqA.mono2 k ps _ h2)
end
section
variable {X : Cx} {pins : List (Addr × Obj)} {σ : L2.St} {H : Hp} {s : Shared}
theorem not_sm (sb : SmB X.base) (I : Inv X pins σ H s) {a : Addr} {o : HO} (h : H a = some o) : a ≠ sysModules := fun e => by
  obtain ⟨ob, hb⟩ := sb
  have q := (I.bs _ _ hb).2
  rw [← e, h] at q; cases q
theorem keys_read {h : Heap} {P : Program} {w : World} : ∀ {es : List DictEntry} {vs : List (Key × Value)}, Pairs (mixKind P w) es vs → ReadsAll h (es.map (·.key)) (vs.map fun p => kD p.1) ((es.map fun _ => ([] : List Addr)).flatten)
  | _, _, .nil => .nil
  | _, _, .cons (e := e) (kv := kv) (es := es) (kvs := vs) h1 h2 h3 => by
    have ih := keys_read (h := h) h3
    have hk : Reads h e.key (kD kv.1) [] := by
      rcases keyIs_shape h1 with ⟨i, t, e1, e2⟩ | ⟨x, t, e1, e2⟩
      · rw [e1, e2]; exact .int i t
      · rw [e1, e2]; exact .str x t
    exact ReadsAll.cons hk ih
theorem vals_of_pairs {P : Program} {w : World} : ∀ {es : List DictEntry} {vs : List (Key × Value)}, Pairs (mixKind P w) es vs → es.map (·.val) = vs.map (·.2)
  | _, _, .nil => rfl
  | _, _, .cons h1 h2 h3 => by
    simp only [List.map_cons]
    rw [h2, vals_of_pairs h3]
theorem nil_flat {α β : Type} (l : List α) : (l.map fun _ => ([] : List β)).flatten = [] := by induction l with
  | nil => rfl
  | cons a r ih => simpa using ih
theorem kv_keys : ∀ {kvs : List (Key × V)} {vs : List (Key × Value)}, KV kvs vs → kvs.map (fun p => kD p.1) = vs.map (fun p => kD p.1)
  | _, _, .nil => rfl
  | _, _, .cons h1 h2 => by
    simp only [List.map_cons]
    rw [h1.1, kv_keys h2]
theorem kv_vals : ∀ {kvs : List (Key × V)} {vs : List (Key × Value)}, KV kvs vs → Vals (kvs.map (·.2)) (vs.map (·.2))
  | _, _, .nil => .nil
  | _, _, .cons h1 h2 => .cons h1.2 (kv_vals h2)
mutual
theorem Dq.reads (sb : SmB X.base) (I : Inv X pins σ H s) : ∀ (d : PyData) (v : V) (u : Value), Dq H v d → RelV v u → ∃ as, Reads s.heap u d as ∧ sysModules ∉ as
  | .none, _, _, h, r => by cases h; cases r; exact ⟨_, Reads.none, by simp⟩
  | .bool b, _, _, h, r => by cases h; cases r; exact ⟨_, Reads.bool b, by simp⟩
  | .int i, _, _, h, r => by cases h; obtain ⟨t, rfl⟩ := r; exact ⟨_, Reads.int i t, by simp⟩
  | .str x, _, _, h, r => by cases h; obtain ⟨t, rfl⟩ := r; exact ⟨_, Reads.str x t, by simp⟩
  | .list ds, _, _, h, r => by
    cases h with
    | @lst a xs _ h1 h2 =>
      cases r
      obtain ⟨its, rv, ⟨o, n, ho, hc, _, hd⟩, _⟩ := I.list (SqL.of h1)
      obtain ⟨as, hr, hn⟩ := DqA.reads sb I ds _ its h2 rv
      exact ⟨_, Reads.list ho hc hd hr, fun m => by
        rcases List.mem_cons.mp m with e | m
        · exact not_sm sb I h1 e.symm
        · exact hn m⟩
  | .tuple ds, _, _, h, r => by
    cases h with
    | @tup a xs _ h1 h2 =>
      cases r
      obtain ⟨its, rv, ⟨o, ho, hc, n, hd⟩, _⟩ := I.tuple (SqT.of h1)
      obtain ⟨as, hr, hn⟩ := DqA.reads sb I ds _ its h2 rv
      exact ⟨_, Reads.tuple ho hc hd hr, hn⟩
  | .dict ps, _, _, h, r => by
    cases h with
    | @dic a kvs _ h1 h2 h3 =>
      cases r
      have hO : ObjOk X.prog X.w H s.heap a (.dK kvs) := I.hok a _ h1
      obtain ⟨_, _, vs, rel, o, es, ep, ho, hx, hd, hk, hp, hnd⟩ := hO
      obtain ⟨bs, hr, hn⟩ := DqA.reads2 sb I ps _ (vs.map (·.2)) h3 (kv_vals rel)
      have e1 := keys_read (h := s.heap) hp
      rw [nil_flat, ← kv_keys rel, ← h2] at e1
      rw [← vals_of_pairs hp] at hr
      exact ⟨_, Reads.dict ho hx.1 hd e1 hr, fun m => by
        rcases List.mem_append.mp m with m | m
        · rcases List.mem_cons.mp m with e | m
          · exact not_sm sb I h1 e.symm
          · cases m
        · exact hn m⟩
theorem DqA.reads (sb : SmB X.base) (I : Inv X pins σ H s) : ∀ (ds : List PyData) (vs : List V) (us : List Value), DqA H vs ds → Vals vs us → ∃ as, ReadsAll s.heap us ds as ∧ sysModules ∉ as
  | [], _, _, h, r => by cases h; cases r; exact ⟨_, ReadsAll.nil, by simp⟩
  | d :: ds, _, _, h, r => by
    cases h with
    | cons h1 h2 =>
      cases r with
      | cons r1 r2 =>
        obtain ⟨as, q1, n1⟩ := Dq.reads sb I d _ _ h1 r1
        obtain ⟨bs, q2, n2⟩ := DqA.reads sb I ds _ _ h2 r2
        exact ⟨_, ReadsAll.cons q1 q2, fun m => (List.mem_append.mp m).elim n1 n2⟩
theorem DqA.reads2 (sb : SmB X.base) (I : Inv X pins σ H s) : ∀ (ps : List (PyData × PyData)) (vs : List V) (us : List Value), DqA H vs (ps.map (·.2)) → Vals vs us → ∃ as, ReadsAll s.heap us (ps.map (·.2)) as ∧ sysModules ∉ as
  | [], _, _, h, r => by cases h; cases r; exact ⟨_, ReadsAll.nil, by simp⟩
  | p :: ps, _, _, h, r => by
    cases h with
    | cons h1 h2 =>
      cases r with
      | cons r1 r2 =>
        obtain ⟨as, q1, n1⟩ := Dq.reads sb I p.2 _ _ h1 r1
        obtain ⟨bs, q2, n2⟩ := DqA.reads2 sb I ps _ _ h2 r2
        exact ⟨_, ReadsAll.cons q1 q2, fun m => (List.mem_append.mp m).elim n1 n2⟩
end
/-- data that repr shows -/
structure Da (H : Hp) (v : V) (d : PyData) : Prop where
  q : Dq H v d
  s : d.showable = true
  l : d.leavesShort 100 = true
  z : d.depth ≤ 30
  w : d.weight ≤ 100000
/-- .. with its bounds -/
structure Dz (H : Hp) (v : V) (d : PyData) (Z W : Nat) : Prop where
  q : Dq H v d
  s : d.showable = true
  l : d.leavesShort 100 = true
  z : d.depth ≤ Z
  w : d.weight ≤ W
structure DzA (H : Hp) (vs : List V) (ds : List PyData) (Z W : Nat) : Prop where
  q : DqA H vs ds
  s : PyData.showableAll ds = true
  l : PyData.leavesShortAll 100 ds = true
  z : PyData.depthAll ds ≤ Z
  w : PyData.weightAll ds ≤ W
theorem Dz.da {H : Hp} {v : V} {d : PyData} {Z W : Nat} (h : Dz H v d Z W) (hZ : Z ≤ 30) (hW : W ≤ 100000) : Da H v d := ⟨h.q, h.s, h.l, Nat.le_trans h.z hZ, Nat.le_trans h.w hW⟩
theorem Dz.ex {H H' : Hp} {v : V} {d : PyData} {Z W : Nat} (e : Ex H H') (h : Dz H v d Z W) : Dz H' v d Z W := ⟨Dq.mono e.mono d v h.q, h.s, h.l, h.z, h.w⟩
theorem Dz.le {H : Hp} {v : V} {d : PyData} {Z W Z' W' : Nat} (h : Dz H v d Z W) (hZ : Z ≤ Z') (hW : W ≤ W') : Dz H v d Z' W' := ⟨h.q, h.s, h.l, Nat.le_trans h.z hZ, Nat.le_trans h.w hW⟩
theorem DzA.nil {H : Hp} : DzA H [] [] 0 0 := ⟨.nil, rfl, rfl, Nat.le_refl _, Nat.le_refl _⟩
theorem DzA.cons {H : Hp} {v : V} {d : PyData} {vs : List V} {ds : List PyData} {Z W Z' W' : Nat} (h : Dz H v d Z W) (r : DzA H vs ds Z' W') : DzA H (v :: vs) (d :: ds) (max Z Z') (W + 1 + W') :=
  ⟨.cons h.q r.q, by simp only [PyData.showableAll, h.s, r.s]; rfl, by simp only [PyData.leavesShortAll, h.l, r.l]; rfl, by
    have h1 := h.z
    have h2 := r.z
    simp only [PyData.depthAll]; omega, by
    have h1 := h.w
    have h2 := r.w
    simp only [PyData.weightAll]; omega⟩
theorem Dz.lst {H : Hp} {a : Addr} {xs : List V} {ds : List PyData} {Z W : Nat} (g : H a = some (.lst xs)) (h : DzA H xs ds Z W) : Dz H (.ref a) (.list ds) (Z + 1) W :=
  ⟨.lst g h.q, by simp only [PyData.showable]; exact h.s, by simp only [PyData.leavesShort]; exact h.l, by have := h.z; simp only [PyData.depth]; omega, by have := h.w; simp only [PyData.weight]; omega⟩
theorem Dz.tup {H : Hp} {a : Addr} {xs : List V} {ds : List PyData} {Z W : Nat} (g : H a = some (.tup xs)) (h : DzA H xs ds Z W) : Dz H (.ref a) (.tuple ds) (Z + 1) W :=
  ⟨.tup g h.q, by simp only [PyData.showable]; exact h.s, by simp only [PyData.leavesShort]; exact h.l, by have := h.z; simp only [PyData.depth]; omega, by have := h.w; simp only [PyData.weight]; omega⟩
theorem Dz.dic0 {H : Hp} {a : Addr} (g : H a = some (.dK [])) : Dz H (.ref a) (.dict []) 1 0 := ⟨.dic (ps := []) g rfl .nil, rfl, rfl, by decide, by decide⟩
theorem Dz.dic1 {H : Hp} {a : Addr} {x : Str} {v : V} {d : PyData} {Z W : Nat} (g : H a = some (.dK [(.inr x, v)])) (hx : (PyData.str x).leavesShort 100 = true) (h : Dz H v d Z W) : Dz H (.ref a) (.dict [(.str x, d)]) (Z + 1) (x.length + W + 2) :=
  ⟨.dic (ps := [(.str x, d)]) g rfl (.cons h.q .nil), by simp only [PyData.showable, PyData.showableKv, h.s]; rfl, by simp only [PyData.leavesShort, PyData.leavesShortKv, h.l] at hx ⊢; rw [hx]; rfl, by
    have := h.z
    simp only [PyData.depth, PyData.depthKv]; omega, by
    have := h.w
    have e : x.length = x.cps.size := rfl
    simp only [PyData.weight, PyData.weightKv]; omega⟩
theorem Dz.non {H : Hp} : Dz H .non .none 0 0 := ⟨.non, rfl, rfl, by decide, by decide⟩
theorem Dz.bl {H : Hp} {b : Bool} : Dz H (.bl b) (.bool b) 0 0 := ⟨.bl b, rfl, rfl, by simp [PyData.depth], by simp [PyData.weight]⟩
theorem Dz.int {H : Hp} {i : Int} (h : i.natAbs < 10 ^ 60) : Dz H (.int i) (.int i) 0 300 := by
  have h2 : i.natAbs.log2 < 200 := by
    by_cases h0 : i.natAbs = 0
    · rw [h0]; decide
    · exact (Nat.log2_lt h0).mpr (Nat.lt_trans h (by decide))
  refine ⟨.int i, ?_, ?_, by simp [PyData.depth], ?_⟩
  · simp only [PyData.showable, decide_eq_true_eq]; omega
  · have e := int_text_length_le10 (k := 60) (by decide) h
    simp only [PyData.leavesShort, decide_eq_true_eq]
    show (Str.ofString (toString i)).length ≤ 100
    rw [PySem.ofString_length]; omega
  · simp only [PyData.weight]
    split <;> omega
theorem Dz.str {H : Hp} {s : String} : Dz H (.str (Str.ofString s)) (.str (Str.ofString s)) 0 (Str.ofString s).length := by
  refine ⟨.str _, rfl, ?_, by simp [PyData.depth], Nat.le_refl _⟩
  simp only [PyData.leavesShort, List.all_eq_true, decide_eq_true_eq]
  intro c hc
  rw [PyProof.Rows.signs_ofString] at hc
  obtain ⟨ch, _, rfl⟩ := List.mem_map.mp hc
  have := ch.valid
  have h2 : ch.toNat < 0x110000 := by
    rcases this with h | h
    · exact Nat.lt_trans h (by decide)
    · exact h.2
  exact Nat.lt_trans h2 (by decide)
def rReprQ : List V → Hp → VK → Prop := fun xs H Q => ∃ (v : V) (d : PyData), xs = [v] ∧ Da H v d ∧ Q (.str d.shown) H
theorem call_reprQ (sb : SmB X.base) (gd : X.A.guards = some []) {j : Nat} (rm : Room j X.A) : CallR X (.builtin "repr") rReprQ := by
  intro pins s σ H xs us Q I r h
  obtain ⟨v, d, rfl, hd, q⟩ := h
  cases r with
  | cons rv rn =>
    rename_i u us
    cases rn
    have hu := rm.units
    have hz := hd.z
    obtain ⟨as, rd, nm⟩ := Dq.reads sb I d v u hd.q rv
    have hl : d.shown.length ≤ sizeLine := by
      have h1 := PyData.shown_le 100 (by decide) d hd.l
      have h2 : (100 + 2) * d.weight ≤ 102 * 100000 := Nat.mul_le_mul (Nat.le_refl _) hd.w
      rw [sizeLine_eq]
      omega
    have fin : ∀ (h' : Heap) (u' tk : Tok), (∀ b o, s.heap.get? b = some o → h'.get? b = some o) → EP X pins σ Q (.str d.shown u') { s with heap := h', toks := tk } :=
      fun h' u' tk kk => ⟨.str d.shown, H, I.kept (t' := tk) kk, ⟨u', rfl⟩, q⟩
    have hs := hd.s
    have h1 := hd.q
    cases h1 with
    | non => cases rv; exact P.repr_of_none (fin s.heap _ _ fun _ _ z => z)
    | bl b => cases rv; exact P.repr_of_bool (fin s.heap _ _ fun _ _ z => z)
    | int i => obtain ⟨t, rfl⟩ := rv; exact P.repr_of_int (by simpa [PyData.showable] using hs) (fin s.heap _ _ fun _ _ z => z)
    | str y => obtain ⟨t, rfl⟩ := rv; exact P.repr_of_str (fin s.heap _ _ fun _ _ z => z) hl
    | lst h1 h2 => cases rv; exact repr_of_reads' rd hs (fun _ => nm) gd (by omega) (fun _ _ z => z) fin hl
    | tup h1 h2 => cases rv; exact repr_of_reads' rd hs (fun _ => nm) gd (by omega) (fun _ _ z => z) fin hl
    | dic h1 h2 h3 => cases rv; exact repr_of_reads' rd hs (fun _ => nm) gd (by omega) (fun _ _ z => z) fin hl
end
end GL

end
section
set_option Elab.async false
set_option linter.all false
set_option maxRecDepth 100000
set_option maxHeartbeats 4000000
namespace GL
open PySem PySem.Spec PyProof.Rows L2
open L2H (RoomH roomH_of)
/-! raise of an exception that was made -/
section
variable {X : Cx} {e : Expr} {te : TE} {W : WX} {pos : Pos}
theorem pmk_val (hx : X.ex = []) (he : PE X e te) : PMk X e (fun σ H Q => te σ H fun x H1 => ∃ (a C : Addr) (d : Option Addr), x = .ref a ∧ H1 a = some (exo a C d) ∧ X.H_0 a = none ∧ Raises X (.ref C) ∧ Q (.ref C) d (delH H1 a)) := by
  intro pins s σ H Q I h
  refine wpAny_mono (he.run pins s σ H _ I h) (fun u s1 hu => ?_) fun _ _ z => z
  obtain ⟨v, H1, I1, r1, a, C, d, rfl, ha, h0, hr, q⟩ := hu
  cases r1
  obtain ⟨t1, ho⟩ := exo_at I1.hok ha
  obtain ⟨G, gs, ga, J⟩ := I1.untrack (a := a) ha (fr0_none h0) hx
  exact ⟨a, _, _, { s1 with heap := G }, delH H1 a, .ref C, d, rfl, J, gs, ga, ho, ⟨rfl, rfl⟩, rfl, rfl, delH_same, rfl, I1.bare, hr, q⟩
def tRaiseV (X : Cx) (W : WX) (te : TE) : TS := fun _ σ H => te σ H fun x H1 => ∃ (a C : Addr) (d : Option Addr), x = .ref a ∧ H1 a = some (exo a C d) ∧ X.H_0 a = none ∧ Raises X (.ref C) ∧ W (.ref C) d σ (delH H1 a)
theorem ps_raiseV (hc : X.calm = true) (hx : X.ex = []) (tk : Takes X W) (he : PE X e te) : PS X (.Raise (some e) none pos) (tRaiseV X W te) := ps_raise hc tk (pmk_val hx he)
end
/-! what __init__ does -/
/-- a fresh exception, its fields stored -/
def Eo (H : Hp) (a C : Addr) (fs : List (Str × V)) : Prop := ∃ dd, dd ≠ a ∧ H a = some (exo a C (some dd)) ∧ H dd = some (exd dd fs)
theorem Eo.ef {H : Hp} {a C : Addr} {fs : List (Str × V)} (h : Eo H a C fs) : Ef H a C fs := by obtain ⟨dd, _, h1, h2⟩ := h; exact ⟨some dd, Ed.of h1 h2⟩
theorem Eo.ex {H H' : Hp} {a C : Addr} {fs : List (Str × V)} (e : Ex H H') (h : Eo H a C fs) : Eo H' a C fs := by obtain ⟨dd, h0, h1, h2⟩ := h; exact ⟨dd, h0, e _ _ h1, e _ _ h2⟩
def spI1 (C : Addr) (f : Str) : Sp := fun vs H Q _ => ∃ a x, vs = [.ref a, x] ∧ H a = some (exo a C none) ∧ ∀ dx, H dx = none → dx ≠ a → Q .non (upd (upd H dx (exd dx [(f, x)])) a (exo a C (some dx)))
def spI2 (C : Addr) (f g : Str) : Sp := fun vs H Q _ => ∃ a x y, vs = [.ref a, x, y] ∧ H a = some (exo a C none) ∧ ∀ dx, H dx = none → dx ≠ a → Q .non (upd (upd (upd H dx (exd dx [(f, x)])) a (exo a C (some dx))) dx (exd dx [(g, y), (f, x)]))
def spC1 (C : Addr) (f : Str) : Sp := fun vs H Q _ => ∃ x, vs = [x] ∧ ∀ a H', H a = none → Ex H H' → Eo H' a C [(f, x)] → Q (.ref a) H'
def spC2 (C : Addr) (f g : Str) : Sp := fun vs H Q _ => ∃ x y, vs = [x, y] ∧ ∀ a H', H a = none → Ex H H' → Eo H' a C [(g, y), (f, x)] → Q (.ref a) H'
theorem inits1 {C : Addr} {f : Str} : Inits C (spI1 C f) (spC1 C f) := by
  rintro vs H Q a ha ⟨x, rfl, q⟩
  refine ⟨by show 1 ≤ 1000; omega, a, x, rfl, upd_same, fun dx hd hne => ⟨rfl, q a _ ha (fun b o hb => ?_) ⟨dx, hne, upd_same, ?_⟩⟩⟩
  · have n1 : b ≠ a := fun e => by rw [e, ha] at hb; cases hb
    have n2 : b ≠ dx := fun e => by rw [e] at hb; rw [upd_ne hne, hb] at hd; cases hd
    rw [upd_ne n1, upd_ne n2, upd_ne n1]; exact hb
  · rw [upd_ne hne, upd_same]
theorem inits2 {C : Addr} {f g : Str} : Inits C (spI2 C f g) (spC2 C f g) := by
  rintro vs H Q a ha ⟨x, y, rfl, q⟩
  refine ⟨by show 2 ≤ 1000; omega, a, x, y, rfl, upd_same, fun dx hd hne => ⟨rfl, q a _ ha (fun b o hb => ?_) ⟨dx, hne, ?_, upd_same⟩⟩⟩
  · have n1 : b ≠ a := fun e => by rw [e, ha] at hb; cases hb
    have n2 : b ≠ dx := fun e => by rw [e] at hb; rw [upd_ne hne, hb] at hd; cases hd
    rw [upd_ne n2, upd_ne n1, upd_ne n2, upd_ne n1]; exact hb
  · rw [upd_ne hne.symm, upd_same]
/-! defs that raise nothing, called anywhere -/
structure FnQ (pg : Program) (w : World) (K : PySem.W.Frag) (mg : Str → Option Value) (bs : Heap) (cx : CXT) (k : Nat) (f : Addr) (fd : FuncData) (ps : List Str) (sp : Sp) : Prop where
  len : ∀ vs H Q E, sp vs H Q E → vs.length = ps.length
  run : ∀ (A : Around) (out : List Env) (s : Shared) (H : Hp) (ar : Args) (us : List Value) (vs : List V) (Q : VK) (E : XK),
    RoomH k A → Env0 pg w K mg bs A out s H → BindsTo s fd ar (ps.zip us) → Vals vs us → sp vs H Q E → codeAny (model pg w) A (.call (.ref f) ar) (CR cx out pg w H s Q E) s
section
variable {pg : Program} {w : World} {K : PySem.W.Frag} {mg : Str → Option Value} {bs : Heap}
theorem FnQ.cold {cx : CXT} {k : Nat} {f : Addr} {fd : FuncData} {ps : List Str} {sp : Sp} (F : FnQ pg w K mg bs cx k f fd ps sp) : FnG pg w K mg bs cx k f fd ps sp :=
  ⟨F.len, fun A out s H ar us vs Q E _ rm => F.run A out s H ar us vs Q E (roomH_of rm)⟩
def cxQ (cx : CXT) (pg : Program) (w : World) (K : PySem.W.Frag) (mg : Str → Option Value) (bs : Heap) (N : List Str) (q : Str) (sc : Scope) (f : Addr) (cd : Value) (A : Around) (out : List Env) (s : Shared) (H : Hp) (E : XK) : Cx :=
  { cxOf cx pg w K mg bs N q sc f cd A out s H E with calm := false }
theorem inv_startQ {cx : CXT} {N ps : List Str} {qual : Str} {sc : Scope} {f : Addr} {cd : Value} {A : Around} {out : List Env} {s s1 : Shared} {H : Hp} {E : XK} {us : List Value} {vs : List V}
    (S : FnScope N ps sc) (ev : Env0 pg w K mg bs A out s H) (hl : vs.length = ps.length) (r : Vals vs us)
    (x : InCallC s s.heap.objs.size (bindL (envOfC qual sc s.heap.objs.size f cd).kindOf (ps.zip us) fun _ => none) (cellsFrom (s.heap.objs.size + 1) sc.names []) (bindC (envOfC qual sc s.heap.objs.size f cd).kindOf (ps.zip us) fun _ => none) s1) :
    Inv (cxQ cx pg w K mg bs N qual sc f cd A out s H E) [] (start N vs) H s1 := by
  have J := inv_start (CX := cx) (E := E) (A := { A with handled := none }) S rfl ⟨ev.frames, ev.mod, ev.bs, ev.bsz, ev.funs, ev.frf, ev.hok, ev.bare⟩ hl r x
  have ok := J.ok
  exact ⟨⟨ok.mod, ok.kind, ok.glob, ok.blt, ok.above, ok.inj, ok.has, ok.cab, (fun z => absurd (show false = true from z) Bool.false_ne_true), Around.frames_deeper ev.frames, ok.stk, ok.exf, ok.bs, ok.bsz, ok.noex, ok.exfs, ok.funs, ok.frf⟩,
    J.os, J.bare, J.base, J.loc, J.cell, J.free, J.freeC, J.pin, J.hok, J.len⟩
theorem Fun.okQ {cx : CXT} {x q : Str} {st : Stmt} {f : Addr} {fd : FuncData} {N ps : List Str} {k : Nat} {sp : Sp} (F : Fun K x q st f fd)
    (S : FnScope N ps (defScope st)) (len : ∀ vs H Q E, sp vs H Q E → vs.length = ps.length)
    (hb : ∀ (cd : Value) (A : Around) (out : List Env) (s : Shared) (H : Hp) (vs : List V) (Q : VK) (E : XK), RoomH k (A.deeper (envOfC q (defScope st) s.heap.objs.size f cd)) → sp vs H Q E →
      ∃ t, PSs (cxQ cx pg w K mg bs N q (defScope st) f cd A out s H E) (defBody st) t ∧ t { nx := fun _ H' => Q .non H', rt := Q } (start N vs) H) :
    FnQ pg w K mg bs cx (k + 1) f fd ps sp := by
  obtain ⟨oc, od, kV, doc, pm, an, cd, ct, osl, rfl, lk, hcd⟩ := F.ex
  refine ⟨len, fun A out s H ar us vs Q E rm ev hbi rv hsp => ?_⟩
  have hle := len _ _ _ _ hsp
  have keepB : ∀ b o, bs.get? b = some o → s.heap.get? b = some o := fun b o z => (ev.bs b o z).1
  have KX : K.In s.heap := ev.mod.kin.keeps keepB
  have lim : s.heap.NoLimit := ev.mod.nolimit.keeps keepB
  have kinds : ∀ y ∈ ps.zip us, (defScope st).names.lookup y.1 = some .local ∨
      ((defScope st).names.lookup y.1 = some .cell ∧ ((cellsFrom (s.heap.objs.size + 1) (defScope st).names []).lookup y.1).isSome = true) := by
    rintro ⟨n, v⟩ hy
    rcases S.par n (List.of_mem_zip hy).1 with z | z
    · exact .inl z
    · exact .inr ⟨z, PySem.W.cellsFrom_some _ _ _ (.inl z)⟩
  have room := rm.depth
  refine codeAny_call_function room (KX _ _ lk) rfl S.co S.gen rfl (PySem.W.codeRec_of KX hcd) (hbi _ _ _ _ ?_)
  refine wpAny_newFunctionEnv_cells S.kind kinds fun env he s1 ic => ?_
  subst he
  refine ⟨lim.keeps ic.toInCall.keep, codeAny_func ?_⟩
  obtain ⟨t, ht, hq⟩ := hb cd A out s H vs Q E (rm.deeper _) hsp
  have J := inv_startQ (cx := cx) (E := E) S ev hle rv ic
  have done : ∀ {τ : L2.St} {G : Hp} {v : V} {u : Value} {s' : Shared}, Inv (cxQ cx pg w K mg bs N q (defScope st) f cd A out s H E) [] τ G s' → RelV v u → Q v G → CE out pg w H s Q u s' :=
    fun {τ G v u s'} J r z => ⟨v, G, J.os, J.bare, J.base, J.hok, r, z⟩
  refine wpAny_mono (ht.run [] s1 (start N vs) H _ J hq) (fun fl s' hs => ?_) fun e s' hs => hs
  cases fl with
  | ret u => exact (let ⟨_, _, _, J', rv', z⟩ := hs; done J' rv' z)
  | next => exact (let ⟨_, _, J', z⟩ := hs; done (v := V.non) (u := Value.none) J' rfl z)
  | brk => exact (let ⟨_, _, _, z⟩ := hs; False.elim z)
  | cont => exact (let ⟨_, _, _, z⟩ := hs; False.elim z)
end
section
variable {X : Cx} {cx : CXT} {k : Nat} {f : Addr} {fd : FuncData} {ps : List Str} {sp : Sp} {dvs : List V} {ds : List Value} {E : XK} {x : Str} {p pos : Pos} {e : Expr} {es : List Expr} {t : TA}
theorem pg_callQ (Fi : FnQ X.prog X.w X.K X.mg X.base cx k f fd ps sp) (rm : RoomH k X.A) (hg : Gl X x)
    (hm : X.mg x = some (.ref f)) (kp : PySem.W.keepIn X.K (.ref f) = true) (hb : Binds X.K fd ps ds) (hd : Vals dvs ds) (hx : Passes cx X E) (ha : PA X (e :: es) t)
    (hdb : (x == ("__debug__" : Str)) = false := by decide) (hst : starEach (e :: es) X.env = (false, eval e X.env) :: starEach es X.env := by rfl)
    (hpl : (backTo pos (starEach es X.env)).any (·.1) = false := by rfl) : PE X (.Call (.Name x p) (e :: es) [] pos) (tCall sp dvs E t) := by
  refine ⟨fun pins s σ H Q I h => wpAny_Call_Name_kw (ld_glob I hg hm ?_ hdb)⟩
  refine PySem.W.callWith_K (h₀ := X.base) I.ok.mod.kin kp (thn (ha.run pos pins s σ H _ I h) ?_) hst hpl
  rintro us s1 ⟨vs, H1, I1, r, q⟩
  have r2 := r.append hd
  have hl : (us ++ ds).length = ps.length := r2.length.symm.trans (Fi.len _ _ _ _ q)
  refine ⟨I1.kIn, wpAny_call (codeAny_mono (Fi.run X.A X.stack s1 H1 ⟨us, []⟩ _ _ Q E rm I1.env0 (hb s1 us I1.kIn hl) r2 q) fun res s' hq => ?_)⟩
  cases res with
  | error e => exact hx pins σ H1 s1 e s' I1 hq
  | ok fl =>
    cases fl with
    | ret u => exact I1.after hq
    | next => exact hq.elim
    | brk => exact hq.elim
    | cont => exact hq.elim
end
end GL

end
section
set_option Elab.async false
set_option linter.all false
set_option maxRecDepth 100000
set_option maxHeartbeats 4000000
/-! enumerate(zip(xs, ys)), unpacked by the loop. -/
namespace GL
open PySem
section
variable {prog : Program} {w : World} {A : Around} {E : Value → Shared → Prop} {s : Shared}
/-- enumerate's turn, whatever it draws from -/
theorem enum_any {e it : Addr} {i : Nat} {old : Value} {P : Value → Heap → Prop} {Q : Value → Shared → Prop} (he : IsEnum s.heap e it i old)
    (hn : ∀ R : Value → Shared → Prop, (∀ x h1, P x h1 → R x { s with heap := h1 }) → wpAny (model prog w) A (Builtin.SmallTypes.nextOf (.ref it)) R E s)
    (hp : ∀ x h1, P x h1 → IsEnum h1 e it i old)
    (hQ : ∀ x h1 h', P x h1 → IsEnumOut h' e it ((i : Int) + 1) x h1.objs.size → h'.get? h1.objs.size = some { cls := .type "tuple", data := .seq #[.int i s.toks, x] } → h'.objs.size = h1.objs.size + 1 →
      (∀ b o, b ≠ e → h1.get? b = some o → h'.get? b = some o) → Q (.ref h1.objs.size) { s with heap := h', toks := s.toks + 1 }) :
    wpAny (model prog w) A (Builtin.«enumerate.__next__» ⟨[.ref e], []⟩) (fun fin s' => ∃ v, fin = .done (.ret v) ∧ Q v s') E s := by
  obtain ⟨hp0, gs, dr, t0, os⟩ := s
  show wpAny _ _ (field (.ref e) 2 >>= _) _ _ _
  refine wpAny_bind (wpAny_field he rfl (x := .ref it) rfl (wpAny_bind (hn _ fun x h1 px => ?_)))
  have e1 : IsEnum h1 e it i old := hp x h1 px
  show wpAny _ _ (field (.ref e) 3 >>= _) _ _ ⟨h1, gs, dr, t0, os⟩
  refine wpAny_bind (wpAny_field e1 rfl (x := rawInt i) rfl ?_)
  show wpAny _ _ (field (.ref e) 4 >>= _) _ _ ⟨h1, gs, dr, t0, os⟩
  refine wpAny_bind (wpAny_field e1 rfl (x := .none) rfl ?_)
  show wpAny _ _ (mkInt i >>= _) _ _ ⟨h1, gs, dr, t0, os⟩
  refine wpAny_bind (wpAny_mkInt ?_)
  show wpAny _ _ (setField (.ref e) 3 (rawInt ((i : Int) + 1)) >>= _) _ _ ⟨h1, gs, dr, t0 + 1, os⟩
  refine wpAny_bind (wpAny_setField_rec e1 (by simp) fun h2 e2 k2 => ?_)
  replace k2 : Heap.SameBut e h1 h2 := k2
  replace e2 : IsEnum h2 e it ((i : Int) + 1) old := e2
  show wpAny _ _ (setField (.ref e) 4 .none >>= _) _ _ ⟨h2, gs, dr, t0 + 1, os⟩
  refine wpAny_bind (wpAny_setField_rec e2 (by simp) fun h3 e3 k3 => ?_)
  replace k3 : Heap.SameBut e h2 h3 := k3
  replace e3 : IsEnum h3 e it ((i : Int) + 1) old := e3
  show wpAny _ _ (newTuple [.int i t0, x] >>= _) _ _ ⟨h3, gs, dr, t0 + 1, os⟩
  refine wpAny_bind (wpAny_newTuple ?_)
  have z3 : h3.objs.size = h1.objs.size := by rw [k3.1, k2.1]
  have le : e < h1.objs.size := Heap.lt_size e1
  have e4 : IsEnum (h3.push { cls := .type "tuple", data := .seq #[.int i t0, x] }) e it ((i : Int) + 1) old := Heap.get?_push_of_some _ e3
  have t4 : (h3.push { cls := .type "tuple", data := .seq #[.int i t0, x] }).get? h1.objs.size = some { cls := .type "tuple", data := .seq #[.int i t0, x] } := by rw [← z3]; exact Heap.get?_push_size _ rfl
  have z4 : (h3.push { cls := .type "tuple", data := .seq #[.int i t0, x] }).objs.size = h1.objs.size + 1 := by rw [Heap.size_push, z3]
  have k4 : ∀ b o, b ≠ e → h1.get? b = some o → (h3.push { cls := .type "tuple", data := .seq #[.int i t0, x] }).get? b = some o := fun b o n q => Heap.get?_push_of_some _ (k3.extBut b o n (k2.extBut b o n q))
  show wpAny _ _ (Builtin.SmallTypes.ownedTupleIsFree (.ref e) >>= _) _ _ ⟨_, gs, dr, t0 + 1, os⟩
  rw [z3]
  generalize h3.push { cls := .type "tuple", data := .seq #[.int i t0, x] } = h4 at e4 t4 z4 k4
  refine wpAny_bind ?_
  unfold Builtin.SmallTypes.ownedTupleIsFree
  refine wpAny_bind (wpAny_field e4 rfl (x := .none) rfl (wpAny_pure ?_))
  simp only [if_true]
  refine wpAny_bind (wpAny_rule (wpAny_bind (wpAny_field e4 rfl (x := old) rfl ?_)))
  refine wpAny_bind (wpAny_setField_rec e4 (by simp) fun h5 e5 k5 => ?_)
  replace k5 : Heap.SameBut e h4 h5 := k5
  replace e5 : IsEnum h5 e it ((i : Int) + 1) x := e5
  show wpAny _ _ (Builtin.SmallTypes.ownedTupleHandOut (.ref e) (.ref h1.objs.size) >>= _) _ _ ⟨h5, gs, dr, t0 + 1, os⟩
  refine wpAny_bind ?_
  unfold Builtin.SmallTypes.ownedTupleHandOut
  refine wpAny_bind (wpAny_setField_rec e5 (by simp) fun h6 e6 k6 => ?_)
  replace k6 : Heap.SameBut e h5 h6 := k6
  replace e6 : IsEnumOut h6 e it ((i : Int) + 1) x h1.objs.size := e6
  refine wpAny_setField_rec e6 (by simp) fun h7 e7 k7 => ?_
  replace k7 : Heap.SameBut e h6 h7 := k7
  replace e7 : IsEnumOut h7 e it ((i : Int) + 1) x h1.objs.size := e7
  have up : ∀ b o, b ≠ e → h4.get? b = some o → h7.get? b = some o := fun b o n q => k7.extBut b o n (k6.extBut b o n (k5.extBut b o n q))
  refine wpAny_bind (wpAny_letGo (wpAny_pure ⟨_, rfl, hQ x h1 h7 px e7 (up _ _ (Nat.ne_of_gt le) t4) ?_ fun b o n q => up b o n (k4 b o n q)⟩))
  rw [k7.1, k6.1, k5.1, z4]
end
end GL

end
section
set_option Elab.async false
set_option linter.all false
set_option maxRecDepth 100000
set_option maxHeartbeats 4000000
namespace GL
open PySem PySem.Spec PySem.W
section
variable {prog : Program} {w : World} {A : Around} {E : Value → Shared → Prop} {s : Shared} {z TI TO i1 i2 l1 l2 : Addr} {k1 k2 : Nat} {xs ys : Array Value} {x y a b : Value}
def ZAt (h : Heap) (z TI TO : Addr) : Prop := IsZip h z TI TO .none ∨ ∃ T f oT, IsZipHeld h z TI TO T f ∧ h.get? T = some oT
theorem nextOf_zip {Q : Value → Shared → Prop} (D : ZipApart z TI TO i1 i2 l1 l2) (hz : ZAt s.heap z TI TO) (gI : IsPair s.heap TI (.ref i1) (.ref i2)) (gO : IsPair s.heap TO a b)
    (g1 : s.heap.IsListIter i1 l1 k1) (g2 : s.heap.IsListIter i2 l2 k2) (gx : s.heap.IsList l1 xs) (gy : s.heap.IsList l2 ys) (hx : xs[k1]? = some x) (hy : ys[k2]? = some y)
    (q : ∀ h' T f, IsZipHeld h' z TI TO T f → (T = s.heap.objs.size ∨ ∃ f0, IsZipHeld s.heap z TI TO T f0) → (∃ a b, IsPair h' TO a b) → h'.IsListIter i1 l1 (k1 + 1) → h'.IsListIter i2 l2 (k2 + 1) → IsPair h' s.heap.objs.size x y →
      h'.objs.size = s.heap.objs.size + 1 → (∀ c o, c ≠ z → c ≠ TO → c ≠ i1 → c ≠ i2 → s.heap.get? c = some o → h'.get? c = some o) → Q (.ref s.heap.objs.size) { s with heap := h' }) :
    wpAny (model prog w) A (Builtin.SmallTypes.nextOf (.ref z)) Q E s := by
  rcases hz with hz | ⟨T, f, oT, hz, hT⟩
  · have ty : s.TypeIs (.ref z) "zip" := ⟨_, hz, rfl⟩
    unfold Builtin.SmallTypes.nextOf
    refine wpAny_bind (wpAny_callSpecial?_slot (name := Str.ofString "__next__") ty F.slot_zip_next (wpAny_call_entry F.slot_zip_next ty F.entry_zip_next ?_ (F.args_zip_next_1 _)))
    exact zip_next_item D hz gI gO g1 g2 gx gy hx hy fun h' b1 b2 b3 b4 b5 b6 b7 => wpAny_pure (q h' _ false b1 (.inl rfl) ⟨_, _, b2⟩ b3 b4 b5 b6 b7)
  · have ty : s.TypeIs (.ref z) "zip" := ⟨_, hz, rfl⟩
    unfold Builtin.SmallTypes.nextOf
    refine wpAny_bind (wpAny_callSpecial?_slot (name := Str.ofString "__next__") ty F.slot_zip_next (wpAny_call_entry F.slot_zip_next ty F.entry_zip_next ?_ (F.args_zip_next_1 _)))
    exact zip_next_item_held D hz hT gI g1 g2 gx gy hx hy fun h' b1 b3 b4 b5 b6 b7 => wpAny_pure (q h' T true b1 (.inr ⟨f, hz⟩) ⟨_, _, b7 _ _ D.TOz D.TOi1 D.TOi2 gO⟩ b3 b4 b5 b6 fun c o c1 c2 c3 c4 => b7 c o c1 c3 c4)
theorem zip_end_at {Q : Fin → Shared → Prop} {T : Addr} {f : Bool} {oT : Obj} (hh : A.handled = none) (D : ZipApart z TI TO i1 i2 l1 l2) (gz : IsZipHeld s.heap z TI TO T f) (gT : s.heap.get? T = some oT) (gI : IsPair s.heap TI (.ref i1) (.ref i2))
    (g1 : s.heap.IsListIter i1 l1 k1) (g2 : s.heap.IsListIter i2 l2 k2) (gx : s.heap.IsList l1 xs) (gy : s.heap.IsList l2 ys) (ge : xs[k1]? = none ∨ ys[k2]? = none)
    (q : ∀ h' c, IsZipHeld h' z TI TO T true → (∀ c o, c ≠ z → c ≠ i1 → c ≠ i2 → s.heap.get? c = some o → h'.get? c = some o) → (∃ o, h'.get? c = some o ∧ o.cls = .type "StopIteration") → E (.ref c) { s with heap := h' }) :
    wpAny (model prog w) A (Builtin.«zip.__next__» ⟨[.ref z], []⟩) Q E s := by
  show wpAny _ _ (field (.ref z) 2 >>= _) _ _ _
  refine wpAny_bind (wpAny_field gz rfl (x := .bool false) rfl ?_)
  show wpAny _ _ (field (.ref z) 3 >>= _) _ _ _
  refine wpAny_bind (wpAny_field gz rfl (x := .ref TI) rfl (wpAny_bind (wpAny_seqItems gI rfl ?_)))
  show wpAny _ _ (Builtin.SmallTypes.ownedTupleIsFree (.ref z) >>= _) _ _ _
  refine wpAny_bind (wpAny_tupleHeld_zip gz gT fun m1 zm1 km1 => ?_)
  simp only [Bool.false_eq_true, if_false]
  refine wpAny_bind ?_
  rw [← Array.forIn_toList]
  simp only [List.forIn_cons, List.forIn_nil]
  refine wpAny_bind (wpAny_bind (wpAny_holding ?_))
  show wpAny _ _ (Builtin.SmallTypes.nextOf (.ref i1) >>= _) _ _ _
  cases hx : xs[k1]? with
  | none => exact wpAny_bind (wpAny_nextOf_list_end (s := { s with heap := m1 }) hh (g1.extBut km1.extBut D.i1z) (gx.extBut km1.extBut D.l1z) hx fun m2 c km2 hc =>
      q m2 c (km2 _ _ D.i1z.symm zm1) (fun d o d1 d2 _ r => km2 _ _ d2 (km1.extBut _ _ d1 r)) hc)
  | some x =>
    have hy : ys[k2]? = none := by
      rcases ge with g | g
      · rw [hx] at g; cases g
      · exact g
    refine wpAny_bind (wpAny_nextOf_list_item (s := { s with heap := m1 }) (g1.extBut km1.extBut D.i1z) (gx.extBut km1.extBut D.l1z) hx fun m2 it2 km2 => wpAny_pure (wpAny_pure ?_))
    refine wpAny_bind (wpAny_bind (wpAny_holding ?_))
    show wpAny _ _ (Builtin.SmallTypes.nextOf (.ref i2) >>= _) _ _ _
    exact wpAny_bind (wpAny_nextOf_list_end (s := { s with heap := m2 }) hh ((g2.extBut km1.extBut D.i2z).extBut km2.extBut D.i12.symm) ((gy.extBut km1.extBut D.l2z).extBut km2.extBut D.l2i1) hy fun m3 c km3 hc =>
      q m3 c (km3 _ _ D.i2z.symm (km2.extBut _ _ D.i1z.symm zm1)) (fun d o d1 d2 d3 r => km3 _ _ d3 (km2.extBut _ _ d2 (km1.extBut _ _ d1 r))) hc)
/-- enumerate's end over a zip -/
theorem pyNext_ez_end {e : Addr} {i : Int} {old : Value} {T : Addr} {f : Bool} {oT : Obj} {Q : Option Value → Shared → Prop} (hh : A.handled = none) (he : IsEnum s.heap e z i old) (D : ZipApart z TI TO i1 i2 l1 l2) (gz : IsZipHeld s.heap z TI TO T f) (gT : s.heap.get? T = some oT) (gI : IsPair s.heap TI (.ref i1) (.ref i2))
    (g1 : s.heap.IsListIter i1 l1 k1) (g2 : s.heap.IsListIter i2 l2 k2) (gx : s.heap.IsList l1 xs) (gy : s.heap.IsList l2 ys) (hn : xs[k1]? = none ∨ ys[k2]? = none)
    (q : ∀ h', IsZipHeld h' z TI TO T true → (∀ c o, c ≠ z → c ≠ i1 → c ≠ i2 → s.heap.get? c = some o → h'.get? c = some o) → Q none { s with heap := h' }) : wpAny (model prog w) A (pyNext (.ref e)) Q E s := by
  have ty : s.TypeIs (.ref e) "enumerate" := ⟨_, he, rfl⟩
  have tz : s.TypeIs (.ref z) "zip" := ⟨_, gz, rfl⟩
  unfold pyNext
  refine wpAny_bind (wpAny_attempt (wpAny_callSpecial?_slot (name := Str.ofString "__next__") ty F.slot_enumerate_next (wpAny_call_entry F.slot_enumerate_next ty F.entry_enumerate_next ?_ (F.args_enumerate_next_1 _))))
  show wpAny _ _ (field (.ref e) 2 >>= _) _ _ _
  refine wpAny_bind (wpAny_field he rfl (x := .ref z) rfl (wpAny_bind ?_))
  unfold Builtin.SmallTypes.nextOf
  refine wpAny_bind (wpAny_callSpecial?_slot (name := Str.ofString "__next__") tz F.slot_zip_next (wpAny_call_entry F.slot_zip_next tz F.entry_zip_next ?_ (F.args_zip_next_1 _)))
  refine zip_end_at hh D gz gT gI g1 g2 gx gy hn fun h' c bz k hc => ?_
  obtain ⟨o, ho, hcl⟩ := hc
  exact wpAny_bind (wpAny_isInstance (T := "StopIteration") (b := true) ⟨o, ho, hcl⟩ isSubtype_stop (wpAny_pure (q _ bz k)))
theorem pyNext_ez {e : Addr} {i : Nat} {old : Value} {Q : Option Value → Shared → Prop} (he : IsEnum s.heap e z i old) (D : ZipApart z TI TO i1 i2 l1 l2) (ez : e ≠ z) (eO : e ≠ TO) (e1 : e ≠ i1) (e2 : e ≠ i2) (hz : ZAt s.heap z TI TO) (gI : IsPair s.heap TI (.ref i1) (.ref i2)) (gO : IsPair s.heap TO a b)
    (g1 : s.heap.IsListIter i1 l1 k1) (g2 : s.heap.IsListIter i2 l2 k2) (gx : s.heap.IsList l1 xs) (gy : s.heap.IsList l2 ys) (hx : xs[k1]? = some x) (hy : ys[k2]? = some y)
    (q : ∀ h1 h' T f, IsZipHeld h1 z TI TO T f → (T = s.heap.objs.size ∨ ∃ f0, IsZipHeld s.heap z TI TO T f0) → (∃ a b, IsPair h1 TO a b) → h1.IsListIter i1 l1 (k1 + 1) → h1.IsListIter i2 l2 (k2 + 1) → IsPair h1 s.heap.objs.size x y →
      h1.objs.size = s.heap.objs.size + 1 → (∀ c o, c ≠ z → c ≠ TO → c ≠ i1 → c ≠ i2 → s.heap.get? c = some o → h1.get? c = some o) →
      IsEnumOut h' e z ((i : Int) + 1) (.ref s.heap.objs.size) (s.heap.objs.size + 1) → h'.get? (s.heap.objs.size + 1) = some { cls := .type "tuple", data := .seq #[.int i s.toks, .ref s.heap.objs.size] } → h'.objs.size = s.heap.objs.size + 2 →
      (∀ b o, b ≠ e → h1.get? b = some o → h'.get? b = some o) → Q (some (.ref (s.heap.objs.size + 1))) { s with heap := h', toks := s.toks + 1 }) : wpAny (model prog w) A (pyNext (.ref e)) Q E s := by
  have ty : s.TypeIs (.ref e) "enumerate" := ⟨_, he, rfl⟩
  unfold pyNext
  refine wpAny_bind (wpAny_attempt (wpAny_callSpecial?_slot (name := Str.ofString "__next__") ty F.slot_enumerate_next (wpAny_call_entry F.slot_enumerate_next ty F.entry_enumerate_next ?_ (F.args_enumerate_next_1 _))))
  refine enum_any (P := fun v h1 => v = .ref s.heap.objs.size ∧ ∃ T f, IsZipHeld h1 z TI TO T f ∧ (T = s.heap.objs.size ∨ ∃ f0, IsZipHeld s.heap z TI TO T f0) ∧ (∃ a b, IsPair h1 TO a b) ∧ h1.IsListIter i1 l1 (k1 + 1) ∧ h1.IsListIter i2 l2 (k2 + 1) ∧ IsPair h1 s.heap.objs.size x y ∧
      h1.objs.size = s.heap.objs.size + 1 ∧ ∀ c o, c ≠ z → c ≠ TO → c ≠ i1 → c ≠ i2 → s.heap.get? c = some o → h1.get? c = some o) he
    (fun R hR => nextOf_zip D hz gI gO g1 g2 gx gy hx hy fun h' T f b1 b2 b3 b4 b5 b6 b7 b8 => hR _ h' ⟨rfl, T, f, b1, b2, b3, b4, b5, b6, b7, b8⟩) (fun v h1 hp => ?_) fun v h1 h' hp o1 o2 o3 o4 => ?_
  · obtain ⟨_, T, f, _, _, _, _, _, _, _, b8⟩ := hp
    exact b8 _ _ ez eO e1 e2 he
  · obtain ⟨rfl, T, f, b1, b2, b3, b4, b5, b6, b7, b8⟩ := hp
    rw [b7] at o1 o2 o3 ⊢
    exact wpAny_pure (q h1 h' T f b1 b2 b3 b4 b5 b6 b7 b8 o1 o2 o3 o4)
end
end GL

end
section
set_option Elab.async false
set_option linter.all false
set_option maxRecDepth 100000
set_option maxHeartbeats 4000000
namespace GL
open PySem PySem.Spec PySem.W
theorem meets_ez (z TI TO : Addr) (f0 : Value) :
    Meets (Builtin.«enumerate.__new__» ⟨[.type "enumerate", .ref z], []⟩) (fun _ R s => IsZip s.heap z TI TO f0 ∧
      R (.ok (.ret (.ref s.heap.objs.size))) { s with heap := s.heap.push { cls := .type "enumerate", data := .fields #[.none, .bool false, .ref z, rawInt 0, .none, .none] } }) :=
  .of_wp fun prog w A R s h => by
    obtain ⟨hp, gs, dr, tk, os⟩ := s
    obtain ⟨hz, h⟩ := h
    have sb := sub_enumerate
    have it : ∀ {A : Around} {Q : Value → Shared → Prop} {E : Value → Shared → Prop}, Q (.ref z) ⟨hp, gs, dr, tk, os⟩ → wpAny (model prog w) A (pyIter (.ref z)) Q E ⟨hp, gs, dr, tk, os⟩ := fun q => wpAny_pyIter_zip hz q
    wp_walk using it
    refine wpAny_stack_any fun st => wpAny_pure ?_
    split
    · rename_i c _ _ _ _ _
      cases hc : (c == Value.type "enumerate")
      · wp_walk using it
        exact ⟨_, rfl, h⟩
      · wp_walk using it
        exact ⟨_, rfl, h⟩
    · wp_walk using it
      exact ⟨_, rfl, h⟩
section
variable {prog : Program} {w : World} {A : Around} {E : Value → Shared → Prop} {s : Shared}
theorem call_ez {z TI TO : Addr} {f0 : Value} {Q : Value → Shared → Prop} (hz : IsZip s.heap z TI TO f0)
    (h : ∀ h', IsEnum h' s.heap.objs.size z 0 .none → h'.objs.size = s.heap.objs.size + 1 → (∀ b o, s.heap.get? b = some o → h'.get? b = some o) → Q (.ref s.heap.objs.size) { s with heap := h' }) :
    wpAny (model prog w) A (call (.type "enumerate") [.ref z]) Q E s := by
  refine callType_new F.called_enumerate (by decide) (F.typeCall_enumerate_1 _) (F.newCall_enumerate_1 _) (fun obj => F.args_object_init_2 obj _) F.entry_enumerate_new (meets_ez z TI TO f0) ⟨hz, ?_⟩
  show _ ∧ _
  have g : IsEnum (s.heap.push { cls := .type "enumerate", data := .fields #[.none, .bool false, .ref z, rawInt 0, .none, .none] }) s.heap.objs.size z 0 .none := Heap.get?_push_size _ rfl
  exact ⟨⟨_, g, rfl⟩, h _ g (Heap.size_push ..) fun b o x => Heap.get?_push_of_some _ x⟩
end
end GL

end
section
set_option Elab.async false
set_option linter.all false
set_option maxRecDepth 100000
set_option maxHeartbeats 4000000
namespace GL
open PySem PySem.Spec PyProof.Rows L2
def zFree (z TI TO : Addr) : HO := .ext fun h => IsZip h z TI TO .none
def zHeld (z TI TO T : Addr) : HO := .ext fun h => ∃ f, IsZipHeld h z TI TO T f
def Zst (z TI TO : Addr) (H : Hp) : Prop := H z = some (zFree z TI TO) ∨ ∃ T xs, H z = some (zHeld z TI TO T) ∧ H T = some (.tup xs)
def Itez (K : PySem.W.Frag) (a b z TI TO : Addr) : It :=
  ⟨fun i H => Zst z TI TO H ∧ ∃ (xs ys : List V) (x y : V), SqL K H a xs ∧ SqL K H b ys ∧ xs[i]? = some x ∧ ys[i]? = some y,
    fun i H v H' => ∃ P T x y zo, v = .ref P ∧ H P = none ∧ H T = none ∧ T ≠ P ∧ H' = upd (upd (upd H z zo) T (.tup [x, y])) P (.tup [.int (i : Nat), .ref T]) ∧ (∃ T ts, H' z = some (zHeld z TI TO T) ∧ H' T = some (.tup ts)) ∧ (∀ xs, SqL K H a xs → xs[i]? = some x) ∧ ∀ ys, SqL K H b ys → ys[i]? = some y,
    fun i H => (∃ T xs, H z = some (zHeld z TI TO T) ∧ H T = some (.tup xs)) ∧ ∃ xs ys : List V, SqL K H a xs ∧ SqL K H b ys ∧ (xs.length ≤ i ∨ ys.length ≤ i)⟩
theorem zst_at {X : Cx} {pins : List (Addr × Obj)} {σ : L2.St} {H : Hp} {s : Shared} {z TI TO : Addr} (I : Inv X pins σ H s) (h : Zst z TI TO H) : ZAt s.heap z TI TO := by
  rcases h with h | ⟨T, xs, h, hT⟩
  · exact .inl (I.hok z _ h).1
  · obtain ⟨f, q⟩ := (I.hok z _ h).1
    have hO : ObjOk X.prog X.w H s.heap T (.tup xs) := I.hok T _ hT
    obtain ⟨_, its, rv, o, h1, _⟩ := hO
    exact .inr ⟨T, f, o, q, h1⟩
theorem turn_ez {P : Program} {w : World} {K : PySem.W.Frag} {elts : List Expr} {kk : Nat} {tpos : Pos} {a b e z TI TO i1 i2 : Addr} (D : ZipApart z TI TO i1 i2 a b) (ez : e ≠ z) (eI : e ≠ TI) (eO : e ≠ TO) (e1 : e ≠ i1) (e2 : e ≠ i2) :
    Turn P w K (.Tuple elts kk tpos) (Itez K a b z TI TO) [e, TI, TO, i1, i2] e (fun i h => (∃ old, IsEnum h e z ((i : Nat) : Int) old) ∧ IsPair h TI (.ref i1) (.ref i2) ∧ (∃ x y, IsPair h TO x y) ∧ h.IsListIter i1 a i ∧ h.IsListIter i2 b i) where
  mem := by simp
  obj := fun i h st c hc => by
    obtain ⟨⟨old, he⟩, hI, ⟨x, y, hO⟩, ⟨o1, g1, _, d1⟩, ⟨o2, g2, _, d2⟩⟩ := st
    have h5 : c = e ∨ c = TI ∨ c = TO ∨ c = i1 ∨ c = i2 := by simpa using hc
    rcases h5 with rfl | rfl | rfl | rfl | rfl
    · exact ⟨_, he, fun v q => nomatch q⟩
    · exact ⟨_, hI, fun v q => nomatch q⟩
    · exact ⟨_, hO, fun v q => nomatch q⟩
    · exact ⟨o1, g1, fun v q => by rw [d1] at q; cases q⟩
    · exact ⟨o2, g2, fun v q => by rw [d2] at q; cases q⟩
  keep := fun i h h' st k => by
    obtain ⟨⟨old, he⟩, hI, ⟨x, y, hO⟩, h1, h2⟩ := st
    exact ⟨⟨old, k e (by simp) _ he⟩, k TI (by simp) _ hI, ⟨x, y, k TO (by simp) _ hO⟩, h1.at fun o q => k i1 (by simp) o q, h2.at fun o q => k i2 (by simp) o q⟩
  item := by
    intro X hP hw hK hc i pins s σ H E I hf st hg
    subst hP hw hK
    obtain ⟨⟨old, he⟩, hI, ⟨x0, y0, hO⟩, h1, h2⟩ := st
    obtain ⟨hz, xs, ys, x, y, qx, qy, hx, hy⟩ := hg
    obtain ⟨its, rv, p1, _⟩ := I.list qx
    obtain ⟨its2, rv2, p2, _⟩ := I.list qy
    obtain ⟨u, hu, ru⟩ := rv.get hx
    obtain ⟨u2, hu2, ru2⟩ := rv2.get hy
    have hZ := zst_at I hz
    have zl : z < s.heap.objs.size := by
      rcases hZ with q | ⟨_, _, _, q, _⟩
      · exact Heap.lt_size q
      · exact Heap.lt_size q
    refine pyNext_ez he D ez eO e1 e2 hZ hI hO h1 h2 p1.isList p2.isList (x := u) (y := u2) (by simpa using hu) (by simpa using hu2) fun g1 g2 T f b1 b2 b3 b4 b5 b6 b7 b8 o1 o2 o3 o4 => ?_
    refine ⟨_, rfl, wpAny_letOwnedTupleGo_enum (s := { s with heap := g2, toks := s.toks + 1 }) o1 fun g3 e3 sb => ?_⟩
    have el : e < s.heap.objs.size := Heap.lt_size he
    have up : ∀ c o, c ≠ e → g1.get? c = some o → g3.get? c = some o := fun c o n q => (sb.2 c n).trans (o4 c o n q)
    have n1 : H s.heap.objs.size = none := I.hok.fresh (Nat.le_refl _)
    have n2 : H (s.heap.objs.size + 1) = none := I.hok.fresh (Nat.le_succ _)
    have ne12 : s.heap.objs.size ≠ s.heap.objs.size + 1 := Nat.ne_of_lt (Nat.lt_succ_self _)
    have old3 : ∀ c o, c ∉ [e, TI, TO, i1, i2] → c ≠ z → s.heap.get? c = some o → g3.get? c = some o := fun c o hc nz q => up c o (fun z' => hc (by simp [z'])) (b8 c o nz (fun z' => hc (by simp [z'])) (fun z' => hc (by simp [z'])) (fun z' => hc (by simp [z'])) q)
    have lt_of : ∀ c, c ∈ [e, TI, TO, i1, i2] → c < s.heap.objs.size := fun c hc => by
      have h5 : c = e ∨ c = TI ∨ c = TO ∨ c = i1 ∨ c = i2 := by simpa using hc
      rcases h5 with rfl | rfl | rfl | rfl | rfl
      · exact el
      · exact Heap.lt_size hI
      · exact Heap.lt_size hO
      · obtain ⟨_, q, _⟩ := h1; exact Heap.lt_size q
      · obtain ⟨_, q, _⟩ := h2; exact Heap.lt_size q
    have zs : ∃ ob, H z = some ob := by rcases hz with q | ⟨_, _, q, _⟩ <;> exact ⟨_, q⟩
    obtain ⟨zob, hzob⟩ := zs
    have T3 : g3.get? s.heap.objs.size = some { cls := .type "tuple", data := .seq #[u, u2] } := up _ _ (Nat.ne_of_gt el) b6
    have P3 : g3.get? (s.heap.objs.size + 1) = some { cls := .type "tuple", data := .seq #[.int i s.toks, .ref s.heap.objs.size] } := (sb.2 _ (Nat.ne_of_gt (Nat.lt_succ_of_lt el))).trans o2
    have z3 : IsZipHeld g3 z TI TO T f := up _ _ ez.symm b1
    let H' : Hp := upd (upd (upd H z (zHeld z TI TO T)) s.heap.objs.size (.tup [x, y])) (s.heap.objs.size + 1) (.tup [.int (i : Nat), .ref s.heap.objs.size])
    have nzT : z ≠ s.heap.objs.size := Nat.ne_of_lt zl
    have nzP : z ≠ s.heap.objs.size + 1 := Nat.ne_of_lt (Nat.lt_succ_of_lt zl)
    have hz' : H' z = some (zHeld z TI TO T) := by show upd (upd (upd H z _) _ _) _ _ z = _; rw [upd_ne nzP, upd_ne nzT, upd_same]
    have hT' : H' s.heap.objs.size = some (.tup [x, y]) := by show upd (upd (upd H z _) _ _) _ _ _ = _; rw [upd_ne ne12, upd_same]
    have hP' : H' (s.heap.objs.size + 1) = some (.tup [.int (i : Nat), .ref s.heap.objs.size]) := upd_same
    have ho' : ∀ c, c ≠ z → c ≠ s.heap.objs.size → c ≠ s.heap.objs.size + 1 → H' c = H c := fun c a1 a2 a3 => by show upd (upd (upd H z _) _ _) _ _ c = _; rw [upd_ne a3, upd_ne a2, upd_ne a1]
    have zext : ∀ {o : HO}, H z = some o → ∃ φ, o = .ext φ := fun {o} q => by
      rcases hz with q' | ⟨_, _, q', _⟩ <;> (rw [q] at q'; cases q'; exact ⟨_, rfl⟩)
    have keepT : ∀ c xs, H c = some (.tup xs) → H' c = some (.tup xs) := fun c xs q => by
      refine (ho' c (fun z' => ?_) (fun z' => ?_) fun z' => ?_).trans q
      · rw [z'] at q; obtain ⟨φ, r⟩ := zext q; cases r
      · rw [z', n1] at q; cases q
      · rw [z', n2] at q; cases q
    have Z' : ∃ T ts, H' z = some (zHeld z TI TO T) ∧ H' T = some (.tup ts) := by
      refine ⟨T, ?_⟩
      rcases b2 with rfl | ⟨f0, b2⟩
      · exact ⟨_, hz', hT'⟩
      · rcases hz with q | ⟨T0, xs0, q, qT⟩
        · have r : IsZip s.heap z TI TO .none := (I.hok z _ q).1
          have r2 := r.symm.trans b2
          simp [rawInt] at r2
        · obtain ⟨f1, r⟩ := (I.hok z _ q).1
          have r2 := r.symm.trans b2
          have e0 : T0 = T := by
            simp [rawInt] at r2
            exact Int.ofNat.inj r2.1
          subst e0
          exact ⟨xs0, hz', keepT _ _ qT⟩
    have hok3 : HOk X.prog X.w H' g3 := fun c o q => by
      by_cases cz : c = z
      · subst cz
        rw [hz'] at q
        cases q
        exact ⟨⟨f, z3⟩, ⟨_, z3⟩, fun h1 h2 ⟨f1, r⟩ k => ⟨f1, k _ r⟩⟩
      by_cases cT : c = s.heap.objs.size
      · subst cT
        rw [hT'] at q
        cases q
        exact ⟨by show 2 ≤ sizeLine; decide, [u, u2], .cons ru (.cons ru2 .nil), ⟨_, T3, rfl, _, rfl⟩⟩
      by_cases cP : c = s.heap.objs.size + 1
      · subst cP
        rw [hP'] at q
        cases q
        exact ⟨by show 2 ≤ sizeLine; decide, [.int i s.toks, .ref s.heap.objs.size], .cons ⟨_, rfl⟩ (.cons rfl .nil), ⟨_, P3, rfl, _, rfl⟩⟩
      rw [ho' c cz cT cP] at q
      have ncf : ∀ d o', H d = some o' → d ∉ [e, TI, TO, i1, i2] := fun d o' r m => by rw [(hf d m).1] at r; cases r
      refine (I.hok c o q).stay (fun d v hd r => ?_) (fun d r => ?_) (fun d xs r => keepT d xs r)
      · rcases hd with rfl | hd
        · exact old3 _ _ (ncf _ _ q) cz r
        · refine old3 _ _ (ncf _ _ hd) (fun z' => ?_) r
          rw [z'] at hd; obtain ⟨φ, r2⟩ := zext hd; cases r2
      · refine (ho' d (fun z' => ?_) (fun z' => ?_) fun z' => ?_).trans r
        · rw [z'] at r; obtain ⟨φ, r2⟩ := zext r; cases r2
        · rw [z', n1] at r; cases r
        · rw [z', n2] at r; cases r
    have J : Inv X pins σ H' { s with heap := g3, toks := s.toks + 1 } := by
      refine I.step (g' := s.gens) (d' := s.drawn) (ch := [e, TI, TO, i1, i2]) (fun c hc => ⟨(hf c hc).2.2.2.1, (hf c hc).2.1, (hf c hc).2.2.2.2.1, (hf c hc).2.2.2.2.2⟩)
        (fun c o _ _ hc q n => old3 c o hc (fun z' => by rw [z', hzob] at n; cases n) q) (fun c o _ _ hc q n => ⟨o.slots, old3 c o hc (fun z' => by rw [z', hzob] at n; cases n) q⟩)
        (fun c o hc q n => ?_) (fun c o hc q => ?_) (fun c xs q => keepT c xs q) (fun c o u q => ?_) (fun c ps q => ⟨#[], ?_⟩) (fun m hm => ?_) hok3 I.bare
      · have cl := Heap.lt_size q
        rw [ho' c (fun z' => by rw [z', hzob] at n; cases n) (Nat.ne_of_lt cl) (Nat.ne_of_lt (Nat.lt_succ_of_lt cl))]; exact n
      · by_cases cz : c = z
        · subst cz; exact ⟨_, z3⟩
        · exact ⟨o, old3 c o hc cz q⟩
      · refine (ho' c (fun z' => ?_) (fun z' => ?_) fun z' => ?_).trans q
        · rw [z'] at q; obtain ⟨φ, r⟩ := zext q; cases r
        · rw [z', n1] at q; cases q
        · rw [z', n2] at q; cases q
      · have e' : H' c = H c := ho' c (fun z' => by rw [z'] at q; obtain ⟨φ, r⟩ := zext q; cases r) (fun z' => by rw [z', n1] at q; cases q) (fun z' => by rw [z', n2] at q; cases q)
        rw [e', q]; simp
      · obtain ⟨o, es, ep, ho, r⟩ := hm
        exact ⟨o, es, ep, old3 _ o (fun z' => (hf _ z').2.1 rfl) (fun z' => by have q := I.free; rw [z', hzob] at q; cases q) ho, r⟩
    refine ⟨.ref (s.heap.objs.size + 1), H', J, rfl, ⟨_, s.heap.objs.size, x, y, _, rfl, n2, n1, ne12, rfl, Z', fun l r => by rw [I.list_inj r qx]; exact hx, fun l r => by rw [I.list_inj r qy]; exact hy⟩, ⟨⟨.ref s.heap.objs.size, ?_⟩, ?_, ?_, ?_, ?_⟩, fun c hc => ?_⟩
    · have e1 : ((i + 1 : Nat) : Int) = (i : Int) + 1 := by omega
      rw [e1]; exact e3
    · exact up _ _ eI.symm (b8 _ _ D.TIz D.TITO D.TIi1 D.TIi2 hI)
    · obtain ⟨a', b', q⟩ := b3
      exact ⟨a', b', up _ _ eO.symm q⟩
    · exact b4.at fun o q => up _ o e1.symm q
    · exact b5.at fun o q => up _ o e2.symm q
    · have cl := lt_of c hc
      rw [ho' c (fun z' => by have q := (hf c hc).1; rw [z', hzob] at q; cases q) (Nat.ne_of_lt cl) (Nat.ne_of_lt (Nat.lt_succ_of_lt cl))]
      exact (hf c hc).1
  done := by
    intro X hP hw hK hc i pins s σ H E I hf st hg
    subst hP hw hK
    obtain ⟨⟨old, he⟩, hI, ⟨x0, y0, hO⟩, h1, h2⟩ := st
    obtain ⟨⟨T, ts, hz, hT⟩, xs, ys, qx, qy, hend⟩ := hg
    obtain ⟨its, rv, p1, _⟩ := I.list qx
    obtain ⟨its2, rv2, p2, _⟩ := I.list qy
    have l1 := rv.length
    have l2 := rv2.length
    have hn : its.toArray[i]? = none ∨ its2.toArray[i]? = none := by
      rcases hend with q | q
      · exact .inl (by simp; omega)
      · exact .inr (by simp; omega)
    obtain ⟨f, gz⟩ := (I.hok z _ hz).1
    have hO2 : ObjOk X.prog X.w H s.heap T (.tup ts) := I.hok T _ hT
    obtain ⟨_, _, _, oT, gT, _⟩ := hO2
    have hd : X.A.handled = none := I.ok.hd hc
    refine pyNext_ez_end hd he D gz gT hI h1 h2 p1.isList p2.isList hn fun g bz k => ⟨rfl, ?_⟩
    have ncf : ∀ d o', H d = some o' → d ∉ [e, TI, TO, i1, i2] := fun d o' r m => by rw [(hf d m).1] at r; cases r
    have k' : ∀ c o, c ∉ [e, TI, TO, i1, i2] → c ≠ z → s.heap.get? c = some o → g.get? c = some o := fun c o hc nz r => k c o nz (fun z' => hc (by simp [z'])) (fun z' => hc (by simp [z'])) r
    refine I.step (g' := s.gens) (d' := s.drawn) (t' := s.toks) (ch := [e, TI, TO, i1, i2]) (fun c hc => ⟨(hf c hc).2.2.2.1, (hf c hc).2.1, (hf c hc).2.2.2.2.1, (hf c hc).2.2.2.2.2⟩)
      (fun c o _ _ hc q n => k' c o hc (fun z' => by rw [z', hz] at n; cases n) q) (fun c o _ _ hc q n => ⟨o.slots, k' c o hc (fun z' => by rw [z', hz] at n; cases n) q⟩)
      (fun c o hc q n => n) (fun c o hc q => ?_) (fun c xs q => q) (fun c o u q => q) (fun c ps q => ⟨#[], by rw [q]; simp⟩) (fun m hm => ?_) (fun c o q => ?_) I.bare
    · by_cases cz : c = z
      · subst cz; exact ⟨_, bz⟩
      · exact ⟨o, k' c o hc cz q⟩
    · obtain ⟨o, es, ep, ho, r⟩ := hm
      exact ⟨o, es, ep, k' _ o (fun z' => (hf _ z').2.1 rfl) (fun z' => by have q := I.free; rw [z', hz] at q; cases q) ho, r⟩
    · by_cases cz : c = z
      · subst cz
        rw [hz] at q
        cases q
        exact ⟨⟨true, bz⟩, ⟨_, bz⟩, fun h1 h2 ⟨f1, r⟩ k => ⟨f1, k _ r⟩⟩
      · refine (I.hok c o q).stay (fun d v hd r => ?_) (fun d r => r) (fun d xs r => r)
        rcases hd with rfl | hd
        · exact k' _ _ (ncf _ _ q) cz r
        · refine k' _ _ (ncf _ _ hd) (fun z' => ?_) r
          rw [z', hz] at hd; cases hd
  self := fun A i s Q E st h => let ⟨⟨_, he⟩, _⟩ := st; wpAny_pyIter_enum he h
end GL

end
section
set_option Elab.async false
set_option linter.all false
set_option maxRecDepth 100000
set_option maxHeartbeats 4000000
namespace GL
open PySem PySem.Spec PyProof.Rows L2
def iEZ (K : PySem.W.Frag) (ta : TA) : TI := fun σ H R => ta σ H fun vs H1 => ∃ a b xs ys, vs = [.ref a, .ref b] ∧ SqL K H1 a xs ∧ SqL K H1 b ys ∧ ∀ z TI TO, H1 z = none → R (Itez K a b z TI TO) (upd H1 z (zFree z TI TO))
theorem pi_ez {X : Cx} {e e2 : Expr} {ta : TA} {p p2 pos pos2 tpos : Pos} {elts : List Expr} {kk : Nat} (hg : Gl X "enumerate") (hm : X.mg "enumerate" = none) (hg2 : Gl X "zip") (hm2 : X.mg "zip" = none) (ha : PA X [e, e2] ta)
    (hs : starEach [e, e2] X.env = (false, eval e X.env) :: starEach [e2] X.env := by rfl) (hpl : (backTo pos2 (starEach [e2] X.env)).any (·.1) = false := by rfl)
    (hs1 : starEach [.Call (.Name "zip" p2) [e, e2] [] pos2] X.env = [(false, eval (.Call (.Name "zip" p2) [e, e2] [] pos2) X.env)] := by rfl) :
    PI X (.Tuple elts kk tpos) (.Call (.Name "enumerate" p) [.Call (.Name "zip" p2) [e, e2] [] pos2] [] pos) (iEZ X.K ta) := by
  refine ⟨fun pins s σ H R I h => ?_⟩
  refine Call_ (ld_blt I hg hm boot_enumerate (PyProof.Rows.callWith_type1 ?_ hs1 rfl))
  rw [hs1]
  show wpAny _ _ (spliced ((false, _) :: [])) _ _ s
  refine Calls.spliced_cons ?_
  show wpAny _ _ (eval _ X.env) _ _ s
  refine (Call_ (ld_blt I hg2 hm2 PyProof.Rows.boot_zip (PyProof.Rows.callWith_type1 (thn (ha.run pos2 pins s σ H _ I h) fun us s1 ⟨vs, H1, I1, r1, q1⟩ => ?_) hs hpl)))
  obtain ⟨a, b, xs, ys, rfl, hqx, hqy, q⟩ := q1
  cases r1 with
  | cons r rr =>
    cases rr with
    | cons r' rr =>
      cases rr
      cases r
      cases r'
      obtain ⟨its, rv, p1, _⟩ := I1.list hqx
      obtain ⟨its2, rv2, p2', _⟩ := I1.list hqy
      have la : a < s1.heap.objs.size := p1.lt
      have lb : b < s1.heap.objs.size := p2'.lt
      refine call_zip_2 p1.isList p2'.isList fun h' hz hTI hTO h1 h2 hsz hk => ?_
      refine Calls.spliced_nil ?_
      refine call_ez (s := { s1 with heap := h' }) hz fun h2' he hsz2 hk2 => wpAny_pyIter_enum he ?_
      have kk2 : ∀ c o, s1.heap.get? c = some o → h2'.get? c = some o := fun c o r => hk2 c o (hk c o r)
      have hz2 : IsZip h2' (s1.heap.objs.size + 4) (s1.heap.objs.size + 2) (s1.heap.objs.size + 3) .none := hk2 _ _ hz
      have zn : H1 (s1.heap.objs.size + 4) = none := I1.hok.fresh (Nat.le_add_right _ _)
      have J : Inv X pins σ (upd H1 (s1.heap.objs.size + 4) (zFree (s1.heap.objs.size + 4) (s1.heap.objs.size + 2) (s1.heap.objs.size + 3))) { s1 with heap := h2' } :=
        I1.laid (t' := s1.toks) (a := s1.heap.objs.size + 4) kk2 (Nat.le_add_right _ _) ⟨hz2, ⟨_, hz2⟩, fun g1 g2 r k => k _ r⟩
      have es : ({ s1 with heap := h' } : Shared).heap.objs.size = s1.heap.objs.size + 5 := hsz
      rw [es] at he ⊢
      have ne5 : ∀ j, j < 5 → s1.heap.objs.size + 5 ≠ s1.heap.objs.size + j := fun j hj => by
        generalize s1.heap.objs.size = n0
        omega
      have D := PySem.W.ktu_apart s1.heap.objs.size a b la lb
      refine ⟨s1.heap.objs.size + 5, [s1.heap.objs.size + 5, s1.heap.objs.size + 2, s1.heap.objs.size + 3, s1.heap.objs.size, s1.heap.objs.size + 1], _, _, _, rfl, J, turn_ez D (ne5 4 (by decide)) (ne5 2 (by decide)) (ne5 3 (by decide)) (ne5 0 (by decide)) (ne5 1 (by decide)),
        ⟨⟨.none, he⟩, hk2 _ _ hTI, ⟨_, _, hk2 _ _ hTO⟩, h1.at fun o r => hk2 _ o r, h2.at fun o r => hk2 _ o r⟩, fun c hc => ?_, q _ _ _ zn⟩
      have h5 : c = s1.heap.objs.size + 5 ∨ c = s1.heap.objs.size + 2 ∨ c = s1.heap.objs.size + 3 ∨ c = s1.heap.objs.size ∨ c = s1.heap.objs.size + 1 := by simpa using hc
      have ne4 : ∀ j, j ≠ 4 → s1.heap.objs.size + j ≠ s1.heap.objs.size + 4 := fun j hj => by
        generalize s1.heap.objs.size = n0
        omega
      have hle : s1.heap.objs.size ≤ c ∧ c ≠ s1.heap.objs.size + 4 := by
        rcases h5 with rfl | rfl | rfl | rfl | rfl
        · exact ⟨Nat.le_add_right _ _, ne4 5 (by decide)⟩
        · exact ⟨Nat.le_add_right _ _, ne4 2 (by decide)⟩
        · exact ⟨Nat.le_add_right _ _, ne4 3 (by decide)⟩
        · exact ⟨Nat.le_refl _, ne4 0 (by decide)⟩
        · exact ⟨Nat.le_add_right _ _, ne4 1 (by decide)⟩
      refine I1.fpOk hle.1 ?_
      rw [upd_ne hle.2]
      exact I1.hok.fresh hle.1
end GL

end
section
set_option Elab.async false
set_option linter.all false
set_option maxRecDepth 100000
set_option maxHeartbeats 4000000
namespace GL
open PySem PySem.Spec PyProof.Rows L2
def clsB (K : PySem.W.Frag) (C : Addr) : Bool :=
  decide (PySem.W.findIn K (.ref C) "__setattr__" = some (some (.builtin "object.__setattr__"))) && decide (PySem.W.subIn K (.ref C) (.type "BaseException") = some true) &&
  decide (PySem.W.typeIn K (.ref C) = some (.type "type")) && PySem.W.keepIn K (.ref C) && decide (PySem.W.findIn K (.ref C) "__getattribute__" = some (some (.builtin "BaseException.__getattribute__"))) &&
  decide (PySem.W.findIn K (.ref C) "__getattr__" = some none) && PySem.W.hasDictIn K C && decide (PySem.W.findIn K (.ref C) "__class__" = some (some (.builtin "object.__class__"))) &&
  decide (PySem.W.mroIn K C (.type "object") = some true) && decide (PySem.W.specialIn K (.builtin "object.__class__") "__get__" = some (some (.builtin "getset_descriptor.__get__"))) && decide (PySem.W.takesIn K (.builtin "object.__class__") = some true)
theorem clsX_of {K : PySem.W.Frag} {C : Addr} {nm q : Str} {N : Addr} {bs bm : List Value} {sn : List Str} {sub : List Value} {ab : Bool} {col : Option Bool} {dd : Option Addr} {k0 k1 k2 k3 k5 : Option Value}
    (l : K.lookup C = some (excClassObj nm q C N bs bm true sn sub ab col dd k0 k1 k2 k3 k5 "ValueError.__new__")) (r : PySem.HandSPX.refsVE bm = true) (h : clsB K C = true) : ClsX K C := by
  unfold clsB at h
  simp only [Bool.and_eq_true, decide_eq_true_eq] at h
  obtain ⟨⟨⟨⟨⟨⟨⟨⟨⟨⟨h1, h2⟩, h3⟩, h4⟩, h5⟩, h6⟩, h7⟩, h8⟩, h9⟩, h10⟩, h11⟩ := h
  exact ⟨⟨⟨_, _, _, _, _, _, _, _, _, _, _, _, _, _, _, l, r⟩, h1, h2, h3, h4⟩, h5, h6, h7, h8, h9, h10, h11⟩
def matB (K : PySem.W.Frag) (cs : Nat → Addr) (n : Nat) (t : Nat → Nat → Bool) : Bool := (List.range n).all fun i => (List.range n).all fun j => decide (PySem.W.kitOne K (.ref (cs i)) (.ref (cs j)) = some (t i j))
theorem mat_ok {K : PySem.W.Frag} {cs : Nat → Addr} {n : Nat} {t : Nat → Nat → Bool} (h : matB K cs n t = true) (i j : Nat) (hi : i < n) (hj : j < n) : PySem.W.kitOne K (.ref (cs i)) (.ref (cs j)) = some (t i j) := by
  have h1 := List.all_eq_true.mp h i (List.mem_range.mpr hi)
  exact of_decide_eq_true (List.all_eq_true.mp h1 j (List.mem_range.mpr hj))
def bltB (K : PySem.W.Frag) (cs : Nat → Addr) (n : Nat) (v : Value) : Bool := (List.range n).all fun i => decide (PySem.W.kitOne K (.ref (cs i)) v = some true)
theorem blt_ok {K : PySem.W.Frag} {cs : Nat → Addr} {n : Nat} {v : Value} (h : bltB K cs n v = true) (i : Nat) (hi : i < n) : PySem.W.kitOne K (.ref (cs i)) v = some true := of_decide_eq_true (List.all_eq_true.mp h i (List.mem_range.mpr hi))
def noB (K : PySem.W.Frag) (cs : Nat → Addr) (n : Nat) (vs : List Value) : Bool := (List.range n).all fun i => decide (PySem.W.kitAny K (.ref (cs i)) vs = some false)
theorem no_ok {K : PySem.W.Frag} {cs : Nat → Addr} {n : Nat} {vs : List Value} (h : noB K cs n vs = true) (i : Nat) (hi : i < n) : PySem.W.kitAny K (.ref (cs i)) vs = some false := of_decide_eq_true (List.all_eq_true.mp h i (List.mem_range.mpr hi))
def gcI {α : Type} (us ws : List α) : List α := ws
def gcI2 {α : Type} (us ws : List α) : List α := match ws with
  | [w0, w1] => [w1, w0]
  | _ => []
theorem hrc {zs : List V} {ws : List Value} (h : zs.length = 1) (r : Vals zs ws) : Vals (gcI [] zs) (gcI [] ws) := r
theorem hrc2 {zs : List V} {ws : List Value} (h : zs.length = 2) (r : Vals zs ws) : Vals (gcI2 [] zs) (gcI2 [] ws) := match zs, ws, r, h with
  | [_, _], [_, _], .cons r0 (.cons r1 .nil), _ => .cons r1 (.cons r0 .nil)
/-- !=: a list and the empty list; or data -/
def rNeX (K : PySem.W.Frag) : R2 := fun x y H Q => (∃ (a b : Addr) (xs : List V), x = .ref a ∧ y = .ref b ∧ H a = some (.lst xs) ∧ H b = some (.lst []) ∧ xs = [] ∧ Q (.bl false) H) ∨ rNeD K x y H Q
theorem op_neX {X : Cx} (hu : X.A.units + 64 < cLine) : OpR X (compareOp .NotEq) (rNeX X.K) := by
  intro pins s σ H x y v u Q I rx ry h
  rcases h with ⟨a, b, xs, rfl, rfl, ha, hb, rfl, q⟩ | h
  · exact op_neD hu pins s σ H _ _ v u Q I rx ry ⟨.list [], .list [], .lst (SqL.of ha) .nil, .lst (SqL.of hb) .nil, rfl, rfl, q⟩
  · exact op_neD hu pins s σ H x y v u Q I rx ry h
end GL

end
section
set_option Elab.async false
set_option linter.all false
set_option maxRecDepth 100000
set_option maxHeartbeats 4000000
/-! loops over enumerate(zip(..)); comprehensions that keep nothing. -/
namespace GL
open PySem PySem.Spec PyProof.Rows L2
theorem for_ez {K : PySem.W.Frag} {a b z TI TO : Addr} {xs ys : List V} {n : Nat} {g : TG} {tb : TS} {D : Ends} {σ : L2.St} {H : Hp} (hx : xs.length = n) (hy : ys.length = n) (n0 : 0 < n) (Pv : Nat → L2.St → Hp → Prop) (h0 : Pv 0 σ H)
    (hG : ∀ i σ H, Pv i σ H → SqL K H a xs ∧ SqL K H b ys ∧ Zst z TI TO H ∧ (0 < i → ∃ T ts, H z = some (zHeld z TI TO T) ∧ H T = some (.tup ts)))
    (hs : ∀ i σ H P T x y zo H', i < n → Pv i σ H → xs[i]? = some x → ys[i]? = some y → H P = none → H T = none → T ≠ P → H' = upd (upd (upd H z zo) T (.tup [x, y])) P (.tup [.int (i : Nat), .ref T]) → (∃ T ts, H' z = some (zHeld z TI TO T) ∧ H' T = some (.tup ts)) →
      g (.ref P) σ H' fun σ2 H2 => tb { D with nx := Pv (i + 1), ct := Pv (i + 1), bk := D.nx } σ2 H2) (hd : ∀ σ H, Pv n σ H → D.nx σ H) :
    ∃ W : Nat → Nat → L2.St → Hp → Prop, (∃ m, W 0 m σ H) ∧ ∀ i m σ H, W i m σ H →
      ((Itez K a b z TI TO).stop i H ∧ D.nx σ H) ∨ ((Itez K a b z TI TO).go i H ∧ ∃ N : L2.St → Hp → Prop, (∀ σ' H', N σ' H' → ∃ m', m' < m ∧ W (i + 1) m' σ' H') ∧ ∀ x H', (Itez K a b z TI TO).yld i H x H' → g x σ H' fun σ2 H2 => tb { D with nx := N, ct := N, bk := D.nx } σ2 H2) := by
  refine ⟨fun i m σ H => m = n - i ∧ i ≤ n ∧ Pv i σ H, ⟨n, by simp, Nat.zero_le _, h0⟩, ?_⟩
  rintro i m σ H ⟨rfl, hi, p⟩
  obtain ⟨q1, q2, q3, q4⟩ := hG i σ H p
  by_cases hlt : i < n
  · have e1 : i < xs.length := by omega
    have e2 : i < ys.length := by omega
    refine .inr ⟨⟨q3, xs, ys, xs[i], ys[i], q1, q2, by simp [e1], by simp [e2]⟩, Pv (i + 1), fun σ' H' p' => ⟨n - (i + 1), by omega, rfl, hlt, p'⟩, fun v H' y => ?_⟩
    obtain ⟨P, T, x, y, zo, rfl, h1, h2, h3, h4, h5, h6, h7⟩ := y
    exact hs i σ H P T x y zo H' hlt p (h6 xs q1) (h7 ys q2) h1 h2 h3 h4 h5
  · have e : i = n := by omega
    subst e
    exact .inl ⟨⟨q4 n0, xs, ys, q1, q2, .inl (by omega)⟩, hd σ H p⟩
/-- nothing is kept of the comprehension -/
theorem lc_none {p : Addr} {σ : L2.St} {H : Hp} {te : TE} {wi : TI} {tt : TT} {j : Nat} {Q : VK} (Pr : List V → Hp → Prop)
    (src : ∀ R : It → Hp → Prop, (∀ J H1 xs, Ex H H1 → Pr xs H1 → Walk J xs.length (fun H2 => Kp p H1 H2) (YAt xs) → R J H1) → wi σ H R)
    (ht : ∀ xs H1, Ex H H1 → Pr xs H1 → ∀ x, x ∈ xs → ∀ H2, Ex H1 H2 → ∀ Q1 : Bool → Hp → Prop, (∀ H3, Ex H2 H3 → Q1 false H3) → tt ((σ.set j none).set j (some x)) H2 Q1)
    (q : ∀ D H2, H D = none → H2 D = some (.lst []) → Ex H H2 → Q (.ref D) H2) : tLc wi (gName j) tt te [j] σ H Q := by
  refine src _ fun J H1 xs e1 pr w D hD => ?_
  refine lc_it w (fun i H2 => H2 D = some (.lst []) ∧ Ex H1 H2) ⟨upd_same, Ex.nw hD⟩ (fun i H2 _ g => Ex.kp g.2) ?_ fun H2 g => ?_
  · rintro i x H2 H3 hi ⟨g1, g2⟩ ⟨rfl, hx⟩
    have hm : x ∈ xs := List.mem_of_getElem? hx
    refine ⟨?_, ?_⟩
    · show ((σ.set j none).set j (some x)).set j none = σ.set j none
      rw [List.set_set, List.set_set]
    · exact ht xs H1 e1 pr x hm H3 g2 _ fun H4 e4 => iteF ⟨e4 _ _ g1, g2.tr e4⟩
  · exact q D H2 (e1.no hD) g.1 (e1.tr g.2)
/-! rows of made exceptions: of the classes js, all with the one field -/
def Es (cs : Nat → Addr) (f : Str) (one : V) (H : Hp) : List V → List Nat → Prop := Paired fun v j => ∃ a, v = .ref a ∧ Ef H a (cs j) [(f, one)]
theorem Es.ex {cs : Nat → Addr} {f : Str} {one : V} {H H' : Hp} (e : Ex H H') : ∀ {vs : List V} {js : List Nat}, Es cs f one H vs js → Es cs f one H' vs js
  | _, _, .nil => .nil
  | _, _, .cons ⟨a, ea, h⟩ r => .cons ⟨a, ea, h.ex e⟩ (Es.ex e r)
theorem Es.get {cs : Nat → Addr} {f : Str} {one : V} {H : Hp} : ∀ {vs : List V} {js : List Nat}, Es cs f one H vs js → ∀ (i : Nat) (x : V), vs[i]? = some x → ∃ j a, js[i]? = some j ∧ x = .ref a ∧ Ef H a (cs j) [(f, one)]
  | _, _, .nil, i, x, h => by cases h
  | _, _, .cons ⟨a, ea, h⟩ r, 0, x, hx => by cases hx; exact ⟨_, a, rfl, ea, h⟩
  | _, _, .cons _ r, i + 1, x, hx => by
    obtain ⟨j, a, h1, h2, h3⟩ := Es.get r i x hx
    exact ⟨j, a, h1, h2, h3⟩
theorem Es.app {cs : Nat → Addr} {f : Str} {one : V} {H : Hp} : ∀ {vs ws : List V} {js ks : List Nat}, Es cs f one H vs js → Es cs f one H ws ks → Es cs f one H (vs ++ ws) (js ++ ks)
  | _, _, _, _, .nil, h => h
  | _, _, _, _, .cons h r, h' => .cons h (Es.app r h')
def ErsE (cs : Nat → Addr) (f : Str) (one : V) (σ : L2.St) (js : List Nat) (ta : TA) : Prop := ∀ (H : Hp) (Q : List V → Hp → Prop), (∀ vs H', Ex H H' → Es cs f one H' vs js → Q vs H') → ta σ H Q
section
variable {cs : Nat → Addr} {f : Str} {one : V} {σ : L2.St} {js : List Nat} {ta : TA} {i j : Nat}
theorem ErsE.nil : ErsE cs f one σ [] tNil := fun H Q k => k [] H (Ex.rfl' H) .nil
theorem ErsE.pos (hi : σ[i]? = some (some one)) (r : ErsE cs f one σ js ta) : ErsE cs f one σ (j :: js) (tCons (tCall (spC1 (cs j) f) [] (fun _ _ _ => False) (tCons (tVar i) tNil)) ta) := fun H Q k =>
  ⟨_, hi, one, rfl, fun a H1 _ e1 o1 => r H1 _ fun vs H2 e2 es => k _ H2 (e1.tr e2) (.cons ⟨a, rfl, o1.ef.ex e2⟩ es)⟩
theorem ErsE.kw (hi : σ[i]? = some (some one)) (r : ErsE cs f one σ js ta) : ErsE cs f one σ (j :: js) (tCons (tKw 0 1 (spC1 (cs j) f) gcI (fun _ _ _ => False) tNil (tCons (tVar i) tNil)) ta) := fun H Q k =>
  ⟨_, hi, rfl, rfl, one, rfl, fun a H1 _ e1 o1 => r H1 _ fun vs H2 e2 es => k _ H2 (e1.tr e2) (.cons ⟨a, rfl, o1.ef.ex e2⟩ es)⟩
/-- .. in a list -/
theorem ErsE.lst {Q : VK} {H : Hp} (h : ErsE cs f one σ js ta) (hl : js.length ≤ 1000) (q : ∀ D vs H', H D = none → Ex H H' → H' D = some (.lst vs) → Es cs f one H' vs js → Q (.ref D) H') : tLst ta σ H Q := by
  refine h H _ fun vs H1 e1 es => ⟨?_, fun D hD => ?_⟩
  · have : vs.length = js.length := Paired.length es
    exact sz_le (by omega)
  · have e2 := Ex.nw (o := .lst vs) hD
    exact q D vs _ (e1.no hD) (e1.tr e2) upd_same (es.ex e2)
end
end GL

end
section
set_option Elab.async false
set_option linter.all false
set_option maxRecDepth 100000
set_option maxHeartbeats 4000000
/-! A lambda, with a default or none, handed to a def that asks it. -/
namespace GL
open PySem PySem.Spec PyProof.Rows L2 LamX
/-- the values of the defaults, as the function's object tells them -/
def DfO (h : Heap) (dV : Value) (ds : List Value) : Prop := (ds = [] ∧ dV = .none) ∨ ∃ t, ds ≠ [] ∧ dV = .ref t ∧ h.get? t = some (PySem.W.kdv_tup ds)
abbrev lamFd (X : Cx) (params : Arguments) (body : Expr) (scope : Scope) (dV doc pm : Value) (c' : Addr) (ctv : Value) : FuncData :=
  PySem.W.kdv_fn "<lambda>" (X.env.qual ++ "<lambda>") params (.expr body) scope (cloFrom X.env.cells scope.names []) dV doc pm (.ref c') ctv
abbrev lamOb (X : Cx) (params : Arguments) (body : Expr) (scope : Scope) (dV doc pm : Value) (c' : Addr) (ctv : Value) : Obj := { cls := .type "function", data := .func (lamFd X params body scope dV doc pm c' ctv) }
/-- all stands; tables may have grown -/
def ExtK (H H' : Hp) : Prop := ExtN H H' ∧ ∀ b ps, H b = some (.tbl ps) → ∃ qs, H' b = some (.tbl qs)
theorem ExtK.refl (H : Hp) : ExtK H H := ⟨ExtN.refl H, fun _ ps h => ⟨ps, h⟩⟩
section
variable {X : Cx} {pins : List (Addr × Obj)} {σ : L2.St} {H : Hp} {s : Shared}
/-- the function is made, its defaults known -/
theorem lam_tail {T : List (Addr × Str)} {c P : Addr} {params : Arguments} {body : Expr} {scope : Scope} {pos : Pos} {dV : Value} {E : Value → Shared → Prop} {Q : Value → Shared → Prop} (I : Inv X pins σ H s) (tb : TabB X.base X.mg c P) (hcode : X.env.code = .ref c)
    (hm : (P, X.env.qual ++ "<lambda>") ∈ T) (hu : ∀ p ∈ T, p.1 = P → p.2 = X.env.qual ++ "<lambda>") (hT : Tabs T H) (hfree : ∀ y ∈ scope.names, y.2 = .free → ∃ c, X.env.cells.lookup y.1 = some c)
    (h : ∀ (f c' : Addr) (pm ctv doc : Value) (H1 : Hp) (s1 : Shared), Inv X pins σ H1 s1 → ExtK H H1 → Tabs T H1 → s.heap.objs.size ≤ f → (∀ b o, H b = none → s.heap.get? b = some o → s1.heap.get? b = some o ∧ H1 b = none) →
      s1.heap.get? f = some (lamOb X params body scope dV doc pm c' ctv) → H1 f = none → f ∉ frs X.stack → H1 c' = some (CodeO c' (X.env.qual ++ "<lambda>")) → Q (.ref f) s1) :
    wpAny (model X.prog X.w) X.A (makeTail "<lambda>" (X.env.qual ++ "<lambda>") params (.expr body) scope X.env dV .none none pos pos.line) Q E s := by
  obtain ⟨ps, hP, ht, ha⟩ := hT _ hm
  have bP : s.heap.BuiltinsAt X.mg P := tb.bm.keeps I.bk
  have hPs : s.heap.get? P = some { cls := .none, data := .fields ps } := I.hok P _ hP
  have gm := I.mod.glob.keeps I.bk
  have ch := tb.code.keeps I.bk
  have nofr : ∀ f, s.heap.objs.size ≤ f → f ∉ frs X.stack := fun f hf z => by
    rcases List.mem_cons.mp (I.stkSub _ z) with e | e
    · have h1 := I.lt
      rw [← e] at h1
      exact absurd (Nat.lt_of_lt_of_le h1 hf) (Nat.lt_irrefl _)
    · exact I.nofs hf e
  cases hc : codeAmong pos ps.toList with
  | none =>
    refine PySem.W.kdv_makeTail (mg := X.mg) (c := c) (P := P) (ps := ps) (closure_ok hfree) I.ok.glob gm hcode ch hPs ht hc tb.gP bP fun c' ctv doc h' tk hx hge hlt hrec htb => ?_
    obtain ⟨c2, oc, vs, t, e2, hoc, hd, hv⟩ := hrec
    cases e2
    have hsz : s.heap.objs.size ≤ h'.objs.size := Nat.le_trans hge (Nat.le_of_lt hlt)
    have nC : H c' = none := I.hok.fresh hge
    have J := inv_table (t' := tk) (more := #[rawInt pos.line, rawInt pos.col, .ref c']) (h' := h'.push (lamOb X params body scope dV doc ((X.mg "__name__").getD .none) c' ctv)) I hP
      (fun b o hb e => Heap.get?_push_of_some _ (hx b o hb e)) (Heap.get?_push_of_some _ htb) hge ⟨oc, vs, t, Heap.get?_push_of_some _ hoc, hd, hv⟩
    have hE : ExtN H (upd (upd H P (.tbl (ps ++ #[rawInt pos.line, rawInt pos.col, .ref c']))) c' (CodeO c' (X.env.qual ++ "<lambda>"))) := fun b o e n => by
      have n1 : b ≠ c' := ne_of_none e nC
      have n2 : b ≠ P := fun z => n ps (Option.some.inj (e.symm.trans (by rw [z]; exact hP)))
      rw [upd_ne n1, upd_ne n2]
      exact e
    have hK : ExtK H (upd (upd H P (.tbl (ps ++ #[rawInt pos.line, rawInt pos.col, .ref c']))) c' (CodeO c' (X.env.qual ++ "<lambda>"))) := ⟨hE, fun b qs e => by
      have n1 : b ≠ c' := ne_of_none e nC
      by_cases n2 : b = P
      · rw [n2, upd_ne (by rw [← n2]; exact n1), upd_same]; exact ⟨_, rfl⟩
      · rw [upd_ne n1, upd_ne n2]; exact ⟨_, e⟩⟩
    have eL : (ps ++ #[rawInt pos.line, rawInt pos.col, .ref c']).toList = ps.toList ++ [rawInt pos.line, rawInt pos.col, .ref c'] := by simp
    refine h h'.objs.size c' ((X.mg "__name__").getD .none) ctv doc _ _ J hK (fun p hp => ?_) hsz (fun b o n e => ⟨Heap.get?_push_of_some _ (hx b o (fun z => by rw [z, hP] at n; cases n) e), ?_⟩) (Heap.get?_push_size _ rfl) ?_ (nofr _ hsz) upd_same
    · by_cases hb : p.1 = P
      · rw [hu p hp hb, hb]
        refine ⟨_, by rw [upd_ne (ne_of_none hP nC), upd_same], by rw [eL]; exact PySem.TriplesOk_snoc _ _ _ _ ht, fun p2 cv hcv => ?_⟩
        rw [eL] at hcv
        rcases among_app _ ht hcv with z | z
        · obtain ⟨c0, e1, e2⟩ := ha p2 cv z
          exact ⟨c0, e1, hE _ _ e2 codeO_ne⟩
        · exact ⟨c', z, upd_same⟩
      · obtain ⟨qs, a1, a2, a3⟩ := hT p hp
        refine ⟨qs, by rw [upd_ne (ne_of_none a1 nC), upd_ne hb]; exact a1, a2, fun p2 cv hcv => ?_⟩
        obtain ⟨c0, e1, e2⟩ := a3 p2 cv hcv
        exact ⟨c0, e1, hE _ _ e2 codeO_ne⟩
    · have n1 : b ≠ c' := fun z => by
        have l := Heap.lt_size e
        rw [z] at l
        exact absurd (Nat.lt_of_lt_of_le l hge) (Nat.lt_irrefl _)
      have n2 : b ≠ P := fun z => by rw [z, hP] at n; cases n
      rw [upd_ne n1, upd_ne n2]
      exact n
    · have n1 : h'.objs.size ≠ c' := Nat.ne_of_gt hlt
      have n2 : h'.objs.size ≠ P := Nat.ne_of_gt (Nat.lt_of_lt_of_le (Heap.lt_size hPs) hsz)
      rw [upd_ne n1, upd_ne n2]
      exact I.hok.fresh hsz
  | some cv =>
    obtain ⟨c', e, hco⟩ := ha pos cv hc
    subst e
    refine PySem.W.kdv_makeTailHit (mg := X.mg) (c := c) (P := P) (ps := ps) (closure_ok hfree) I.ok.glob gm hcode ch hPs ht hc bP fun ctv doc h' tk hx hsz => ?_
    have J : Inv X pins σ H { s with heap := h'.push (lamOb X params body scope dV doc ((X.mg "__name__").getD .none) c' ctv), toks := tk } := I.kept fun b o e => Heap.get?_push_of_some _ (hx b o e)
    exact h h'.objs.size c' ((X.mg "__name__").getD .none) ctv doc H _ J (ExtK.refl H) hT hsz (fun b o n e => ⟨Heap.get?_push_of_some _ (hx b o e), n⟩) (Heap.get?_push_size _ rfl) (I.hok.fresh hsz) (nofr _ hsz) hco
/-- .. and before that the defaults: none, or one number -/
def Dft (params : Arguments) (ks : List Int) : Prop := params.kw_defaults = [] ∧ params.kwonlyargs = [] ∧ ((ks = [] ∧ params.defaults = []) ∨ ∃ i j p, ks = [i] ∧ params.defaults = [.Constant (.int i) j p])
theorem lam_make3 {T : List (Addr × Str)} {c P : Addr} {params : Arguments} {body : Expr} {scope : Scope} {pos : Pos} {ks : List Int} {Q : Value → Shared → Prop} (I : Inv X pins σ H s) (tb : TabB X.base X.mg c P) (hcode : X.env.code = .ref c)
    (hm : (P, X.env.qual ++ "<lambda>") ∈ T) (hu : ∀ p ∈ T, p.1 = P → p.2 = X.env.qual ++ "<lambda>") (hT : Tabs T H) (hdf : Dft params ks) (hfree : ∀ y ∈ scope.names, y.2 = .free → ∃ c, X.env.cells.lookup y.1 = some c)
    (h : ∀ (f c' : Addr) (dV pm ctv doc : Value) (ds : List Value) (H1 : Hp) (s1 : Shared), Inv X pins σ H1 s1 → ExtK H H1 → Tabs T H1 → ds.length = ks.length → DfO s1.heap dV ds → (∀ t, dV = .ref t → H1 t = none ∧ t ∉ frs X.stack) →
      s1.heap.get? f = some (lamOb X params body scope dV doc pm c' ctv) → H1 f = none → f ∉ frs X.stack → H1 c' = some (CodeO c' (X.env.qual ++ "<lambda>")) → Q (.ref f) s1) :
    wpAny (model X.prog X.w) X.A (eval (.Lambda params body scope pos) X.env) Q X.xe s := by
  obtain ⟨h1, h2, h3⟩ := hdf
  rcases h3 with ⟨rfl, h3⟩ | ⟨i, j, p, rfl, h3⟩
  · refine PySem.W.kla_eval (by
      obtain ⟨_, _, _, _, _, _, _⟩ := params
      cases h1; cases h3; rfl) ?_
    rw [makeFunction_eq]
    simp only [List.zip_nil_right, List.filterMap_nil, List.isEmpty_nil, if_true, pure_bind]
    exact lam_tail I tb hcode hm hu hT hfree fun f c' pm ctv doc H1 s1 J e1 t1 _ _ g1 g2 g3 g4 => h f c' .none pm ctv doc [] H1 s1 J e1 t1 rfl (.inl ⟨rfl, rfl⟩) (fun t z => by cases z) g1 g2 g3 g4
  · refine PySem.W.kdv_lam (by rw [h3]; rfl) h1 ?_
    rw [h3]
    refine PySem.W.kdv_all1 (thn (pe_int.run pins s σ H (fun v H1 => H1 = H) I rfl) fun v s1 hv => ?_)
    obtain ⟨x, H1, I1, rx, eH⟩ := hv
    subst eH
    refine PySem.W.kdv_all0 ?_
    rw [makeFunction_eq]
    simp only [List.zip_nil_right, List.filterMap_nil, List.isEmpty_nil, if_true, pure_bind, List.isEmpty_cons, Bool.false_eq_true, if_false]
    refine wpAny_bind (wpAny_newTextTuple ?_)
    have J1 : Inv X pins σ H1 { s1 with heap := s1.heap.push { cls := .type "tuple", data := .seq [v].toArray } } := I1.kept (t' := s1.toks) fun b o e => Heap.get?_push_of_some _ e
    have fr0 : s1.heap.objs.size ∉ frs X.stack := fun z => by
      rcases List.mem_cons.mp (I1.stkSub _ z) with e | e
      · have h1 := I1.lt
        rw [← e] at h1
        exact absurd h1 (Nat.lt_irrefl _)
      · exact I1.nofs (Nat.le_refl _) e
    refine lam_tail J1 tb hcode hm hu hT hfree fun f c' pm ctv doc H2 s2 J e1 t1 _ kp g1 g2 g3 g4 => ?_
    have kt := kp s1.heap.objs.size (PySem.W.kdv_tup [v]) (I1.hok.fresh (Nat.le_refl _)) (Heap.get?_push_size _ rfl)
    exact h f c' (.ref s1.heap.objs.size) pm ctv doc [v] H2 s2 J e1 t1 rfl (.inr ⟨_, by simp, rfl, kt.1⟩) (fun t z => by cases z; exact ⟨kt.2, fr0⟩) g1 g2 g3 g4
end
end GL

end
section
set_option Elab.async false
set_option linter.all false
set_option maxRecDepth 100000
set_option maxHeartbeats 4000000
namespace GL
open PySem PySem.Spec PyProof.Rows L2 LamX
/-- the lambda's names: its parameters ls, captured ones, globals -/
structure LamT (N : List Str) (sc scope : Scope) (ls : List Str) : Prop where
  kd : scope.kind = .function
  noCo : scope.isCoroutine = false
  noGen : scope.isGenerator = false
  noCell : ∀ y ∈ scope.names, y.2 ≠ .cell
  own : ∀ y ∈ scope.names, y.2 = .local → y.1 ∉ N
  par : ∀ y ∈ ls, scope.names.lookup y = some .local
  fre : ∀ y ∈ scope.names, y.2 = .free → sc.names.lookup y.1 = some .cell ∨ sc.names.lookup y.1 = some .free
def lamTB (N : List Str) (sc scope : Scope) (ls : List Str) : Bool :=
  decide (scope.kind = .function) && !scope.isCoroutine && !scope.isGenerator && (scope.names.all fun y => !decide (y.2 = .cell) && (!decide (y.2 = .local) || !N.contains y.1) && (!decide (y.2 = .free) || decide (sc.names.lookup y.1 = some .cell) || decide (sc.names.lookup y.1 = some .free))) &&
    ls.all fun y => decide (scope.names.lookup y = some .local)
theorem lamT_by {N : List Str} {sc scope : Scope} {ls : List Str} (h : lamTB N sc scope ls = true) : LamT N sc scope ls := by
  unfold lamTB at h
  simp only [Bool.and_eq_true, Bool.or_eq_true, Bool.not_eq_true', decide_eq_true_eq, decide_eq_false_iff_not, List.all_eq_true] at h
  obtain ⟨⟨⟨⟨a1, a2⟩, a3⟩, a4⟩, a5⟩ := h
  refine ⟨a1, a2, a3, fun y hy => (a4 y hy).1.1, fun y hy e m => ?_, a5, fun y hy e => ?_⟩
  · rcases (a4 y hy).1.2 with z | z
    · exact z e
    · rw [List.contains_iff_mem.mpr m] at z
      cases z
  · rcases (a4 y hy).2 with (z | z) | z
    · exact absurd e z
    · exact .inl z
    · exact .inr z
section
variable {X : Cx} {pins : List (Addr × Obj)} {σ : L2.St} {H HZ : Hp} {s s1 : Shared}
theorem LamT.caught {scope : Scope} {ls : List Str} {N : List Str} (L : LamT N X.env.scope scope ls) (ok : X.Ok) : ∀ y ∈ scope.names, y.2 = .free → ∃ c, X.env.cells.lookup y.1 = some c := fun y hy e =>
  (L.fre y hy e).elim (fun k => ok.has _ (.inl k)) fun k => ok.has _ (.inr k)
/-- entered -/
theorem lam_in {A : Around} {outer : List Env} {E : XK} {scope : Scope} {f c' : Addr} {hN : Heap} {tk : Nat} {bs : List (Str × Value)} {ls : List Str} (I : Inv X pins σ H s) (L : LamT X.N X.env.scope scope ls) (e0 : Env0 X.prog X.w X.K X.mg X.base A outer s1 HZ) (hd : A.handled = none)
    (un : Un (frs X.stack) [] H HZ s.heap s1.heap) (hns : hN.Ns s1.heap.objs.size fun y => bs.reverse.lookup y) (kp : ∀ b o, s1.heap.get? b = some o → hN.get? b = some o) :
    Inv (lamCx X A outer s1 HZ E scope f c') [] σ HZ { s1 with heap := hN, toks := tk } := by
  have fr := L.caught I.ok
  have cells : ∀ {y c}, (cloFrom X.env.cells scope.names []).lookup y = some c → X.env.cells.lookup y = some c := fun {y c} e => by
    rcases cloFrom_mem (PySem.mem_of_lookup e) with hm | ⟨q1, q2⟩
    · cases hm
    · obtain ⟨c1, hc1⟩ := fr _ q1 rfl
      have hc2 : X.env.cells.lookup y = some c1 := hc1
      have eq : c = c1 := by
        rw [q2, hc2] <;> rfl
      rw [eq]
      exact hc2
  have seen : ∀ {y}, scope.names.lookup y = some .free → ∃ c, (cloFrom X.env.cells scope.names []).lookup y = some c := fun {y} hl =>
    mem_lookup (cloFrom_has (cells := X.env.cells) (acc := []) (show (y, NameKind.free) ∈ scope.names from PySem.mem_of_lookup hl))
  have keepC : ∀ {c : Addr} {v : Option Value}, H c = none → s.heap.IsCell c v → hN.IsCell c v := fun {c v} n ⟨o, ho, hdt⟩ => by
    obtain ⟨sl, q⟩ := un.any ho n (by simp)
    exact ⟨_, kp _ _ q, hdt⟩
  have noX : ∀ b : Addr, b ∉ (lamCx X A outer s1 HZ E scope f c').ex := fun b z => absurd (show b ∈ ([] : List Addr) from z) (by simp)
  refine ⟨⟨e0.mod, L.kd, rfl, rfl, Nat.le_refl _, fun y z c e1 e2 => I.ok.inj y z c (cells e1) (cells e2), fun y hy => ?_, fun y c z _ => ?_, fun _ => hd, Around.frames_deeper e0.frames, .inr ⟨rfl, rfl⟩, fun b z => absurd z (noX b), e0.bs, e0.bsz, fun b _ _ => noX b, fun b z => absurd z (noX b), e0.funs, e0.frf⟩,
    rfl, e0.bare, Un.kept kp, ⟨_, hns, fun i y v e1 e2 e3 => ?_⟩, fun y c e => ?_, e0.hok.fresh (Nat.le_refl _), fun y c e => ?_, fun q hq => absurd (show q ∈ ([] : List (Addr × Obj)) ++ [] from hq) (by simp), e0.hok.kept kp, I.len⟩
  · rcases (show scope.names.lookup y = some .cell ∨ scope.names.lookup y = some .free from hy) with k | k
    · exact absurd rfl (L.noCell _ (PySem.mem_of_lookup k))
    · exact seen k
  · cases (show false = true from z)
  · rcases (show Vis scope y from e3) with k | k | k
    · exact absurd (List.mem_of_getElem? (show X.N[i]? = some y from e1)) (L.own _ (PySem.mem_of_lookup k) rfl)
    · exact absurd rfl (L.noCell _ (PySem.mem_of_lookup k))
    · obtain ⟨m, hn, hl⟩ := I.loc
      have vis : Vis X.env.scope y := (L.fre _ (PySem.mem_of_lookup k) rfl).elim (fun k => .inr (.inl k)) (fun k => .inr (.inr k))
      obtain ⟨u, r, q⟩ := hl i y v e1 e2 vis
      obtain ⟨c2, at2⟩ := seen k
      refine ⟨u, r, .inr ⟨.inr k, c2, at2, ?_⟩⟩
      have at1 := cells at2
      rcases q with ⟨kl, _⟩ | ⟨_, c3, e4, z⟩
      · have kl : X.env.scope.names.lookup y = some .local := kl
        rcases L.fre _ (PySem.mem_of_lookup k) rfl with k2 | k2 <;> rw [show X.env.scope.names.lookup y = _ from k2] at kl <;> cases kl
      · rw [at1] at e4
        cases e4
        exact keepC (I.freeC y _ at1) z
  · obtain ⟨u, z⟩ := I.cell y c (cells e)
    exact ⟨u, keepC (I.freeC y c (cells e)) z⟩
  · obtain ⟨v, o, ho, hdt⟩ := I.cell y c (cells e)
    exact un.free c o ho (I.freeC y c (cells e)) (by simp)
/-- the parameters, bound to their defaults -/
def BindD (ls : List Str) (n : Nat) (params : Arguments) (body : Expr) (scope : Scope) : Prop := ∀ (q : Str) (cl : List (Str × Addr)) (dV doc pm cv ctv : Value) (s : Shared) (ds : List Value), DfO s.heap dV ds → ds.length = n →
  BindsTo s (PySem.W.kdv_fn "<lambda>" q params (.expr body) scope cl dV doc pm cv ctv) ⟨[], []⟩ (ls.zip ds)
/-- a(), in the def that got the lambda -/
theorem pe_ask {CXg : CXT} {Eg : XK} {Ng : List Str} {qg : Str} {sg : Scope} {g f c' : Addr} {cdg dV doc pm ctv : Value} {ds : List Value} {ls : List Str} {params : Arguments} {body : Expr} {scope : Scope} {n k i : Nat} {a : Str} {pn : List (Addr × Obj)} {xe : Value → Shared → Prop} {W : WX} {t : XK → TE} {p1 p2 : Pos}
    (I : Inv X pins σ H s) (L : LamT X.N X.env.scope scope ls) (hf : s.heap.get? f = some (lamOb X params body scope dV doc pm c' ctv)) (hfn : H f = none) (hfr : f ∉ frs X.stack) (hD : DfO s.heap dV ds) (hDn : ∀ t, dV = .ref t → H t = none ∧ t ∉ frs X.stack)
    (hbd : BindD ls n params body scope) (hdl : ds.length = n) (tk : Takes ((cxOf CXg X.prog X.w X.K X.mg X.base Ng qg sg g cdg X.A X.stack s H Eg).tr pn xe) W) (gd : X.A.guards = some []) (hr : Room (k + 1) (X.A.deeper (envOfC qg sg s.heap.objs.size g cdg)))
    (hbody : ∀ (A : Around) (outer : List Env) (s : Shared) (H : Hp) (E : XK), A.guards = some [] → Room k (A.deeper (lamEnv X scope s.heap.objs.size f c')) → PE (lamCx X A outer s H E scope f c') body (t E))
    (hN : Ng[i]? = some a) (hv : Vis sg a) (hd : (a == ("__debug__" : Str)) = false := by decide) (hcd : (a == ("__classdict__" : Str)) = false := by decide) :
    PE ((cxOf CXg X.prog X.w X.K X.mg X.base Ng qg sg g cdg X.A X.stack s H Eg).tr pn xe) (.Call (.Name a p1) [] [] p2)
      (fun τ HZ Q => ∃ E : XK, (∀ cls d G, E cls d G → W cls d τ G) ∧ τ[i]? = some (some (.ref f)) ∧ HZ c' = some (CodeO c' (X.env.qual ++ "<lambda>")) ∧ t E σ HZ Q) := by
  refine ⟨fun pinsZ sZ τ HZ Q IZ h => ?_⟩
  obtain ⟨E, hW, q1, q2, q3⟩ := h
  refine wpAny_Call_Name_kw (thn ((pe_var (pos := p1) (i := i) hN hv hd hcd).run pinsZ sZ τ HZ (fun v G => v = .ref f ∧ G = HZ) IZ ⟨.ref f, q1, rfl, rfl⟩) fun u s2 ⟨v, G, I2, r1, e1⟩ => ?_)
  obtain ⟨ev, eG⟩ := e1
  subst ev
  subst eG
  obtain rfl : u = Value.ref f := r1
  have un : Un (frs X.stack) [] H G s.heap s2.heap := I2.base
  have of2 : s2.heap.get? f = some (lamOb X params body scope dV doc pm c' ctv) := un.keep f _ hf hfn hfr (by simp)
  have D2 : DfO s2.heap dV ds := by
    rcases hD with z | ⟨t, nd, e, z⟩
    · exact .inl z
    · obtain ⟨n1, n2⟩ := hDn t e
      exact .inr ⟨t, nd, e, un.keep t _ z n1 n2 (by simp)⟩
  refine PySem.W.callWith_F0 ⟨_, _, _, _, of2⟩ ?_
  obtain ⟨⟨oc, vs, t, hoc, hdc, hvc⟩, _, _⟩ := I2.hok c' _ q2
  have rc : codeAny (model X.prog X.w) (X.A.deeper (envOfC qg sg s.heap.objs.size g cdg)) (.call (.ref f) ⟨[], []⟩) (CR (L2.CX X.prog X.w) (envOfC qg sg s.heap.objs.size g cdg :: X.stack) X.prog X.w G s2 Q E) s2 := by
    refine PySem.W.kla_callFunE hr.depth of2 rfl L.noCo L.noGen rfl ⟨c', oc, vs, t, rfl, hoc, hdc, hvc⟩ (hbd _ _ _ _ _ _ _ s2 ds D2 hdl _ _ _ _ ?_)
    refine wpAny_newFunctionEnv (fun y hy => L.noCell y hy) (fun ⟨y, u⟩ hy => L.par y (List.of_mem_zip hy).1) (fun hN hns hsb => ⟨I2.nolimit.fresh _ hsb, ?_⟩) L.kd
    have kp : ∀ b o, s2.heap.get? b = some o → hN.get? b = some o := fun b o e => hsb.extBut b o (Nat.ne_of_lt (Heap.lt_size e)) (Heap.get?_push_of_some _ e)
    have J : Inv (lamCx X (X.A.deeper (envOfC qg sg s.heap.objs.size g cdg)) (envOfC qg sg s.heap.objs.size g cdg :: X.stack) s2 G E scope f c') [] σ G { s2 with heap := hN, toks := s2.toks + (ls.zip ds).length } := lam_in I L I2.env0 hr.hd un hns kp
    refine PySem.W.kla_codeExpr (wpAny_mono ((hbody (X.A.deeper (envOfC qg sg s.heap.objs.size g cdg)) _ s2 G E gd (hr.deeper _)).run [] _ _ G Q J q3) (fun v s3 hq => ?_) fun e s3 hq => hq)
    obtain ⟨u, G3, J3, rv, q⟩ := hq
    exact ⟨u, G3, J3.os, J3.bare, J3.base, J3.hok, rv, q⟩
  refine wpAny_call (codeAny_mono rc fun r s3 hq => ?_)
  cases r with
  | error e => exact tk e s3 (XE.of_call I2 hW hq)
  | ok fl =>
    cases fl with
    | ret u => exact I2.after hq
    | next => exact False.elim hq
    | brk => exact False.elim hq
    | cont => exact False.elim hq
end
/-- the reading of a() -/
def tAsk (W : WX) (f c' : Addr) (q : Str) (tl : XK → Hp → VK → Prop) : TE := fun τ G Q => ∃ E : XK, (∀ cls d G', E cls d G' → W cls d τ G') ∧ τ[0]? = some (some (.ref f)) ∧ G c' = some (CodeO c' q) ∧ tl E G Q
/-- the def that asks what it got: TT, what it makes of the lambda's reading -/
def Gives (X : Cx) (Ng : List Str) (x : Str) (sg : Scope) (g : Addr) (cdg : Value) (bg : List Stmt) (a q : Str) (TT : (XK → Hp → VK → Prop) → List V → Hp → VK → Prop) : Prop :=
  ∀ (f c' : Addr) (s : Shared) (H : Hp) (Q : VK) (vs : List V) (tl : XK → Hp → VK → Prop),
    (∀ (W : WX) (pn : List (Addr × Obj)) (xe : Value → Shared → Prop) (p1 p2 : Pos), Takes ((cxOf CX0 X.prog X.w X.K X.mg X.base Ng x sg g cdg X.A X.stack s H (fun _ _ _ => False)).tr pn xe) W →
      PE ((cxOf CX0 X.prog X.w X.K X.mg X.base Ng x sg g cdg X.A X.stack s H (fun _ _ _ => False)).tr pn xe) (.Call (.Name a p1) [] [] p2) (tAsk W f c' q tl)) →
    H c' = some (CodeO c' q) → TT tl vs H Q →
    ∃ t, PSs (cxOf CX0 X.prog X.w X.K X.mg X.base Ng x sg g cdg X.A X.stack s H (fun _ _ _ => False)).nox bg t ∧ t { nx := fun _ G => Q .non G, rt := Q } (L2.start Ng (.ref f :: vs)) H
def tLamG (T : List (Addr × Str)) (m : Nat) (TT : (XK → Hp → VK → Prop) → List V → Hp → VK → Prop) (t : XK → TE) (tes : TA) : TE := fun σ H Q => Tabs T H ∧ ∀ H1, ExtK H H1 → Tabs T H1 → tes σ H1 fun vs H2 => Ex H1 H2 ∧ vs.length = m ∧ TT (fun E G Q' => t E σ G Q') vs H2 Q
section
variable {X : Cx}
/-- x(lambda ..: body, e, ..) -/
theorem pe_lamG {T : List (Addr × Str)} {TT : (XK → Hp → VK → Prop) → List V → Hp → VK → Prop} {x a : Str} {g c P : Addr} {k : Nat} {fdg : FuncData} {st : Stmt} {Ng pr ls : List Str} {ks : List Int}
    {params : Arguments} {body : Expr} {scope : Scope} {t : XK → TE} {es : List Expr} {tes : TA} {p lpos pos : Pos} (gd : X.A.guards = some []) (hr : Room (k + 2) X.A) (hg : Gl X x) (hm : X.mg x = some (.ref g)) (F : Fun X.K x x st g fdg) (hb : Binds X.K fdg (a :: pr) []) (Sg : FnScope Ng (a :: pr) (defScope st)) (hNg : Ng[0]? = some a) (hva : Vis (defScope st) a)
    (hG : ∀ cdv, Gives X Ng x (defScope st) g cdv (defBody st) a (X.env.qual ++ "<lambda>") TT)
    (tb : TabB X.base X.mg c P) (hcode : X.env.code = .ref c) (hmT : (P, X.env.qual ++ "<lambda>") ∈ T) (hu : ∀ p ∈ T, p.1 = P → p.2 = X.env.qual ++ "<lambda>") (L : LamT X.N X.env.scope scope ls) (hdf : Dft params ks) (hbd : BindD ls ks.length params body scope)
    (hbody : ∀ (A : Around) (outer : List Env) (s : Shared) (H : Hp) (E : XK) (f c' : Addr), A.guards = some [] → Room k (A.deeper (lamEnv X scope s.heap.objs.size f c')) → PE (lamCx X A outer s H E scope f c') body (t E)) (ha : PA X es tes)
    (hdb : (x == ("__debug__" : Str)) = false := by decide) (hd : (a == ("__debug__" : Str)) = false := by decide) (hcd : (a == ("__classdict__" : Str)) = false := by decide) (hpl : (backTo pos (starEach es X.env)).any (·.1) = false := by rfl) :
    PE X (.Call (.Name x p) (.Lambda params body scope lpos :: es) [] pos) (tLamG T pr.length TT t tes) := by
  refine ⟨fun pins s σ H Q I h => ?_⟩
  obtain ⟨hT, h⟩ := h
  obtain ⟨oc, od, kV, docg, pmg, an, cdg, ctg, osl, rfl, lk, hcg⟩ := F.ex
  refine wpAny_Call_Name_kw (ld_glob I hg hm ?_ hdb)
  refine PySem.W.callWith_K (h₀ := X.base) I.ok.mod.kin F.kp ?_ (by rfl) hpl
  show wpAny _ _ (spliced ((false, eval (.Lambda params body scope lpos) X.env) :: backTo pos (starEach es X.env))) _ _ s
  refine Calls.spliced_cons (lam_make3 I tb hcode hmT hu hT hdf (L.caught I.ok) fun f c' dV pm ctv doc ds H1 s1 J1 eN T1 hdl hD hDn hf hfn hfr hco => ?_)
  have lf : f ≠ X.env.locals := fun z => by
    obtain ⟨m, ⟨o, es', ep, e1, e2, _⟩, _⟩ := J1.loc
    rw [z, e1] at hf
    cases hf
    cases e2
  have fsS : ∀ b, b ∉ frs X.stack → b ∉ X.fs := fun b n z => by
    rcases J1.ok.stk with e | ⟨e, _⟩
    · exact n (by rw [e]; exact z)
    · exact n (by rw [e]; exact List.mem_filterMap.mpr (let ⟨q, m, r⟩ := List.mem_filterMap.mp z; ⟨q, List.mem_cons_of_mem _ m, r⟩))
  obtain ⟨pd, hpd1, hpd2⟩ : ∃ pd : List (Addr × Obj), (∀ q ∈ pd, s1.heap.get? q.1 = some q.2 ∧ H1 q.1 = none ∧ q.1 ≠ X.env.locals ∧ q.1 ∉ X.fs ∧ ∀ v, q.2.data ≠ .cell v) ∧ (∀ G : Heap, (∀ q ∈ pd, G.get? q.1 = some q.2) → DfO G dV ds) ∧ (∀ t, dV = .ref t → ∃ o, (t, o) ∈ pd) := by
    rcases hD with ⟨e1, e2⟩ | ⟨t, nd, e, z⟩
    · exact ⟨[], fun q hq => by simp at hq, fun G _ => .inl ⟨e1, e2⟩, fun t e => by rw [e2] at e; cases e⟩
    · obtain ⟨n1, n2⟩ := hDn t e
      refine ⟨[(t, PySem.W.kdv_tup ds)], fun q hq => ?_, fun G hq => .inr ⟨t, nd, e, hq _ (List.mem_singleton.mpr rfl)⟩, fun t' e' => ⟨_, by rw [e] at e'; cases e'; exact List.mem_singleton.mpr rfl⟩⟩
      have eq : q = (t, PySem.W.kdv_tup ds) := by simpa using hq
      rw [eq]
      refine ⟨z, n1, fun y => ?_, fsS t n2, fun v y => by cases y⟩
      obtain ⟨m, ⟨o, es', ep, e1, e2, _⟩, _⟩ := J1.loc
      have y : t = X.env.locals := y
      rw [y, e1] at z
      cases z
      cases e2
  have hp2 : ∀ q ∈ X.pn ++ ((f, lamOb X params body scope dV doc pm c' ctv) :: (pd ++ pins)), s1.heap.get? q.1 = some q.2 ∧ H1 q.1 = none ∧ q.1 ≠ X.env.locals ∧ q.1 ∉ X.fs ∧ ∀ v, q.2.data ≠ .cell v := by
    intro q hq
    rcases List.mem_append.mp hq with m | m
    · exact J1.pin q (List.mem_append_left _ m)
    · rcases List.mem_cons.mp m with m | m
      · rw [m]
        exact ⟨hf, hfn, lf, fsS f hfr, fun v z => by cases z⟩
      · rcases List.mem_append.mp m with m | m
        · exact hpd1 q m
        · exact J1.pin q (List.mem_append_right _ m)
  have J2 : Inv X ((f, lamOb X params body scope dV doc pm c' ctv) :: (pd ++ pins)) σ H1 s1 := { J1 with pin := hp2 }
  refine thn (ha.run pos _ s1 σ H1 _ J2 (h H1 eN T1)) ?_
  rintro us s2 ⟨vs, H2, I2, rv, e12, hlen, q⟩
  have hp3 : ∀ q ∈ X.pn ++ pins, s2.heap.get? q.1 = some q.2 ∧ H2 q.1 = none ∧ q.1 ≠ X.env.locals ∧ q.1 ∉ X.fs ∧ ∀ v, q.2.data ≠ .cell v := by
    intro q hq
    rcases List.mem_append.mp hq with m | m
    · exact I2.pin q (List.mem_append_left _ m)
    · exact I2.pin q (List.mem_append_right _ (List.mem_cons_of_mem _ (List.mem_append_right _ m)))
  have I2' : Inv X pins σ H2 s2 := { I2 with pin := hp3 }
  have pf := I2.pin (f, lamOb X params body scope dV doc pm c' ctv) (List.mem_append_right _ List.mem_cons_self)
  have D2 : DfO s2.heap dV ds := hpd2.1 s2.heap fun q hq => (I2.pin q (List.mem_append_right _ (List.mem_cons_of_mem _ (List.mem_append_left _ hq)))).1
  have hDn2 : ∀ t, dV = .ref t → H2 t = none ∧ t ∉ frs X.stack := fun t e => by
    obtain ⟨o, m⟩ := hpd2.2 t e
    exact ⟨(I2.pin (t, o) (List.mem_append_right _ (List.mem_cons_of_mem _ (List.mem_append_left _ m)))).2.1, (hDn t e).2⟩
  refine ⟨I2'.kIn, ?_⟩
  have lv := rv.length
  have rc : codeAny (model X.prog X.w) X.A (.call (.ref g) ⟨.ref f :: us, []⟩) (CR CX0 X.stack X.prog X.w H2 s2 Q (fun _ _ _ => False)) s2 := by
    refine run_ofS (k := k + 1) (N := Ng) (ps := a :: pr) (us := .ref f :: us) (vs := .ref f :: vs) lk hcg Sg hr I2'.env0 (by have z := hb s2 (.ref f :: us) I2'.kIn (by simp [← lv, hlen]); rwa [List.append_nil] at z) (.cons rfl rv) (by simp [hlen]) fun hr2 => ?_
    obtain ⟨t2, ht2, hq2⟩ := hG cdg f c' s2 H2 Q vs (fun E G Q' => t E σ G Q') (fun W pn xe p1 p2 tk => pe_ask (i := 0) I2' L pf.1 pf.2.1 hfr D2 hDn2 hbd hdl tk gd hr2 (fun A outer s H E gd2 hr3 => hbody A outer s H E f c' gd2 hr3) hNg hva hd hcd) (e12 _ _ hco) q
    exact ⟨t2, ht2.nox, hq2⟩
  refine wpAny_call (codeAny_mono rc fun r s3 hq => ?_)
  cases r with
  | error e => exact (show False from hq).elim
  | ok fl =>
    cases fl with
    | ret u => exact I2'.after hq
    | next => exact False.elim hq
    | brk => exact False.elim hq
    | cont => exact False.elim hq
end
end GL

end
section
set_option Elab.async false
set_option linter.all false
set_option maxRecDepth 100000
set_option maxHeartbeats 4000000
/-! Defs that make lambdas: their code object known; the law's end with their tables. -/
namespace GL
open PySem PySem.Spec PyProof.Rows L2 LamX
/-- cd is the code of the def at f -/
def CodeF (K : PySem.W.Frag) (f : Addr) (cd : Value) : Prop := ∃ o fd, K.lookup f = some o ∧ o.data = .func fd ∧ fd.code = cd
/-- the table of the def at f -/
def tabAt (K : PySem.W.Frag) (f : Addr) : Option Addr := match K.lookup f with
  | some o => match o.data with
    | .func fd => match fd.code with
      | .ref c => match K.lookup c with
        | some oc => match oc.data with
          | .fields vs => match (vs[11]? : Option Value) with
            | some (.ref P) => some P
            | _ => none
          | _ => none
        | none => none
      | _ => none
    | _ => none
  | none => none
def tabsB (K : PySem.W.Frag) (fs : List Addr) : Bool := let ps := fs.map (tabAt K); ps.all (fun q => match q with
  | some P => (K.lookup P).isNone
  | none => false) && decide ps.Nodup
/-- of the table at P -/
def TabF (K : PySem.W.Frag) (bs : Heap) (mg : Str → Option Value) (f P : Addr) : Prop := ∃ c, CodeF K f (.ref c) ∧ TabB bs mg c P
theorem TabF.code {K : PySem.W.Frag} {bs : Heap} {mg : Str → Option Value} {f P : Addr} {cd : Value} (t : TabF K bs mg f P) (h : CodeF K f cd) : ∃ c, cd = .ref c ∧ TabB bs mg c P := by
  obtain ⟨c, ⟨o, fd, e1, e2, e3⟩, tb⟩ := t
  obtain ⟨o', fd', g1, g2, g3⟩ := h
  rw [e1] at g1
  cases g1
  rw [e2] at g2
  cases g2
  exact ⟨c, by rw [← g3, e3], tb⟩
section
variable {pg : Program} {w : World} {K : PySem.W.Frag} {mg : Str → Option Value} {bs : Heap}
/-- a def by its body, its code known -/
theorem Fun.okGC {cx : CXT} {x q : Str} {st : Stmt} {f : Addr} {fd : FuncData} {N ps : List Str} {k : Nat} {sp : Sp} (F : Fun K x q st f fd)
    (S : FnScope N ps (defScope st)) (len : ∀ vs H Q E, sp vs H Q E → vs.length = ps.length)
    (hb : ∀ (cd : Value) (A : Around) (out : List Env) (s : Shared) (H : Hp) (vs : List V) (Q : VK) (E : XK), A.guards = some [] → CodeF K f cd →
      Room k (A.deeper (envOfC q (defScope st) s.heap.objs.size f cd)) → sp vs H Q E →
      ∃ t, PSs (cxOf cx pg w K mg bs N q (defScope st) f cd A out s H E) (defBody st) t ∧ t { nx := fun _ H' => Q .non H', rt := Q } (start N vs) H) :
    FnG pg w K mg bs cx (k + 1) f fd ps sp := by
  obtain ⟨oc, od, kV, doc, pm, an, cd, ct, osl, rfl, lk, hcd⟩ := F.ex
  refine ⟨len, fun A out s H ar us vs Q E hg rm ev hbi rv hsp => ?_⟩
  have hle := len _ _ _ _ hsp
  have keepB : ∀ b o, bs.get? b = some o → s.heap.get? b = some o := fun b o z => (ev.bs b o z).1
  have KX : K.In s.heap := ev.mod.kin.keeps keepB
  have lim : s.heap.NoLimit := ev.mod.nolimit.keeps keepB
  have kinds : ∀ y ∈ ps.zip us, (defScope st).names.lookup y.1 = some .local ∨
      ((defScope st).names.lookup y.1 = some .cell ∧ ((cellsFrom (s.heap.objs.size + 1) (defScope st).names []).lookup y.1).isSome = true) := by
    rintro ⟨n, v⟩ hy
    rcases S.par n (List.of_mem_zip hy).1 with z | z
    · exact .inl z
    · exact .inr ⟨z, PySem.W.cellsFrom_some _ _ _ (.inl z)⟩
  have room := rm.depth
  refine codeAny_call_function room (KX _ _ lk) rfl S.co S.gen rfl (PySem.W.codeRec_of KX hcd) (hbi _ _ _ _ ?_)
  refine wpAny_newFunctionEnv_cells S.kind kinds fun env he s1 ic => ?_
  subst he
  refine ⟨lim.keeps ic.toInCall.keep, codeAny_func ?_⟩
  obtain ⟨t, ht, hq⟩ := hb cd A out s H vs Q E hg ⟨_, _, lk, rfl, rfl⟩ (rm.deeper _) hsp
  have J := inv_start (CX := cx) (E := E) S rm.hd ev hle rv ic
  refine wpAny_mono (ht.run [] s1 (start N vs) H _ J hq) (fun fl s' hs => ?_) fun e s' hs => hs
  cases fl with
  | ret u => exact (let ⟨_, _, _, J', rv', z⟩ := hs; to_end J' rv' z)
  | next => exact (let ⟨_, _, J', z⟩ := hs; to_end (v := V.non) (u := Value.none) J' rfl z)
  | brk => exact (let ⟨_, _, _, z⟩ := hs; False.elim z)
  | cont => exact (let ⟨_, _, _, z⟩ := hs; False.elim z)
end
/-! ### the end -/
section
theorem law_inT {pg : Program} {w : World} {K : PySem.W.Frag} {mg mb : Str → Option Value} {cx : CXT} {k : Nat} {fa a : Addr} {fd : FuncData} {x : Str} {sp : Sp} {s : Shared} {tf : List (Addr × Addr × Addr)}
    {vs : List Value} {H : Hp} (KX : K.In s.heap) (hns : s.heap.Ns mainGlobals mg) (hb : s.heap.Ns builtinsNs mb)
    (hbb : ∀ y : Str, y ≠ "__name__" → mb y = bootBuiltins y) (lim : s.heap.NoLimit) (hg : s.gens = #[])
    (ha : s.heap.get? a = some { cls := .type "list", data := .seq vs.toArray }) (rm : Room k callerA)
    (hbm : ∃ (bm : Addr) (ob : Obj), mg "__builtins__" = some (.ref bm) ∧ bm ≠ builtinsNs ∧ s.heap.get? bm = some ob ∧ ob.cls = .type "module" ∧ ob.dict = some builtinsNs ∧ ob.data = .plain)
    (hT : ∀ p ∈ tf, s.heap.get? p.2.2 = some { cls := .none, data := .fields #[] }) (nT : ∀ p ∈ tf, K.lookup p.2.2 = none) (hC : ∀ p ∈ tf, CodeF K p.1 (.ref p.2.1) ∧ PySem.W.CodeHd s.heap p.2.1 p.2.2)
    (sm : ∃ o es ep, s.heap.get? sysModules = some o ∧ o.data = .dict es ep) (F : ∀ bs : Heap, K.In bs → bs.Ns mainGlobals mg → SmB bs → (∀ p ∈ tf, TabF K bs mg p.1 p.2.2) → FnG pg w K mg bs cx k fa fd [x] sp) (hbi : ∀ (s : Shared) (u : Value), BindsTo s fd ⟨[u], []⟩ [(x, u)])
    (hO : ∀ b, H b = none ∨ (∃ p ∈ tf, p.2.2 = b ∧ H b = some (.tbl #[])) ∨ ∃ o xs, H b = some (.frz o (.lst xs))) (hok : HOk pg w H s.heap) (only : ∀ b, H b ≠ none → b = a ∨ ∃ p ∈ tf, p.2.2 = b) (hK : H a ≠ none → K.lookup a = none)
    (hH : ∀ p ∈ tf, H p.2.2 = some (.tbl #[])) (hsp : sp [.ref a] H (fun v _ => v = .bl true) fun _ _ _ => False) (hcx : ∀ H e s', cx [] H s (fun _ _ _ => False) e s' → False) :
    codeAny (model pg w) callerA (.call (.ref fa) ⟨[.ref a], []⟩)
      (fun r s' => r = .ok (.ret (.bool true)) ∧ OldK s.heap s'.heap ∧ s'.os = s.os ∧ AllBare s'.gens) s := by
  have off : ∀ {b : Addr} {o : Obj}, s.heap.get? b = some o → (∀ us n, o.data ≠ .seq us n) → o.data ≠ .fields #[] → H b = none := by
    intro b o e n1 n2
    cases q : H b with
    | none => rfl
    | some u =>
      rcases only b (by rw [q]; simp) with z | ⟨p, hp, z⟩
      · rw [z, ha] at e
        cases e
        exact (n1 _ _ rfl).elim
      · have e2 := hT p hp
        rw [z, e] at e2
        cases e2
        exact (n2 rfl).elim
  have noDict : ∀ {b : Addr} {o : Obj} {es : Array DictEntry} {ep : Nat}, s.heap.get? b = some o → o.data = .dict es ep → H b = none := fun e d =>
    off e (fun us n z => by rw [d] at z; cases z) fun z => by rw [d] at z; cases z
  have ns_of : ∀ {b : Addr} {m : Str → Option Value}, s.heap.Ns b m → (hidT s.heap H).Ns b m := fun ⟨o, es, ep, e, d, r⟩ => ⟨o, es, ep, hidT_get e (noDict e d), d, r⟩
  have KB : K.In (hidT s.heap H) := fun b o e => hidT_get (KX b o e) (by
    by_cases z : H b = none
    · exact z
    · rcases only b z with q | ⟨p, hp, q⟩
      · rw [q] at z e
        rw [hK z] at e
        cases e
      · have n := nT p hp
        rw [q, e] at n
        cases n)
  have md : Mod K mg (hidT s.heap H) := ⟨KB, ns_of hns, ⟨mb, ns_of hb, hbb⟩, lim.imp fun _ z => ⟨ns_of z.1, z.2⟩⟩
  have tbs : ∀ p ∈ tf, TabF K (hidT s.heap H) mg p.1 p.2.2 := fun p hp => by
    obtain ⟨cf, C⟩ := hC p hp
    refine ⟨p.2.1, cf, ?_, ?_, fun z => ?_⟩
    · obtain ⟨o, us, file, tf, flags, tg, inF, text, tt, e1, r1, r2, r3, r4, r5, r6, r7, r8, hne⟩ := C
      exact ⟨o, us, file, tf, flags, tg, inF, text, tt, hidT_get e1 (off e1 (fun vs n z => by rw [r2] at z; cases z) fun z => by rw [r2] at z; cases z; simp at r3), r1, r2, r3, r4, r5, r6, r7, r8, hne⟩
    · obtain ⟨bm, ob, b1, b2, b3, b4, b5, b6⟩ := hbm
      have nG : bm ≠ mainGlobals := fun q => by
        obtain ⟨o, es, ep, e, hd, _⟩ := hns
        rw [q, e] at b3
        cases b3
        rw [hd] at b6
        cases b6
      have nP : bm ≠ p.2.2 := fun q => by
        rw [q, hT p hp] at b3
        cases b3
        cases b6
      exact ⟨bm, ob, b1, b2, nG, nP, hidT_get b3 (off b3 (fun vs n z => by rw [b6] at z; cases z) fun z => by rw [b6] at z; cases z), b4, b5, b6⟩
    · obtain ⟨o, es, ep, e, hd, _⟩ := hns
      rw [z, hT p hp] at e
      cases e
      cases hd
  have ev : Env0 pg w K mg (hidT s.heap H) callerA [] s H :=
    ⟨rfl, md, fun _ _ e => of_hidT e, Nat.le_of_eq (hidT_size _ _), trivial, (fun b z => absurd (show b ∈ ([] : List Addr) from z) (by simp)), hok, .of_eq hg⟩
  refine codeAny_mono ((F _ KB (ns_of hns) (let ⟨o, es, ep, e1, e2⟩ := sm; ⟨o, hidT_get e1 (noDict e1 e2)⟩) tbs).run callerA [] s H ⟨[.ref a], []⟩ [.ref a] [.ref a] _ _ rfl rm ev (hbi s (.ref a)) (.cons rfl .nil) hsp) ?_
  rintro (e | fl) s' z
  · exact (hcx H e s' z).elim
  · cases fl with
    | ret u =>
      obtain ⟨v, H', os, bare, un, hok', ru, rfl⟩ := z
      cases ru
      have stay : ∀ b o, (∀ p ∈ tf, p.2.2 ≠ b) → s.heap.get? b = some o → s'.heap.get? b = some o := fun b o nb e => by
        rcases hO b with q | ⟨p, hp, q, _⟩ | ⟨ob, xs, q⟩
        · exact un.keep b o e q (by intro y; cases y) (by intro y; cases y)
        · exact absurd q (nb p hp)
        · have e1 := (hok b _ q).1
          have e2 := (hok' b _ (un.frzs b ob _ q)).1
          exact e2.trans (e1.symm.trans e)
      have grown : ∀ p ∈ tf, ∃ more : Array Value, s'.heap.get? p.2.2 = some { cls := .none, data := .fields more } := fun p hp => by
        obtain ⟨more, z⟩ := un.tbls p.2.2 #[] (hH p hp)
        exact ⟨_, hok' p.2.2 _ z⟩
      refine ⟨rfl, ⟨fun b o e => ?_, fun b o e => ?_⟩, os, bare⟩
      · by_cases hb : ∃ p ∈ tf, p.2.2 = b
        · obtain ⟨p, hp, ep⟩ := hb
          obtain ⟨more, hm⟩ := grown p hp
          rw [← ep] at e ⊢
          rw [hT p hp] at e
          cases e
          exact .inr (.inl ⟨((hC p hp).2.tab (hT p hp)).isCodeTable, rfl, #[], more, rfl, by rw [Array.empty_append]; exact hm⟩)
        · exact .inl (stay b o (fun p hp q => hb ⟨p, hp, q⟩) e)
      · by_cases hb : ∃ p ∈ tf, p.2.2 = b
        · obtain ⟨p, hp, ep⟩ := hb
          obtain ⟨more, hm⟩ := grown p hp
          rw [← ep]
          exact ⟨_, hm⟩
        · exact ⟨o, stay b o (fun p hp q => hb ⟨p, hp, q⟩) e⟩
    | next => exact z.elim
    | brk => exact z.elim
    | cont => exact z.elim
theorem tabs_out {K : PySem.W.Frag} {fs : List Addr} (h : tabsB K fs = true) : ∀ f ∈ fs, ∃ P, tabAt K f = some P ∧ K.lookup P = none := fun f hf => by
  unfold tabsB at h
  simp only [Bool.and_eq_true, List.all_eq_true, List.mem_map] at h
  have q := h.1 (tabAt K f) ⟨f, hf, rfl⟩
  cases e : tabAt K f with
  | none => rw [e] at q; cases q
  | some P => rw [e] at q; exact ⟨P, rfl, Option.isNone_iff_eq_none.mp q⟩
theorem tabs_ne {K : PySem.W.Frag} {f g P Q : Addr} {fs : List Addr} (h : tabsB K (f :: g :: fs) = true) (h1 : tabAt K f = some P) (h2 : tabAt K g = some Q) : P ≠ Q := fun e => by
  unfold tabsB at h
  simp only [Bool.and_eq_true, decide_eq_true_eq, List.map_cons, List.nodup_cons, List.mem_cons] at h
  exact h.2.1 (.inl (by rw [h1, h2, e]))
/-- what is known of the law's promise at the head's heap -/
def LawT (l : PySem.W.OpenLaw) (w : World) (K : PySem.W.Frag) (cx : CXT) (k n : Nat) (x : Str) (mg : Str → Option Value) (fa : Addr) (rs : List DefRec) : Prop :=
  ∃ (fd : FuncData) (fts : List Addr) (sp : Sp), tabsB K fts = true ∧ (∀ f ∈ fts, ∃ d ∈ rs, mg d.name = some (.ref f)) ∧ (∀ (s : Shared) (u : Value), BindsTo s fd ⟨[u], []⟩ [(x, u)]) ∧
    (∀ (H : Hp) (a : Addr) (ns : List Int), ns.length ≤ n → (∀ f ∈ fts, ∀ P, tabAt K f = some P → H P = some (.tbl #[])) → SqL K H a (ns.map V.int) → sp [.ref a] H (fun v _ => v = .bl true) fun _ _ _ => False) ∧
    ∀ bs : Heap, K.In bs → bs.Ns mainGlobals mg → SmB bs → (∀ f ∈ fts, ∀ P, tabAt K f = some P → TabF K bs mg f P) → FnG l.prog w K mg bs cx k fa fd [x] sp
theorem walkT {l : PySem.W.OpenLaw} {n k : Nat} {q : Program} {loose : List Str} {XP : (Str → Option Value) → Heap → Prop} {YP : World → Heap → Prop} {d : DefRec}
    {K : Params → PySem.W.Frag} {cx : CXT} {x : Str} (hi : importsNone q = true) (hn : l.most = some n) (hn2 : n ≤ sizeLine) (hdf : d.params.defaults = []) (rm : Room k callerA)
    (hY : ∀ (w : World) (h : Heap), YP w h → (K w.params).In h)
    (F : ∀ (w : World) (mg : Str → Option Value) (fa : Addr) (h : Heap), (K w.params).In h → h.Ns mainGlobals mg → mg d.name = some (.ref fa) → LawT l w (K w.params) cx k n x mg fa (recsOf q))
    (hcx : ∀ (H : Hp) (s : Shared) (e : Value) (s' : Shared), cx [] H s (fun _ _ _ => False) e s' → False) :
    PySem.W.WalkO q loose XP YP l.row.toRowW d [] (fun f vs => PySem.call f vs) := by
  refine Att.attach_call hn hdf ?_
  intro w _ s mg mb fa o pm cd doc a vs ns G Y ho hd hcd hmg hob hin hle hg
  have KX := hY w _ Y
  have sm : ∃ o es ep, s.heap.get? sysModules = some o ∧ o.data = .dict es ep := by
    obtain ⟨mm, ⟨o, es, ep, e1, e2, _⟩, _⟩ := (G.T.seer hi).mods
    exact ⟨o, es, ep, e1, e2⟩
  obtain ⟨fd, fts, sp, tB, hd2, hb, hsp, hF⟩ := F w mg fa _ KX G.T.g hmg
  have rv := vals_ints hin
  have lv := hin.length
  -- the tables
  obtain ⟨tf, htf, htf2⟩ : ∃ tf : List (Addr × Addr × Addr), (∀ p ∈ tf, p.1 ∈ fts ∧ tabAt (K w.params) p.1 = some p.2.2 ∧ (K w.params).lookup p.2.2 = none ∧ s.heap.get? p.2.2 = some { cls := .none, data := .fields #[] } ∧ CodeF (K w.params) p.1 (.ref p.2.1) ∧ PySem.W.CodeHd s.heap p.2.1 p.2.2) ∧ ∀ f ∈ fts, ∃ p ∈ tf, p.1 = f := by
    have one : ∀ f ∈ fts, ∃ p : Addr × Addr × Addr, p.1 = f ∧ tabAt (K w.params) p.1 = some p.2.2 ∧ (K w.params).lookup p.2.2 = none ∧ s.heap.get? p.2.2 = some { cls := .none, data := .fields #[] } ∧ CodeF (K w.params) p.1 (.ref p.2.1) ∧ PySem.W.CodeHd s.heap p.2.1 p.2.2 := fun f hf => by
      obtain ⟨P, hP, nP⟩ := tabs_out tB f hf
      obtain ⟨dd, hdm, hdn⟩ := hd2 f hf
      obtain ⟨a', o', fd', c, P', h1, h2, h3, h4, h5, h6⟩ := G.T.tab dd hdm
      rw [hdn] at h1
      cases h1
      have C := PySem.W.CodeHd.of h5 h6
      have hPt := h6
      unfold tabAt at hP
      split at hP
      · rename_i oK kf
        have e1 := KX _ _ kf
        rw [h2] at e1
        cases e1
        rw [h3] at hP
        simp only [h4] at hP
        split at hP
        · rename_i oc kc
          have e2 := KX _ _ kc
          obtain ⟨o2, us, file, tf, flags, tg, inF, text, tt, g1, g2, g3, g4, _⟩ := id C
          rw [g1] at e2
          cases e2
          rw [g3] at hP
          simp only [g4] at hP
          cases hP
          refine ⟨(f, c, P), rfl, ?_, nP, ?_, ⟨_, _, kf, h3, h4⟩, C⟩
          · show tabAt _ f = some P
            unfold tabAt
            simp only [kf, h3, h4, kc, g3, g4]
          · exact hPt.2
        · cases hP
      · cases hP
    clear hsp hF hd2 tB
    induction fts with
    | nil => exact ⟨[], ⟨fun p hp => (List.not_mem_nil hp).elim, fun f hf => (List.not_mem_nil hf).elim⟩⟩
    | cons f r ih =>
      obtain ⟨p, hp1, hp2⟩ := one f List.mem_cons_self
      obtain ⟨tf, t1, t2⟩ := ih fun g hg => one g (List.mem_cons_of_mem _ hg)
      refine ⟨p :: tf, fun z hz => ?_, fun g hg => ?_⟩
      · rcases List.mem_cons.mp hz with e | m
        · rw [e]
          exact ⟨by rw [hp1]; exact List.mem_cons_self, hp2⟩
        · exact ⟨List.mem_cons_of_mem _ (t1 z m).1, (t1 z m).2⟩
      · rcases List.mem_cons.mp hg with e | m
        · exact ⟨p, List.mem_cons_self, by rw [hp1, e]⟩
        · obtain ⟨z, z1, z2⟩ := t2 g m
          exact ⟨z, List.mem_cons_of_mem _ z1, z2⟩
  have bmn := G.T.bmain
  have hTb : ∀ p ∈ tf, s.heap.get? p.2.2 = some { cls := .none, data := .fields #[] } := fun p hp => (htf p hp).2.2.2.1
  have sm2 := sm
  have tabsF : ∀ bs : Heap, (∀ p ∈ tf, TabF (K w.params) bs mg p.1 p.2.2) → ∀ f ∈ fts, ∀ P, tabAt (K w.params) f = some P → TabF (K w.params) bs mg f P := fun bs h f hf P hP => by
    obtain ⟨p, hp, e⟩ := htf2 f hf
    have z := h p hp
    have t := (htf p hp).2.1
    rw [e] at z t
    rw [hP] at t
    cases t
    exact z
  have Fall : ∀ bs : Heap, (K w.params).In bs → bs.Ns mainGlobals mg → SmB bs → (∀ p ∈ tf, TabF (K w.params) bs mg p.1 p.2.2) → FnG l.prog w (K w.params) mg bs cx k fa fd [x] sp := fun bs h1 h2 h3 h4 => hF bs h1 h2 h3 (tabsF bs h4)
  have inT : ∀ b, (∃ p ∈ tf, p.2.2 = b) → s.heap.get? b = some { cls := .none, data := .fields #[] } := fun b ⟨p, hp, e⟩ => by rw [← e]; exact hTb p hp
  have aT : ¬ ∃ p ∈ tf, p.2.2 = a := fun z => by
    have q := inT a z
    rw [hob] at q
    have z' : Data.seq vs.toArray _ = Data.fields #[] := congrArg Obj.data (Option.some.inj q)
    cases z'
  have hfin : ∀ H : Hp, (∀ p ∈ tf, H p.2.2 = some (.tbl #[])) → ∀ f ∈ fts, ∀ P, tabAt (K w.params) f = some P → H P = some (.tbl #[]) := fun H h f hf P hP => by
    obtain ⟨p, hp, e⟩ := htf2 f hf
    have t := (htf p hp).2.1
    rw [e, hP] at t
    cases t
    exact h p hp
  have deci : ∀ b, Decidable (∃ p ∈ tf, p.2.2 = b) := fun b => Classical.propDecidable _
  cases hk : (K w.params).lookup a with
  | some o' =>
    have e := KX a o' hk
    rw [hob] at e
    cases e
    have hp : ∀ p ∈ tf, (if ∃ q ∈ tf, q.2.2 = p.2.2 then some (HO.tbl #[]) else none) = some (HO.tbl #[]) := fun p hp => if_pos ⟨p, hp, rfl⟩
    have S : SqL (K w.params) (fun b => if ∃ q ∈ tf, q.2.2 = b then some (HO.tbl #[]) else none) a (ns.map V.int) :=
      .inr ⟨_, vs.toArray, _, hk, rfl, rfl, rfl, by rw [List.size_toArray, lv]; exact Nat.le_trans hle hn2, by simpa using rv⟩
    refine law_inT (tf := tf) (H := fun b => if ∃ q ∈ tf, q.2.2 = b then some (HO.tbl #[]) else none) KX G.T.g G.T.b G.T.builtins G.T.nolimit hg hob rm bmn hTb (fun p hp => (htf p hp).2.2.1) (fun p hp => (htf p hp).2.2.2.2) sm Fall hb (fun b => ?_) (fun b u z => ?_) (fun b z => ?_) (fun z => absurd (if_neg aT) z) hp
      (hsp _ a ns hle (hfin _ hp) S) fun H e s' => hcx H s e s'
    · by_cases hb : ∃ q ∈ tf, q.2.2 = b
      · obtain ⟨p, hp, e⟩ := id hb
        exact .inr (.inl ⟨p, hp, e, if_pos hb⟩)
      · exact .inl (if_neg hb)
    · by_cases hb : ∃ q ∈ tf, q.2.2 = b
      · have z' := (if_pos hb).symm.trans z
        cases z'
        exact inT b hb
      · have z' := (if_neg hb).symm.trans z
        cases z'
    · by_cases hb : ∃ q ∈ tf, q.2.2 = b
      · exact .inr hb
      · exact absurd (if_neg hb) z
  | none =>
    obtain ⟨H, eH⟩ : ∃ H : Hp, H = fun b => if b = a then some (.frz { cls := .type "list", data := .seq vs.toArray } (.lst (ns.map V.int))) else if ∃ q ∈ tf, q.2.2 = b then some (HO.tbl #[]) else none := ⟨_, rfl⟩
    have Ha : H a = some (.frz { cls := .type "list", data := .seq vs.toArray } (.lst (ns.map V.int))) := by rw [eH]; exact if_pos rfl
    have Ht : ∀ b, (∃ q ∈ tf, q.2.2 = b) → H b = some (.tbl #[]) := fun b hb => by
      rw [eH]
      show (if b = a then _ else if ∃ q ∈ tf, q.2.2 = b then _ else _) = _
      rw [if_neg (fun e => aT (by rw [← e]; exact hb)), if_pos hb]
    have Hn : ∀ b, b ≠ a → ¬ (∃ q ∈ tf, q.2.2 = b) → H b = none := fun b h1 h2 => by
      rw [eH]
      show (if b = a then _ else if ∃ q ∈ tf, q.2.2 = b then _ else _) = _
      rw [if_neg h1, if_neg h2]
    clear eH
    have hp : ∀ p ∈ tf, H p.2.2 = some (.tbl #[]) := fun p hp => Ht _ ⟨p, hp, rfl⟩
    have cs3 : ∀ b, b = a ∨ (∃ q ∈ tf, q.2.2 = b) ∨ H b = none := fun b => by
      by_cases h1 : b = a
      · exact .inl h1
      · by_cases h2 : ∃ q ∈ tf, q.2.2 = b
        · exact .inr (.inl h2)
        · exact .inr (.inr (Hn b h1 h2))
    refine law_inT (tf := tf) (H := H) KX G.T.g G.T.b G.T.builtins G.T.nolimit hg hob rm bmn hTb (fun p hp => (htf p hp).2.2.1) (fun p hp => (htf p hp).2.2.2.2) sm Fall hb (fun b => ?_) (fun b u z => ?_) (fun b z => ?_) (fun _ => hk) hp
      (hsp _ a ns hle (hfin _ hp) (.inl (.inr ⟨_, Ha⟩))) fun H e s' => hcx H s e s'
    · rcases cs3 b with e | e | e
      · rw [e]
        exact .inr (.inr ⟨_, _, Ha⟩)
      · obtain ⟨p, hp, e2⟩ := id e
        exact .inr (.inl ⟨p, hp, e2, Ht b e⟩)
      · exact .inl e
    · rcases cs3 b with e | e | e
      · subst e
        rw [Ha] at z
        cases z
        exact ⟨hob, by rw [List.length_map]; exact Nat.le_trans hle hn2, vs, _, rv, hob⟩
      · rw [Ht b e] at z
        cases z
        exact inT b e
      · rw [e] at z
        cases z
    · rcases cs3 b with e | e | e
      · exact .inl e
      · exact .inr e
      · exact absurd e z
end
end GL

end
section
set_option Elab.async false
set_option linter.all false
set_option maxRecDepth 100000
set_option maxHeartbeats 4000000
/-! list(text); isinstance of data or of an own exception; the parameters of a lambda; tables behind calls. -/
namespace GL
open PySem PySem.Spec PyProof.Rows L2 LamX
def sgn (c : Nat) : V := .str ⟨#[c]⟩
def rLstT : List V → Hp → VK → Prop := fun xs H Q => ∃ z : Str, xs = [.str z] ∧ z.length ≤ 100000 ∧ ∀ q, H q = none → Q (.ref q) (upd H q (.lst (z.cps.toList.map sgn)))
theorem call_list_txt {X : Cx} (hc : X.calm = true) : CallR X (.type "list") rLstT := by
  intro pins s σ H xs us Q I r h
  obtain ⟨z, rfl, hz, q⟩ := h
  obtain ⟨u, rfl, ru⟩ := vals1 r
  obtain ⟨t, rfl⟩ := ru
  have hl : z.cps.size ≤ sizeLine := sz_le (show z.length ≤ 1000000 by omega)
  refine PySem.call_list_str (I.ok.hd hc) z t (fun h' tk acc c' hk e hi => ?_) hl
  refine ⟨.ref s.heap.objs.size, upd H s.heap.objs.size (.lst (z.cps.toList.map sgn)), I.laid hk (Nat.le_refl _) ⟨by rw [List.length_map, Array.length_toList]; exact hl, acc.toList, c', ?_, by rw [Array.toArray_toList]; exact e⟩, rfl, q _ (I.hok.fresh (Nat.le_refl _))⟩
  refine vals_of_idx _ _ (by rw [List.length_map, Array.length_toList, Array.length_toList]; exact hi.1) fun j u hj => ?_
  obtain ⟨c, t', hcj, rfl⟩ := hi.2 j u (by rw [← Array.getElem?_toList]; exact hj)
  exact ⟨sgn c, by simp [hcj], ⟨_, rfl⟩⟩
/-- isinstance(x, C): an own exception, or data -/
def rIsE (K : PySem.W.Frag) : List V → Hp → VK → Prop := fun xs H Q => rIsi K xs H Q ∨ rIsX K xs H Q
theorem call_isE {X : Cx} : CallR X (.builtin "isinstance") (rIsE X.K) := by
  intro pins s σ H xs us Q I r h
  rcases h with h | h
  · exact call_isi pins s σ H xs us Q I r h
  · exact call_isX pins s σ H xs us Q I r h
theorem isE_go {K : PySem.W.Frag} {p : Addr} {H : Hp} {v : V} {c : String} {Q : VK} (h : Kd p H v) (hc : c ∈ ["int", "bool", "str", "list", "tuple", "dict"]) (q : Q (.bl (isT (tyN H v) c)) H) : rIsE K [v, .ty c] H Q := .inl (isi_go h hc q)
theorem bindD0 {params : Arguments} {body : Expr} {scope : Scope} (h : ∀ (q : Str) (cl : List (Str × Addr)) (doc pm cv ctv : Value), bindArgs (PySem.W.kdv_fn "<lambda>" q params (.expr body) scope cl .none doc pm cv ctv) ⟨[], []⟩ = pure []) : BindD [] 0 params body scope := by
  intro q cl dV doc pm cv ctv s ds hD hl
  have e : ds = [] := List.length_eq_zero_iff.mp hl
  subst e
  rcases hD with ⟨_, rfl⟩ | ⟨t, nd, _⟩
  · exact .of_eq (h q cl doc pm cv ctv)
  · exact absurd rfl nd
theorem bindD1 {params : Arguments} {body : Expr} {scope : Scope} {x : Str} (h : ∀ (q : Str) (cl : List (Str × Addr)) (dV doc pm cv ctv : Value), ∃ k : Option (Array Value) → Sem (List (Str × Value)), bindArgs (PySem.W.kdv_fn "<lambda>" q params (.expr body) scope cl dV doc pm cv ctv) ⟨[], []⟩ = (seqItems? dV >>= k) ∧ ∀ v, k (some #[v]) = pure [(x, v)]) : BindD [x] 1 params body scope := by
  intro q cl dV doc pm cv ctv s ds hD hl
  match ds, hl with
  | [v], _ =>
    rcases hD with ⟨z, _⟩ | ⟨t, _, rfl, hg⟩
    · cases z
    · obtain ⟨k, h1, h2⟩ := h q cl (.ref t) doc pm cv ctv
      exact .of_defaults rfl hg rfl h1 (h2 v)
/-- all but p and the tables stays -/
def Kt (p : Addr) (H H' : Hp) : Prop := ∀ b o, b ≠ p → (∀ ps, o ≠ .tbl ps) → H b = some o → H' b = some o
theorem Kt.of {p : Addr} {H H' : Hp} (k : Kp p H H') : Kt p H H' := fun b o n _ h => k b o n h
theorem Kt.ex {p : Addr} {H H' : Hp} (k : Ex H H') : Kt p H H' := fun b o n _ h => k b o h
theorem Kt.nw {p : Addr} {H H' : Hp} (k : ExtN H H') : Kt p H H' := fun b o _ t h => k b o h t
theorem Kt.tr {p : Addr} {H H1 H2 : Hp} (a : Kt p H H1) (b : Kt p H1 H2) : Kt p H H2 := fun x o n t h => b x o n t (a x o n t h)
/-- p is no table and no code -/
theorem TabS.kp {H H' : Hp} {P p : Addr} {q : Str} {xs : List V} (hp : H p = some (.lst xs)) (t : TabS H P q) (k : Kp p H H') : TabS H' P q := by
  obtain ⟨ps, h1, h2, h3⟩ := t
  refine ⟨ps, k _ _ (fun e => by rw [e, hp] at h1; cases h1) h1, h2, fun pos cv hc => ?_⟩
  obtain ⟨c, e1, e2⟩ := h3 pos cv hc
  exact ⟨c, e1, k _ _ (fun e => by rw [e, hp] at e2; unfold CodeO at e2; cases e2) e2⟩
theorem Tabs.kp {T : List (Addr × Str)} {H H' : Hp} {p : Addr} {xs : List V} (hp : H p = some (.lst xs)) (t : Tabs T H) (k : Kp p H H') : Tabs T H' := fun z hz => TabS.kp hp (t z hz) k
theorem Rk.lst {H : Hp} {p c : Addr} {n : Nat} (r : Rk H p c n) : ∃ xs, H p = some (.lst xs) := let ⟨_, _, _, h, _⟩ := r.ex; ⟨_, h⟩
theorem Tabs.rk {T : List (Addr × Str)} {H H' : Hp} {p c : Addr} {n : Nat} (r : Rk H p c n) (t : Tabs T H) (k : Kp p H H') : Tabs T H' := let ⟨_, h⟩ := r.lst; Tabs.kp h t k
/-- .. when a lambda was made -/
theorem Rk.en {H H' : Hp} {p c : Addr} {n : Nat} (r : Rk H p c n) (e : ExtN H H') : Rk H' p c n := by
  obtain ⟨ns, t, l, h1, h2, h3⟩ := r.ex
  exact ⟨⟨ns, t, l, e _ _ h1 (fun _ z => by cases z), e _ _ h2 (fun _ z => by cases z), h3⟩⟩
theorem Kd.en {p : Addr} {H H' : Hp} (k : ExtN H H') {v : V} (h : Kd p H v) : Kd p H' v := by
  induction h with
  | non => exact .non
  | bl b => exact .bl b
  | int i => exact .int i
  | str z => exact .str z
  | lst n e z _ ih => exact .lst n (k _ _ e (fun _ z => by cases z)) z ih
  | tup n e z _ ih => exact .tup n (k _ _ e (fun _ z => by cases z)) z ih
  | dK n e => exact .dK n (k _ _ e (fun _ z => by cases z))
theorem rec_of {rs : List DefRec} {nm : Str} {mg : Str → Option Value} {f : Addr} (h : (rs.any fun e => e.name == nm) = true) (hm : mg nm = some (.ref f)) : ∃ d ∈ rs, mg d.name = some (.ref f) := by
  obtain ⟨d, h1, h2⟩ := List.any_eq_true.mp h
  exact ⟨d, h1, by rw [show d.name = nm from beq_iff_eq.mp h2]; exact hm⟩
/-- the name of a lambda of the def q -/
abbrev lamQ (q : Str) : Str := (q ++ ".<locals>.") ++ "<lambda>"
end GL

end
section
set_option Elab.async false
set_option linter.all false
set_option maxRecDepth 100000
set_option maxHeartbeats 4000000
/-! Instances of own classes: ==, != by an own __eq__, str by an own __str__. -/
namespace GL
open PySem PySem.W PySem.Spec PySem.Calls PyProof.Rows
section
variable {prog : Program} {w : World} {A : Around} {E : Value → Shared → Prop} {s : Shared} {K : PySem.W.Frag} {x y C f : Addr} {ox : Obj} {od : Option Obj}
theorem bound_blt {M : Model} {name : Str} {id : String} {args : List Value} {Q : Option Value → Shared → Prop} (X : K.In s.heap) (I : InstAt s.heap x ox C od) (hs : findIn K (.ref C) name = some (some (.builtin id)))
    (hb : ∀ self, bindSpecial (.builtin id) self = pure (.builtin id, [self])) (h : wpAny M A (call (.builtin id) (.ref x :: args)) (fun v => Q (some v)) E s) : wpAny M A (callSpecialIfBound? (.ref x) name args) Q E s := by
  simp only [callSpecialIfBound?, bindSpecialIfBound?]
  refine wpAny_holding (wpAny_bind (wpAny_bind (wpAny_bind (I.type.here ((looks_findIn X hs).here ?_)))))
  refine wpAny_bind (wpAny_askSetting (wpAny_ite ?_))
  have fin : wpAny M A (call (.builtin id) ([.ref x] ++ args) >>= fun v => pure (some v)) Q E s := wpAny_bind (wpAny_mono h (fun v s1 h1 => wpAny_pure h1) fun _ _ h1 => h1)
  split
  · exact wpAny_bind ((Looks.of_pure (hb _)).here (wpAny_pure (by exact fin)))
  · exact wpAny_tryCatch (wpAny_bind ((Looks.of_pure (hb _)).here (wpAny_pure (by exact fin))))
open Builtin in
theorem ne_own {Q : Value → Shared → Prop} (hu : A.units + 1 < cLine) (hu1 : A.in1.units < cLine) (X : K.In s.heap) (I : InstAt s.heap x ox C od) (hb : Looks (model prog w) s.heap (typeOf (.ref y)) (.ref C)) (hn : findIn K (.ref C) "__ne__" = some (some (.builtin "object.__ne__"))) (hm : mroIn K C (.type "object") = some true)
    (hs : findIn K (.ref C) "__eq__" = some (some (.ref f))) (hf : isFn K (.ref f) = true)
    (h : wpAny (model prog w) A.in1 (call (.ref f) [.ref x, .ref y]) (fun v s1 => ∃ b, v = .bool b ∧ Q (.bool (!b)) s1) E s) : wpAny (model prog w) A (compareOp .NotEq (.ref x) (.ref y)) Q E s := by
  have body : wpAny (model prog w) A.in1 (Builtin.«object.__ne__» ⟨[.ref x, .ref y], []⟩) (fun fin s1 => ∃ b, fin = .done (.ret (.bool (!b))) ∧ Q (.bool (!b)) s1) E s := by
    unfold Builtin.«object.__ne__»
    refine wpAny_bind (m := slotArgs "__ne__" 1 _) (wpAny_pure ?_)
    refine wpAny_bind (m := cRoomFor _ _) (wpAny_cRoomFor hu1 ?_)
    refine wpAny_bind (m := callSpecialIfBound? (.ref x) (Str.ofString "__eq__") _) (ifBound_K X I hs hf (wpAny_mono h (fun r s1 hq => ?_) fun _ _ z => z))
    obtain ⟨b, rfl, q⟩ := hq
    refine wpAny_bind (m := truthy (.bool b)) (wpAny_truthy_bool ?_)
    exact wpAny_pure ⟨b, rfl, q⟩
  have ent : wpAny (model prog w) A (call (.builtin "object.__ne__") [.ref x, .ref y]) (fun v s1 => ∃ b, v = .bool (!b) ∧ Q (.bool (!b)) s1) E s := by
    refine wpAny_call (codeAny_call_builtin (by decide +kernel) F.cmpEntry_ne (check_slot (i := "object.__ne__") (owner := "object") (n := "__ne__") (by decide +kernel) (by decide +kernel) (I.type.andThen (looks_mroIn X hm)) (F.cmpArgs_ne _ _) ?_))
    refine wpAny_mono body (fun r s1 hq => ?_) fun _ _ z => z
    obtain ⟨b, rfl, q⟩ := hq
    exact ⟨b, rfl, q⟩
  refine cmp_ofNotEq ?_
  unfold richCompare
  simp only [oneThing_ref]
  refine wpAny_holding (wpAny_bind (wpAny_cRoomFor (Nat.lt_of_succ_lt hu) ?_))
  rw [cmpInfo_NotEq]
  dsimp only
  refine wpAny_bind (I.type.here (wpAny_bind (hb.here ?_)))
  rw [show (Value.ref C != Value.ref C) = false from by simp]
  simp only [Bool.false_eq_true, if_false]
  refine wpAny_bind (wpAny_pure ?_)
  simp only [Bool.false_eq_true, if_false]
  have one : wpAny (model prog w) A (tryCompare (.ref x) "__ne__" (.ref y)) (fun r s1 => ∃ b, r = some (.bool (!b)) ∧ Q (.bool (!b)) s1) E s := by
    unfold tryCompare
    refine wpAny_bind (bound_blt X I hn (fun _ => rfl) (wpAny_mono ent (fun v s1 hv => ?_) fun _ _ z => z))
    obtain ⟨b, rfl, q⟩ := hv
    exact wpAny_pure ⟨b, rfl, q⟩
  refine wpAny_bind (wpAny_mono one (fun r s1 hq => ?_) fun _ _ z => z)
  obtain ⟨b, rfl, q⟩ := hq
  first | exact wpAny_pure q | exact wpAny_pure (wpAny_pure q)
end
end GL
namespace GL
open PySem PySem.Spec PyProof.Rows L2
section
variable {X : Cx} {cx : CXT} {k : Nat} {f C : Addr} {fd : FuncData} {ps : List Str} {sp : Sp} {dvs : List V} {ds : List Value} {E : XK} {x : Str} {p pos : Pos} {e : Expr} {es : List Expr} {t : TA}
/-- C(..) of an own class -/
theorem run_makeG {pins : List (Addr × Obj)} {σ : L2.St} {H : Hp} {s : Shared} {Q : VK} {us : List Value} {vs : List V} (M : Mk X.K C f) (F : FnG X.prog X.w X.K X.mg X.base cx k f fd ps sp) (gd : X.A.guards = some []) (hr : Room (k + 1) X.A) (hb : Binds X.K fd ps ds) (hd : Vals dvs ds)
    (hx : Passes cx X E) (I : Inv X pins σ H s) (r : Vals vs us)
    (h : ∀ x dx, H x = none → H dx = none → dx ≠ x → sp (.ref x :: (vs ++ dvs)) (upd (upd H dx (.own x)) x (.ins C dx [])) (fun v H2 => v = .non ∧ Q (.ref x) H2) E) :
    wpAny (model X.prog X.w) X.A (call (.ref C) us) (EP X pins σ Q) X.xe s := by
  have hq := h (s.heap.objs.size + 1) s.heap.objs.size (I.hok.fresh (Nat.le_succ _)) (I.hok.fresh (Nat.le_refl _)) (Nat.ne_of_lt (Nat.lt_succ_self _))
  have J := Inv.made (C := C) I
  have rr : Vals (V.ref (s.heap.objs.size + 1) :: (vs ++ dvs)) (Value.ref (s.heap.objs.size + 1) :: (us ++ ds)) := .cons rfl (r.append hd)
  have hl : (Value.ref (s.heap.objs.size + 1) :: us ++ ds).length = ps.length := by
    have z := rr.length
    rw [F.len _ _ _ _ hq] at z
    exact z.symm
  have rc := F.run (X.A.under (Code.builtin "type.__call__" ⟨Value.ref C :: us, []⟩)) X.stack _ _ ⟨Value.ref (s.heap.objs.size + 1) :: us, []⟩ (Value.ref (s.heap.objs.size + 1) :: (us ++ ds)) _ _ E gd (hr.make C us []) (J.env0.make C us []) (hb _ (Value.ref (s.heap.objs.size + 1) :: us) J.kIn hl) rr hq
  refine wpAny_call (make_map (f := f) I.kIn M.makes M.init (beq_iff_eq.mp M.fn) (codeAny_mono rc fun q s1 hq1 => ?_))
  cases q with
  | error er => exact hx pins σ _ _ er s1 J hq1
  | ok fl =>
    cases fl with
    | ret u =>
      obtain ⟨v, H', J3, rv, ev, q3⟩ := J.after hq1
      subst ev
      exact ⟨rv, ⟨V.ref (s.heap.objs.size + 1), H', J3, rfl, q3⟩⟩
    | next => exact hq1.elim
    | brk => exact hq1.elim
    | cont => exact hq1.elim
theorem pe_makeG (M : Mk X.K C f) (F : FnG X.prog X.w X.K X.mg X.base cx k f fd ps sp) (gd : X.A.guards = some []) (hr : Room (k + 1) X.A) (hg : Gl X x) (hm : X.mg x = some (.ref C)) (hb : Binds X.K fd ps ds) (hd : Vals dvs ds) (hx : Passes cx X E)
    (ha : PA X (e :: es) t) (hdb : (x == ("__debug__" : Str)) = false := by decide) (he : starEach (e :: es) X.env = (false, eval e X.env) :: starEach es X.env := by rfl) (hpl : (backTo pos (starEach es X.env)).any (·.1) = false := by rfl) :
    PE X (.Call (.Name x p) (e :: es) [] pos) (tMake C sp dvs E t) := by
  refine ⟨fun pins s σ H Q I h => wpAny_Call_Name_kw (ld_glob I hg hm ?_ hdb)⟩
  exact PySem.W.callWith_K (h₀ := X.base) I.ok.mod.kin M.kp (thn (ha.run pos pins s σ H _ I h) fun us s1 ⟨vs, H1, I1, r, q⟩ => ⟨I1.kIn, run_makeG M F gd hr hb hd hx I1 r q⟩) he hpl
/-- a method of one argument more, called by the machine -/
theorem meth2 {A : Around} {pins : List (Addr × Obj)} {σ : L2.St} {H : Hp} {s : Shared} {Q : VK} {us : List Value} {vs : List V} (F : FnG X.prog X.w X.K X.mg X.base cx k f fd ps sp) (hA : A.guards = some []) (hr : Room k A) (fr : A.frames = X.A.frames) (hb : Binds X.K fd ps []) (hx : Passes cx X E)
    (I : Inv X pins σ H s) (r : Vals vs us) (h : sp vs H Q E) : wpAny (model X.prog X.w) A (call (.ref f) us) (EP X pins σ Q) X.xe s := by
  have e0 : Env0 X.prog X.w X.K X.mg X.base A X.stack s H := by
    have z := I.env0
    exact ⟨by rw [fr]; exact z.frames, z.mod, z.bs, z.bsz, z.funs, z.frf, z.hok, z.bare⟩
  have hl : us.length = ps.length := r.length.symm.trans (F.len _ _ _ _ h)
  refine wpAny_call (codeAny_mono (F.run A X.stack s H ⟨us, []⟩ us vs Q E hA hr e0 (by have z := hb s us I.kIn (by rw [List.append_nil]; exact hl); rwa [List.append_nil] at z) r h) fun q s1 hq => ?_)
  cases q with
  | error er => exact hx pins σ H s er s1 I hq
  | ok fl =>
    cases fl with
    | ret w => exact I.after hq
    | next => exact hq.elim
    | brk => exact hq.elim
    | cont => exact hq.elim
/-- x == y, x != y by the own __eq__ of the class C -/
def rOwn (C : Addr) (sp : Sp) (E : XK) (neg : Bool) : R2 := fun x y H Q => ∃ a b dx dy fs gs, x = .ref a ∧ y = .ref b ∧ H a = some (.ins C dx fs) ∧ H b = some (.ins C dy gs) ∧ sp [x, y] H (fun v H' => ∃ k, v = .bl k ∧ Q (.bl (k != neg)) H') E
structure OwnE (K : PySem.W.Frag) (C f : Addr) : Prop where
  eq : PySem.W.findIn K (.ref C) "__eq__" = some (some (.ref f))
  fn : PySem.W.isFn K (.ref f) = true
  ne : PySem.W.findIn K (.ref C) "__ne__" = some (some (.builtin "object.__ne__"))
  ob : PySem.W.mroIn K C (.type "object") = some true
theorem op_eqO (O : OwnE X.K C f) (F : FnG X.prog X.w X.K X.mg X.base cx k f fd ps sp) (gd : X.A.guards = some []) (hr : Room k X.A) (hb : Binds X.K fd ps []) (hx : Passes cx X E) : OpR X (compareOp .Eq) (rOwn C sp E false) := by
  intro pins s σ H x y v u Q I rx ry h
  obtain ⟨a, b, dx, dy, fs, gs, rfl, rfl, ha, hb', hsp⟩ := h
  cases rx
  cases ry
  obtain ⟨mA, J, _⟩ := ins_get I.hok ha
  obtain ⟨mB, J', _⟩ := ins_get I.hok hb'
  obtain ⟨od, J, _⟩ := J.look
  obtain ⟨od', J', _⟩ := J'.look
  obtain ⟨m, hF⟩ := I.fr
  show wpAny (model X.prog X.w) X.A (richCompare .Eq (.ref a) (.ref b)) (EP X pins σ Q) X.xe s
  refine PySem.W.cmp_K (op := .Eq) (tb := .ref C) hr.units0 hF I.ok.mod.kin J J'.type (by simp [PySem.W.notFirst]) O.eq O.fn ?_
  refine wpAny_mono (meth2 (vs := [.ref a, .ref b]) F gd hr rfl hb hx I (.cons rfl (.cons rfl .nil)) hsp) (fun r s1 hq => ?_) fun _ _ z => z
  obtain ⟨z, H', I', rz, kk, rfl, q⟩ := hq
  cases rz
  exact ⟨.bl (kk != false), H', I', by cases kk <;> rfl, q⟩
theorem op_neO (O : OwnE X.K C f) (F : FnG X.prog X.w X.K X.mg X.base cx k f fd ps sp) (gd : X.A.guards = some []) (hr : Room (k + 1) X.A) (hb : Binds X.K fd ps []) (hx : Passes cx X E) : OpR X (compareOp .NotEq) (rOwn C sp E true) := by
  intro pins s σ H x y v u Q I rx ry h
  obtain ⟨a, b, dx, dy, fs, gs, rfl, rfl, ha, hb', hsp⟩ := h
  cases rx
  cases ry
  obtain ⟨mA, J, _⟩ := ins_get I.hok ha
  obtain ⟨mB, J', _⟩ := ins_get I.hok hb'
  obtain ⟨od, J, _⟩ := J.look
  obtain ⟨od', J', _⟩ := J'.look
  have un := hr.units
  refine GL.ne_own (by omega) (hr.in1.units0) I.kIn J J'.type O.ne O.ob O.eq O.fn ?_
  refine wpAny_mono (meth2 (vs := [.ref a, .ref b]) F gd hr.in1 rfl hb hx I (.cons rfl (.cons rfl .nil)) hsp) (fun r s1 hq => ?_) fun _ _ z => z
  obtain ⟨z, H', I', rz, kk, rfl, q⟩ := hq
  cases rz
  exact ⟨kk, rfl, .bl (kk != true), H', I', by cases kk <;> rfl, q⟩
/-- str(x) by the own __str__ -/
def rStrO (C : Addr) (sp : Sp) (E : XK) : List V → Hp → VK → Prop := fun xs H Q => ∃ a dx fs, xs = [.ref a] ∧ H a = some (.ins C dx fs) ∧ sp [.ref a] H (fun v H' => ∃ z, v = .str z ∧ Q v H') E
theorem call_strO (hs : PySem.W.findIn X.K (.ref C) "__str__" = some (some (.ref f))) (hf : PySem.W.isFn X.K (.ref f) = true) (F : FnG X.prog X.w X.K X.mg X.base cx k f fd ps sp) (gd : X.A.guards = some []) (hr : Room (k + 2) X.A) (hb : Binds X.K fd ps []) (hx : Passes cx X E) : CallR X (.type "str") (rStrO C sp E) := by
  intro pins s σ H xs us Q I r h
  obtain ⟨a, dx, fs, rfl, ha, hsp⟩ := h
  obtain ⟨u, rfl, ru⟩ := vals1 r
  cases ru
  obtain ⟨mA, J, _⟩ := ins_get I.hok ha
  obtain ⟨od, J, _⟩ := J.look
  refine PySem.W.kso_call (hr.in1.in1.units0) I.kIn J hs hf ?_
  refine wpAny_mono (meth2 (vs := [.ref a]) F gd hr.in1.in1 rfl hb hx I (.cons rfl .nil) hsp) (fun r s1 hq => ?_) fun _ _ z => z
  obtain ⟨z, H', I', rz, y, rfl, q⟩ := hq
  obtain ⟨t, rfl⟩ := rz
  exact ⟨.str y, H', I', ⟨t, rfl⟩, q⟩
end
end GL

end
section
set_option Elab.async false
set_option linter.all false
set_option maxRecDepth 100000
set_option maxHeartbeats 4000000
/-! What is never run; walks over nothing. -/
namespace GL
open PySem PySem.Spec PyProof.Rows L2
section
variable {X : Cx}
def tNo : TE := fun _ _ _ => False
def tNoS : TS := fun _ _ _ => False
def tNoT : TT := fun _ _ _ => False
def gNo : TG := fun _ _ _ _ => False
def iNo : TI := fun _ _ _ => False
theorem pe_dead {e : Expr} : PE X e tNo := ⟨fun _ _ _ _ _ _ h => h.elim⟩
theorem ps_dead {st : Stmt} : PS X st tNoS := ⟨fun _ _ _ _ _ _ h => h.elim⟩
theorem pss_dead {st : List Stmt} : PSs X st tNoS := ⟨fun _ _ _ _ _ _ h => h.elim⟩
theorem pts_dead {es : List Expr} : PTs X es tNoT := ⟨fun _ _ _ _ _ _ h => h.elim⟩
theorem pg_dead {e : Expr} : PG X e gNo := ⟨fun _ _ _ _ _ _ _ _ _ h => h.elim⟩
theorem pi_dead {tg e : Expr} : PI X tg e iNo := ⟨fun _ _ _ _ _ _ h => h.elim⟩
end
section
variable {p : Addr} {wi wi1 : TI} {g g1 : TG} {tt tt1 : TT} {te tk tv : TE} {vs vs1 : List Nat} {σ : L2.St} {H : Hp} {Q : VK} {K : PySem.W.Frag}
theorem lcE (src : Src p wi σ H []) (q : ∀ D H2, H D = none → H2 D = some (.lst []) → Ex H H2 → Q (.ref D) H2) : tLc wi g tt te vs σ H Q := src _ fun J H1 e1 w D hD =>
  lc_it w (fun i H2 => H2 = upd H1 D (.lst [])) rfl (fun i H2 _ e => by rw [e]; exact Ex.kp (Ex.nw hD)) (fun i x H2 H3 hi => absurd hi (Nat.not_lt_zero _)) fun H2 e => by rw [e]; exact q D _ (e1.no hD) upd_same (e1.tr (Ex.nw hD))
theorem lc2E (src : Src p wi σ H []) (q : ∀ D H2, H D = none → H2 D = some (.lst []) → Ex H H2 → Q (.ref D) H2) : tLc2 wi g tt wi1 g1 tt1 te vs vs1 σ H Q := src _ fun J H1 e1 w D hD =>
  ⟨fun i m H2 => i = 0 ∧ H2 = upd H1 D (.lst []), ⟨0, rfl, rfl⟩, fun i m H2 ⟨ei, e⟩ => .inl (by
    subst ei; subst e
    exact ⟨w.stops _ (Ex.kp (Ex.nw hD)), q D _ (e1.no hD) upd_same (e1.tr (Ex.nw hD))⟩)⟩
theorem dcE (src : Src p wi σ H []) (q : ∀ D H2, H D = none → H2 D = some (.dK []) → Ex H H2 → Q (.ref D) H2) : tDc wi g tt tk tv vs σ H Q := src _ fun J H1 e1 w D hD =>
  ⟨fun i m H2 => i = 0 ∧ H2 = upd H1 D (.dK []), ⟨0, rfl, rfl⟩, fun i m H2 ⟨ei, e⟩ => .inl (by
    subst ei; subst e
    exact ⟨w.stops _ (Ex.kp (Ex.nw hD)), q D _ (e1.no hD) upd_same (e1.tr (Ex.nw hD))⟩)⟩
theorem forE {tb : TS} {D : Ends} (src : Src p wi σ H []) (q : ∀ H1, Ex H H1 → D.nx σ H1) : tFor wi g tb D σ H := src _ fun J H1 e1 w =>
  for_it w (fun i τ H2 => τ = σ ∧ H2 = H1) ⟨rfl, rfl⟩ (fun i τ H2 _ e => by rw [e.2]; exact Kp.rfl' _) (fun i x τ H2 H3 hi => absurd hi (Nat.not_lt_zero _)) fun τ H2 e => by rw [e.1, e.2]; exact q H1 e1
/-- the empty tuple, the empty list, held by a name -/
theorem srcT {i : Nat} {a : Addr} (hi : σ[i]? = some (some (.ref a))) (ha : H a = some (.tup [])) : Src (a + 1) (iTup K (tVar i)) σ H [] := Src.nameT hi (Nat.ne_of_lt (Nat.lt_succ_self a)) ha
theorem srcL {i : Nat} {a : Addr} (hi : σ[i]? = some (some (.ref a))) (ha : H a = some (.lst [])) : Src (a + 1) (iList K (tVar i)) σ H [] := Src.nameL hi (Nat.ne_of_lt (Nat.lt_succ_self a)) ha
/-- .. told by an expression -/
def SrcE (wi : TI) (σ : L2.St) (H : Hp) : Prop := ∀ R : It → Hp → Prop, (∀ (J : It) (H1 : Hp), Ex H H1 → (∀ H2, Ex H1 H2 → J.stop 0 H2) → R J H1) → wi σ H R
theorem srcE_L (h : ∀ Q : VK, (∀ a H1, Ex H H1 → H1 a = some (.lst []) → Q (.ref a) H1) → te σ H Q) : SrcE (iList K te) σ H := fun R q => h _ fun a H1 e ha => ⟨a, rfl, ⟨[], SqL.of ha⟩, q _ H1 e fun H2 e2 => (walk_list (K := K) (a := a) (xs := [])).stops H2 (SqL.of (e2 _ _ ha))⟩
theorem srcE_T (h : ∀ Q : VK, (∀ a H1, Ex H H1 → H1 a = some (.tup []) → Q (.ref a) H1) → te σ H Q) : SrcE (iTup K te) σ H := fun R q => h _ fun a H1 e ha => ⟨a, rfl, ⟨[], SqT.of ha⟩, q _ H1 e fun H2 e2 => (walk_tup (K := K) (a := a) (xs := [])).stops H2 (SqT.of (e2 _ _ ha))⟩
theorem srcE_z {ta : TA} (h : ∀ Q : List V → Hp → Prop, (∀ a b H1, Ex H H1 → H1 a = some (.lst []) → H1 b = some (.lst []) → Q [.ref a, .ref b] H1) → ta σ H Q) : SrcE (iZip K ta) σ H := fun R q => h _ fun a b H1 e ha hb =>
  ⟨a, b, [], [], rfl, SqL.of ha, SqL.of hb, q _ H1 e fun H2 e2 => (walk_zip (K := K) (a := a) (b := b) (xs := []) (ys := []) (n := 0) rfl).stops H2 ⟨SqL.of (e2 _ _ ha), SqL.of (e2 _ _ hb)⟩⟩
theorem lcE' (src : SrcE wi σ H) (q : ∀ D H2, H D = none → H2 D = some (.lst []) → Ex H H2 → Q (.ref D) H2) : tLc wi g tt te vs σ H Q := src _ fun J H1 e1 st D hD =>
  ⟨fun i m H2 => i = 0 ∧ H2 = upd H1 D (.lst []), ⟨0, rfl, rfl⟩, fun i m H2 ⟨ei, e⟩ => .inl (by
    subst ei; subst e
    exact ⟨st _ (Ex.nw hD), q D _ (e1.no hD) upd_same (e1.tr (Ex.nw hD))⟩)⟩
theorem lc2E' (src : SrcE wi σ H) (q : ∀ D H2, H D = none → H2 D = some (.lst []) → Ex H H2 → Q (.ref D) H2) : tLc2 wi g tt wi1 g1 tt1 te vs vs1 σ H Q := src _ fun J H1 e1 st D hD =>
  ⟨fun i m H2 => i = 0 ∧ H2 = upd H1 D (.lst []), ⟨0, rfl, rfl⟩, fun i m H2 ⟨ei, e⟩ => .inl (by
    subst ei; subst e
    exact ⟨st _ (Ex.nw hD), q D _ (e1.no hD) upd_same (e1.tr (Ex.nw hD))⟩)⟩
theorem dcE' (src : SrcE wi σ H) (q : ∀ D H2, H D = none → H2 D = some (.dK []) → Ex H H2 → Q (.ref D) H2) : tDc wi g tt tk tv vs σ H Q := src _ fun J H1 e1 st D hD =>
  ⟨fun i m H2 => i = 0 ∧ H2 = upd H1 D (.dK []), ⟨0, rfl, rfl⟩, fun i m H2 ⟨ei, e⟩ => .inl (by
    subst ei; subst e
    exact ⟨st _ (Ex.nw hD), q D _ (e1.no hD) upd_same (e1.tr (Ex.nw hD))⟩)⟩
theorem forE' {tb : TS} {D : Ends} (src : SrcE wi σ H) (q : ∀ H1, Ex H H1 → D.nx σ H1) : tFor wi g tb D σ H := src _ fun J H1 e1 st =>
  ⟨fun i m τ H2 => i = 0 ∧ τ = σ ∧ H2 = H1, ⟨0, rfl, rfl, rfl⟩, fun i m τ H2 ⟨ei, et, e⟩ => .inl (by
    subst ei; subst et; subst e
    exact ⟨st _ (Ex.rfl' _), q _ e1⟩)⟩
end
end GL

end
section
set_option Elab.async false
set_option linter.all false
set_option maxRecDepth 100000
set_option maxHeartbeats 4000000
/-! What the written part says of an own class. -/
namespace GL
open PySem PySem.Spec PyProof.Rows L2
structure InsC (K : PySem.W.Frag) (C : Addr) : Prop where
  cl : Cls K C
  ha : PySem.W.findIn K (.ref C) "__class__" = some (some (.builtin "object.__class__"))
  hn : PySem.W.specialIn K (.builtin "object.__class__") "__get__" = some (some (.builtin "getset_descriptor.__get__"))
  htk : PySem.W.takesIn K (.builtin "object.__class__") = some true
  hm : PySem.W.mroIn K C (.type "object") = some true
theorem InsC.ty {K : PySem.W.Frag} {H : Hp} {a C dx : Addr} {fs : List (Str × V)} (t : InsC K C) (e : H a = some (.ins C dx fs)) : TyX K H (.ref a) (.ref C) := .base (.ins e t.cl t.ha t.hn t.htk t.hm)
theorem isO_go {K : PySem.W.Frag} {H : Hp} {a C dx : Addr} {fs : List (Str × V)} {b : Bool} {u : Value} {c : V} {Q : VK} (t : InsC K C) (e : H a = some (.ins C dx fs)) (hc : ClsV c u) (hk : PySem.W.kitOne K (.ref C) u = some b) (q : Q (.bl b) H) : rIsE K [.ref a, c] H Q :=
  .inl ⟨.ref a, c, _, u, b, rfl, hc, t.ty e, hk, q⟩
def insB (K : PySem.W.Frag) (C : Addr) : Bool := PySem.W.plainGet K C Str.empty && PySem.W.hasDictIn K C && PySem.W.plainOver K C && decide (PySem.W.findIn K (.ref C) "__setattr__" = some (some (.builtin "object.__setattr__"))) &&
  decide (PySem.W.findIn K (.ref C) "__class__" = some (some (.builtin "object.__class__"))) && decide (PySem.W.specialIn K (.builtin "object.__class__") "__get__" = some (some (.builtin "getset_descriptor.__get__"))) &&
  decide (PySem.W.takesIn K (.builtin "object.__class__") = some true) && decide (PySem.W.mroIn K C (.type "object") = some true)
theorem ins_of {K : PySem.W.Frag} {C : Addr} (h : insB K C = true) : InsC K C := by
  unfold insB at h
  simp only [Bool.and_eq_true, decide_eq_true_eq] at h
  obtain ⟨⟨⟨⟨⟨⟨⟨h1, h2⟩, h3⟩, h4⟩, h5⟩, h6⟩, h7⟩, h8⟩ := h
  exact ⟨⟨h1, h2, h3, h4⟩, h5, h6, h7, h8⟩
def mkB (K : PySem.W.Frag) (C : Addr) : Bool := PySem.W.makesIn K C && PySem.W.keepIn K (.ref C)
theorem mk_of {K : PySem.W.Frag} {C f : Addr} (h : mkB K C = true) (h1 : PySem.W.findIn K (.ref C) "__init__" = some (some (.ref f))) (h2 : PySem.W.isFn K (.ref f) = true) : Mk K C f := by
  unfold mkB at h
  simp only [Bool.and_eq_true] at h
  exact ⟨h.1, h1, h2, h.2⟩
def noA (K : PySem.W.Frag) (C : Addr) (fs : List Str) : Bool := fs.all fun f => decide (PySem.W.findIn K (.ref C) f = some none)
theorem noA_of {K : PySem.W.Frag} {C : Addr} {fs : List Str} {f : Str} (h : noA K C fs = true) (hf : f ∈ fs) : NoAttr K C f := by
  have q : PySem.W.findIn K (.ref C) f = some none := of_decide_eq_true (List.all_eq_true.mp h f hf)
  exact q
def ownB (K : PySem.W.Frag) (C f : Addr) : Bool := PySem.W.isFn K (.ref f) && decide (PySem.W.findIn K (.ref C) "__ne__" = some (some (.builtin "object.__ne__"))) && decide (PySem.W.mroIn K C (.type "object") = some true)
theorem own_of {K : PySem.W.Frag} {C f : Addr} (h : ownB K C f = true) (h1 : PySem.W.findIn K (.ref C) "__eq__" = some (some (.ref f))) : OwnE K C f := by
  unfold ownB at h
  simp only [Bool.and_eq_true, decide_eq_true_eq] at h
  exact ⟨h1, h.1.1, h.1.2, h.2⟩
end GL

end
section
set_option Elab.async false
set_option linter.all false
set_option maxRecDepth 100000
set_option maxHeartbeats 1000000
/-! Data apart from the heap: what a value is, whatever stands where. Owners are lists that one name alone holds. -/
namespace DD
open PySem PySem.Spec PyProof.Rows L2 GL

/-- where classes stand, those of errors; the tables of the defs that make lambdas -/
structure Cb where
  c : Nat → Addr
  x : Nat → Addr
  T : List (Addr × Str)
inductive D where
  | non | bl (b : Bool) | int (i : Int) | str (x : Str) | lst (ds : List D) | tup (ds : List D) | dk (ks : List Key) (ds : List D) | ob (c : Nat) (ns : List Str) (ds : List D) | lk (a : Addr) | dt (ks : List (List Key)) (ds : List D)

mutual
inductive Dv (K : PySem.W.Frag) (cp : Cb) (G : Addr → Prop) (H : Hp) : V → D → Prop
  | non : Dv K cp G H .non .non
  | bl (b : Bool) : Dv K cp G H (.bl b) (.bl b)
  | int (i : Int) : Dv K cp G H (.int i) (.int i)
  | str (x : Str) : Dv K cp G H (.str x) (.str x)
  | lst {a : Addr} {vs : List V} {ds : List D} : H a = some (.lst vs) → ¬ G a → DvA K cp G H vs ds → Dv K cp G H (.ref a) (.lst ds)
  | tup {a : Addr} {vs : List V} {ds : List D} : H a = some (.tup vs) → ¬ G a → DvA K cp G H vs ds → Dv K cp G H (.ref a) (.tup ds)
  | kt {a : Addr} {vs : List V} {ds : List D} : (∀ H', SqT K H' a vs) → DvA K cp G H vs ds → (∀ d ∈ ds, ∃ x, d = .str x) → Dv K cp G H (.ref a) (.tup ds)
  | dk {a : Addr} {kvs : List (Key × V)} {ks : List Key} {ds : List D} : Rd H a (.dK kvs) → ¬ G a → kvs.map (·.1) = ks → DvA K cp G H (kvs.map (·.2)) ds → Dv K cp G H (.ref a) (.dk ks ds)
  | ob {a dx : Addr} {c : Nat} {fs : List (Str × V)} {ns : List Str} {ds : List D} : H a = some (.ins (cp.c c) dx fs) → ¬ G a → fs.map (·.1) = ns → DvA K cp G H (fs.map (·.2)) ds → Dv K cp G H (.ref a) (.ob c ns ds)
  | lk (a : Addr) : Dv K cp G H (.ref a) (.lk a)
  | dt {a : Addr} {kvs : List (List Key × V)} {ks : List (List Key)} {ds : List D} : Rd H a (.dT kvs) → ¬ G a → kvs.map (·.1) = ks → DvA K cp G H (kvs.map (·.2)) ds → Dv K cp G H (.ref a) (.dt ks ds)
inductive DvA (K : PySem.W.Frag) (cp : Cb) (G : Addr → Prop) (H : Hp) : List V → List D → Prop
  | nil : DvA K cp G H [] []
  | cons {v : V} {vs : List V} {d : D} {ds : List D} : Dv K cp G H v d → DvA K cp G H vs ds → DvA K cp G H (v :: vs) (d :: ds)
end
/-- o still stands at a; a code object's table may have grown -/
def Sm (o : HO) (H' : Hp) (a : Addr) : Prop := match o with
  | .tbl _ => ∃ qs, H' a = some (.tbl qs)
  | o => H' a = some o
theorem Sm.of {o : HO} {H' : Hp} {a : Addr} (h : H' a = some o) : Sm o H' a := by
  cases o <;> first | exact ⟨_, h⟩ | exact h
theorem Sm.is {o : HO} {H' : Hp} {a : Addr} (h : Sm o H' a) : ∃ u, H' a = some u := by
  cases o <;> first | exact ⟨_, h⟩ | exact h.elim fun _ z => ⟨_, z⟩
theorem Sm.tr {o : HO} {H1 H2 : Hp} {a : Addr} (h : Sm o H1 a) (k : ∀ u, H1 a = some u → Sm u H2 a) : Sm o H2 a := by
  cases o <;> first | exact k _ h | (obtain ⟨q, z⟩ := h; exact (show Sm (.tbl q) H2 a from k _ z))
/-- .. to the letter, unless it is a table -/
theorem Sm.to {o : HO} {H' : Hp} {a : Addr} (h : Sm o H' a) (n : ∀ qs, o ≠ .tbl qs) : H' a = some o := by
  cases o <;> first | exact h | exact absurd rfl (n _)
/-- all that is told is kept, and stays outside -/
structure Mv (G : Addr → Prop) (H : Hp) (G' : Addr → Prop) (H' : Hp) : Prop where
  k : ∀ a o, ¬ G a → H a = some o → ¬ G' a ∧ Sm o H' a
theorem rd_some {H : Hp} {a : Addr} {u : HO} (r : Rd H a u) : ∃ o, H a = some o := r.elim (fun h => ⟨_, h⟩) fun ⟨_, h⟩ => ⟨_, h⟩
theorem Mv.rd {G G' : Addr → Prop} {H H' : Hp} (m : Mv G H G' H') {a : Addr} {u : HO} (n : ¬ G a) (r : Rd H a u) (hu : ∀ qs, u ≠ .tbl qs := by intro _ z; cases z) : ¬ G' a ∧ Rd H' a u := by
  rcases r with h | ⟨o, h⟩
  · exact ⟨(m.k _ _ n h).1, .inl ((m.k _ _ n h).2.to hu)⟩
  · exact ⟨(m.k _ _ n h).1, .inr ⟨o, (m.k _ _ n h).2⟩⟩
section
variable {K : PySem.W.Frag} {cp : Cb} {G G' : Addr → Prop} {H H' : Hp}
mutual
theorem Dv.mv (m : Mv G H G' H') : ∀ (d : D) (v : V), Dv K cp G H v d → Dv K cp G' H' v d
  | .non, _, h => by cases h; exact .non
  | .bl b, _, h => by cases h; exact .bl b
  | .int i, _, h => by cases h; exact .int i
  | .str x, _, h => by cases h; exact .str x
  | .lst ds, _, h => by
    cases h with
    | @lst a vs _ h1 n h2 => exact .lst (m.k _ _ n h1).2 (m.k _ _ n h1).1 (DvA.mv m ds vs h2)
  | .tup ds, _, h => by
    cases h with
    | @tup a vs _ h1 n h2 => exact .tup (m.k _ _ n h1).2 (m.k _ _ n h1).1 (DvA.mv m ds vs h2)
    | @kt a vs _ h1 h2 h3 => exact .kt h1 (DvA.mv m ds vs h2) h3
  | .dk ks ds, _, h => by
    cases h with
    | @dk a kvs _ _ h1 n e h2 => exact .dk (m.rd n h1).2 (m.rd n h1).1 e (DvA.mv m ds _ h2)
  | .ob c ns ds, _, h => by
    cases h with
    | @ob a dx _ fs _ _ h1 n e h2 => exact .ob (m.k _ _ n h1).2 (m.k _ _ n h1).1 e (DvA.mv m ds _ h2)
  | .lk a, _, h => by cases h; exact .lk a
  | .dt ks ds, _, h => by
    cases h with
    | @dt a kvs _ _ h1 n e h2 => exact .dt (m.rd n h1).2 (m.rd n h1).1 e (DvA.mv m ds _ h2)
theorem DvA.mv (m : Mv G H G' H') : ∀ (ds : List D) (vs : List V), DvA K cp G H vs ds → DvA K cp G' H' vs ds
  | [], _, h => by cases h; exact .nil
  | d :: ds, _, h => by
    cases h with
    | cons h1 h2 => exact .cons (Dv.mv m d _ h1) (DvA.mv m ds _ h2)
end
theorem Mv.ex (e : Ex H H') : Mv G H G H' := ⟨fun a o n h => ⟨n, .of (e a o h)⟩⟩
theorem Mv.sub (s : ∀ a, G' a → G a) : Mv G H G' H := ⟨fun a o n h => ⟨fun g => n (s a g), .of h⟩⟩
theorem Mv.tr {G1 : Addr → Prop} {H1 : Hp} (a : Mv G H G1 H1) (b : Mv G1 H1 G' H') : Mv G H G' H' := ⟨fun x o n h => have z := a.k x o n h; ⟨z.2.is.elim fun u hu => (b.k x u z.1 hu).1, z.2.tr fun u hu => (b.k x u z.1 hu).2⟩⟩
/-- one more owner -/
def plus (G : Addr → Prop) (p : Addr) : Addr → Prop := fun a => G a ∨ a = p
theorem Mv.nw {p : Addr} (n : H p = none) : Mv G H (plus G p) H := ⟨fun a o g h => ⟨fun z => z.elim g (fun e => by subst e; rw [n] at h; cases h), .of h⟩⟩
theorem DvA.len : ∀ {vs : List V} {ds : List D}, DvA K cp G H vs ds → vs.length = ds.length
  | [], [], _ => rfl
  | _ :: _, _ :: _, .cons _ h => by simp [DvA.len h]
theorem DvA.get : ∀ {vs : List V} {ds : List D} {i : Nat} {d : D}, DvA K cp G H vs ds → ds[i]? = some d → ∃ v, vs[i]? = some v ∧ Dv K cp G H v d
  | [], [], i, _, _, h => by simp at h
  | v :: _, d :: _, 0, _, .cons h _, e => by simp at e; subst e; exact ⟨v, rfl, h⟩
  | _ :: vs, _ :: ds, i + 1, _, .cons _ h, e => by simpa using DvA.get (vs := vs) (ds := ds) (i := i) h (by simpa using e)
theorem DvA.app : ∀ {vs ws : List V} {ds es : List D}, DvA K cp G H vs ds → DvA K cp G H ws es → DvA K cp G H (vs ++ ws) (ds ++ es)
  | [], _, [], _, _, h => h
  | _ :: _, _, _ :: _, _, .cons a b, h => .cons a (DvA.app b h)
theorem DvA.set {v : V} {d : D} (h0 : Dv K cp G H v d) : ∀ {vs : List V} {ds : List D} (i : Nat), DvA K cp G H vs ds → DvA K cp G H (vs.set i v) (ds.set i d)
  | [], [], _, _ => .nil
  | _ :: _, _ :: _, 0, .cons _ b => .cons h0 b
  | _ :: _, _ :: _, i + 1, .cons a b => .cons a (DvA.set h0 i b)
theorem DvA.drop : ∀ {vs : List V} {ds : List D} (n : Nat), DvA K cp G H vs ds → DvA K cp G H (vs.drop n) (ds.drop n)
  | [], [], n, _ => by simpa using DvA.nil
  | _ :: _, _ :: _, 0, h => h
  | _ :: vs, _ :: ds, n + 1, .cons _ b => by simpa using DvA.drop (vs := vs) (ds := ds) n b
theorem DvA.take : ∀ {vs : List V} {ds : List D} (n : Nat), DvA K cp G H vs ds → DvA K cp G H (vs.take n) (ds.take n)
  | [], [], n, _ => by simpa using DvA.nil
  | _ :: _, _ :: _, 0, h => .nil
  | _ :: vs, _ :: ds, n + 1, .cons a b => .cons a (DvA.take (vs := vs) (ds := ds) n b)
theorem DvA.rev {vs : List V} {ds : List D} (h : DvA K cp G H vs ds) : DvA K cp G H vs.reverse ds.reverse := by
  induction vs generalizing ds with
  | nil => cases h; exact .nil
  | cons v vs ih => cases h with | cons a b => simpa using (ih b).app (.cons a .nil)

/-! ### what a name alone holds -/
inductive OwV (K : PySem.W.Frag) (cp : Cb) (G : Addr → Prop) (H : Hp) : HO → D → Prop
  | lst {vs : List V} {ds : List D} : DvA K cp G H vs ds → OwV K cp G H (.lst vs) (.lst ds)
  | dk {kvs : List (Key × V)} {ks : List Key} {ds : List D} : kvs.map (·.1) = ks → DvA K cp G H (kvs.map (·.2)) ds → OwV K cp G H (.dK kvs) (.dk ks ds)
  | ob {dx : Addr} {c : Nat} {fs : List (Str × V)} {ns : List Str} {ds : List D} : fs.map (·.1) = ns → DvA K cp G H (fs.map (·.2)) ds → OwV K cp G H (.ins (cp.c c) dx fs) (.ob c ns ds)
  | dt {kvs : List (List Key × V)} {ks : List (List Key)} {ds : List D} : kvs.map (·.1) = ks → DvA K cp G H (kvs.map (·.2)) ds → OwV K cp G H (.dT kvs) (.dt ks ds)
def OwOk (K : PySem.W.Frag) (cp : Cb) (G : Addr → Prop) (H : Hp) (a : Addr) (c : D) : Prop := ∃ o, H a = some o ∧ OwV K cp G H o c
theorem OwV.mv (m : Mv G H G' H') {o : HO} {c : D} (h : OwV K cp G H o c) : OwV K cp G' H' o c := by
  cases h with
  | lst h => exact .lst (DvA.mv m _ _ h)
  | dk e h => exact .dk e (DvA.mv m _ _ h)
  | ob e h => exact .ob e (DvA.mv m _ _ h)
  | dt e h => exact .dt e (DvA.mv m _ _ h)
def OwK : HO → Prop
  | .lst _ => True
  | .dK _ => True
  | .dT _ => True
  | .ins _ _ _ => True
  | _ => False
theorem Sm.isK {o : HO} {H' : Hp} {a : Addr} (h : Sm o H' a) (k : OwK o) : ∃ u, H' a = some u ∧ OwK u := ⟨o, h.to fun qs z => by subst z; exact k, k⟩
theorem OwV.kd {o : HO} {c : D} (h : OwV K cp G H o c) : OwK o := by cases h <;> trivial
theorem OwV.nt {o : HO} {c : D} (h : OwV K cp G H o c) : ∀ qs, o ≠ .tbl qs := by cases h <;> (intro _ z; cases z)
theorem tabs_keep {T : List (Addr × Str)} {H H' : Hp} (t : LamX.Tabs T H) (h : ∀ a o, ¬ OwK o → H a = some o → H' a = some o) : LamX.Tabs T H' := fun p hp => by
  obtain ⟨ps, h1, h2, h3⟩ := t p hp
  refine ⟨ps, h _ _ (fun z => z) h1, h2, fun pos cv hc => ?_⟩
  obtain ⟨c, e, hcd⟩ := h3 pos cv hc
  exact ⟨c, e, h _ _ (fun z => z) hcd⟩
theorem tabs_upd {T : List (Addr × Str)} {H : Hp} {x : Addr} {o o' : HO} (t : LamX.Tabs T H) (hx : H x = some o) (k : OwK o) : LamX.Tabs T (upd H x o') := tabs_keep t fun a u n h => by
  rw [upd_ne (fun z => by rw [z, hx] at h; cases h; exact n k)]; exact h
/-- it is known to all -/
theorem OwOk.sh {a : Addr} {c : D} (h : OwOk K cp G H a c) (n : ¬ G a) : Dv K cp G H (.ref a) c := by
  obtain ⟨o, e, h⟩ := h
  cases h with
  | lst h => exact .lst e n h
  | dk e2 h => exact .dk (.inl e) n e2 h
  | ob e2 h => exact .ob e n e2 h
  | dt e2 h => exact .dt (.inl e) n e2 h
/-! ### trees: what a name alone holds, to its depth; each node's place is told -/
inductive Tr where
  | sh (d : D) | lst (a : Addr) (ts : List Tr) | dk (a : Addr) (ks : List Key) (ts : List Tr) | ob (a : Addr) (c : Nat) (ns : List Str) (ts : List Tr)
mutual
def Tr.foot : Tr → List Addr
  | .sh _ => []
  | .lst a ts => a :: feet ts
  | .dk a _ ts => a :: feet ts
  | .ob a _ _ ts => a :: feet ts
def feet : List Tr → List Addr
  | [] => []
  | t :: ts => t.foot ++ feet ts
end
mutual
inductive TrV (K : PySem.W.Frag) (cp : Cb) (G : Addr → Prop) (H : Hp) : V → Tr → Prop
  | sh {v : V} {d : D} : Dv K cp G H v d → TrV K cp G H v (.sh d)
  | lst {a : Addr} {vs : List V} {ts : List Tr} : H a = some (.lst vs) → TrA K cp G H vs ts → TrV K cp G H (.ref a) (.lst a ts)
  | dk {a : Addr} {kvs : List (Key × V)} {ks : List Key} {ts : List Tr} : H a = some (.dK kvs) → kvs.map (·.1) = ks → TrA K cp G H (kvs.map (·.2)) ts → TrV K cp G H (.ref a) (.dk a ks ts)
  | ob {a dx : Addr} {c : Nat} {fs : List (Str × V)} {ns : List Str} {ts : List Tr} : H a = some (.ins (cp.c c) dx fs) → fs.map (·.1) = ns → TrA K cp G H (fs.map (·.2)) ts → TrV K cp G H (.ref a) (.ob a c ns ts)
inductive TrA (K : PySem.W.Frag) (cp : Cb) (G : Addr → Prop) (H : Hp) : List V → List Tr → Prop
  | nil : TrA K cp G H [] []
  | cons {v : V} {vs : List V} {t : Tr} {ts : List Tr} : TrV K cp G H v t → TrA K cp G H vs ts → TrA K cp G H (v :: vs) (t :: ts)
end
mutual
/-- the nodes stand as they stood -/
theorem TrV.mv (m : Mv G H G' H') : ∀ (t : Tr) (v : V), (∀ a ∈ t.foot, ∀ u, H a = some u → OwK u → H' a = some u) → TrV K cp G H v t → TrV K cp G' H' v t
  | .sh d, _, _, h => by cases h with | sh h => exact .sh (h.mv m)
  | .lst a ts, _, k, h => by
    cases h with
    | @lst _ vs _ h1 h2 => exact .lst (k a (by simp [Tr.foot]) _ h1 trivial) (TrA.mv m ts vs (fun b hb => k b (by simp [Tr.foot, hb])) h2)
  | .dk a ks ts, _, k, h => by
    cases h with
    | @dk _ kvs _ _ h1 e h2 => exact .dk (k a (by simp [Tr.foot]) _ h1 trivial) e (TrA.mv m ts _ (fun b hb => k b (by simp [Tr.foot, hb])) h2)
  | .ob a c ns ts, _, k, h => by
    cases h with
    | @ob _ dx _ fs _ _ h1 e h2 => exact .ob (k a (by simp [Tr.foot]) _ h1 trivial) e (TrA.mv m ts _ (fun b hb => k b (by simp [Tr.foot, hb])) h2)
theorem TrA.mv (m : Mv G H G' H') : ∀ (ts : List Tr) (vs : List V), (∀ a ∈ feet ts, ∀ u, H a = some u → OwK u → H' a = some u) → TrA K cp G H vs ts → TrA K cp G' H' vs ts
  | [], _, _, h => by cases h; exact .nil
  | t :: ts, _, k, h => by
    cases h with
    | cons h1 h2 => exact .cons (TrV.mv m t _ (fun b hb => k b (by simp [feet, hb])) h1) (TrA.mv m ts _ (fun b hb => k b (by simp [feet, hb])) h2)
end
mutual
theorem TrV.there : ∀ {t : Tr} {v : V} {a : Addr}, TrV K cp G H v t → a ∈ t.foot → ∃ u, H a = some u ∧ OwK u
  | .sh _, _, _, _, h => by simp [Tr.foot] at h
  | .lst b ts, _, a, h, m => by
    cases h with
    | @lst _ vs _ h1 h2 =>
      rcases List.mem_cons.mp (show a ∈ b :: feet ts from m) with rfl | m
      · exact ⟨_, h1, trivial⟩
      · exact TrA.there h2 m
  | .dk b ks ts, _, a, h, m => by
    cases h with
    | @dk _ kvs _ _ h1 e h2 =>
      rcases List.mem_cons.mp (show a ∈ b :: feet ts from m) with rfl | m
      · exact ⟨_, h1, trivial⟩
      · exact TrA.there h2 m
  | .ob b c ns ts, _, a, h, m => by
    cases h with
    | @ob _ dx _ fs _ _ h1 e h2 =>
      rcases List.mem_cons.mp (show a ∈ b :: feet ts from m) with rfl | m
      · exact ⟨_, h1, trivial⟩
      · exact TrA.there h2 m
theorem TrA.there : ∀ {ts : List Tr} {vs : List V} {a : Addr}, TrA K cp G H vs ts → a ∈ feet ts → ∃ u, H a = some u ∧ OwK u
  | [], _, _, _, h => by simp [feet] at h
  | t :: ts, _, a, h, m => by
    cases h with
    | cons h1 h2 =>
      rcases List.mem_append.mp (show a ∈ t.foot ++ feet ts from m) with m | m
      · exact TrV.there h1 m
      · exact TrA.there h2 m
end
mutual
def Tr.toD : Tr → D
  | .sh d => d
  | .lst _ ts => .lst (toDs ts)
  | .dk _ ks ts => .dk ks (toDs ts)
  | .ob _ c ns ts => .ob c ns (toDs ts)
def toDs : List Tr → List D
  | [] => []
  | t :: ts => t.toD :: toDs ts
end
mutual
/-- known to all, once nobody owns it -/
theorem TrV.toD (m : Mv G H G' H) : ∀ {t : Tr} {v : V}, (∀ a ∈ t.foot, ¬ G' a) → TrV K cp G H v t → Dv K cp G' H v t.toD
  | .sh d, _, _, h => by cases h with | sh h => exact h.mv m
  | .lst a ts, _, k, h => by
    cases h with
    | @lst _ vs _ h1 h2 => exact .lst h1 (k a (by simp [Tr.foot])) (TrA.toD m (fun b hb => k b (by simp [Tr.foot, hb])) h2)
  | .dk a ks ts, _, k, h => by
    cases h with
    | @dk _ kvs _ _ h1 e h2 => exact .dk (.inl h1) (k a (by simp [Tr.foot])) e (TrA.toD m (fun b hb => k b (by simp [Tr.foot, hb])) h2)
  | .ob a c ns ts, _, k, h => by
    cases h with
    | @ob _ dx _ fs _ _ h1 e h2 => exact .ob h1 (k a (by simp [Tr.foot])) e (TrA.toD m (fun b hb => k b (by simp [Tr.foot, hb])) h2)
theorem TrA.toD (m : Mv G H G' H) : ∀ {ts : List Tr} {vs : List V}, (∀ a ∈ feet ts, ¬ G' a) → TrA K cp G H vs ts → DvA K cp G' H vs (toDs ts)
  | [], _, _, h => by cases h; exact .nil
  | t :: ts, _, k, h => by
    cases h with
    | cons h1 h2 => exact .cons (TrV.toD m (fun b hb => k b (by simp [feet, hb])) h1) (TrA.toD m (fun b hb => k b (by simp [feet, hb])) h2)
end
/-- more owners -/
def plusL (G : Addr → Prop) (l : List Addr) : Addr → Prop := fun a => G a ∨ a ∈ l
/-- no place twice, some place -/
def Tr.ok (t : Tr) : Prop := t.foot.Nodup ∧ t.foot ≠ []
/-! ### slots -/
inductive SV where
  | no | sh (d : D) | ow (io : Bool) (c : D) | dp (io : Bool) (t : Tr)
/-- what a slot owns -/
def SV.has (s : SV) (o : Option (Option V)) (a : Addr) : Prop := match s with
  | .ow _ _ => o = some (some (.ref a))
  | .dp _ t => a ∈ t.foot
  | _ => False
def SV.isOw (s : SV) : Prop := match s with
  | .ow _ _ => True
  | .dp _ _ => True
  | _ => False
/-- the owner in slot i -/
def own (σ : L2.St) (ρ : List SV) (i : Nat) (a : Addr) : Prop := ∃ s, ρ[i]? = some s ∧ s.has σ[i]? a
theorem own.w {σ : L2.St} {ρ : List SV} {i : Nat} {a : Addr} {b : Bool} {c : D} (h : ρ[i]? = some (.ow b c)) (k : σ[i]? = some (some (.ref a))) : own σ ρ i a := ⟨_, h, k⟩
theorem own.t {σ : L2.St} {ρ : List SV} {i : Nat} {a : Addr} {b : Bool} {t : Tr} (h : ρ[i]? = some (.dp b t)) (k : a ∈ t.foot) : own σ ρ i a := ⟨_, h, k⟩
theorem own.is {σ : L2.St} {ρ : List SV} {i : Nat} {a : Addr} (h : own σ ρ i a) : (∃ b c, ρ[i]? = some (.ow b c) ∧ σ[i]? = some (some (.ref a))) ∨ ∃ b t, ρ[i]? = some (.dp b t) ∧ a ∈ t.foot := by
  obtain ⟨s, h1, h2⟩ := h
  cases s with
  | no => exact h2.elim
  | sh d => exact h2.elim
  | ow b c => exact .inl ⟨b, c, h1, h2⟩
  | dp b t => exact .inr ⟨b, t, h1, h2⟩
def Gv (F : Addr → Prop) (σ : L2.St) (ρ : List SV) : Addr → Prop := fun a => F a ∨ ∃ i, own σ ρ i a
def SOk (K : PySem.W.Frag) (cp : Cb) (G : Addr → Prop) (H : Hp) (o : Option (Option V)) : SV → Prop
  | .no => True
  | .sh d => ∃ v, o = some (some v) ∧ Dv K cp G H v d
  | .ow _ c => ∃ a, o = some (some (.ref a)) ∧ OwOk K cp G H a c
  | .dp _ t => ∃ v, o = some (some v) ∧ t.ok ∧ TrV K cp G H v t
theorem SOk.mv {o : Option (Option V)} {s : SV} (m : Mv G H G' H') (ho : ∀ a u, s.has o a → H a = some u → OwK u → H' a = some u) (h : SOk K cp G H o s) : SOk K cp G' H' o s := by
  cases s with
  | no => trivial
  | sh d => obtain ⟨v, e, h⟩ := h; exact ⟨v, e, h.mv m⟩
  | ow b c => obtain ⟨a, e, u, h1, h⟩ := h; exact ⟨a, e, u, ho _ _ e h1 h.kd, h.mv m⟩
  | dp b t => obtain ⟨v, e, nd, h⟩ := h; exact ⟨v, e, nd, h.mv m t v fun a ha u hu k => ho a u ha hu k⟩
/-- what was passed to be changed: by slot, place; which slots hold trees -/
structure Pass where
  l : List (Nat × Addr)
  k : Nat → Bool
  r : Nat → V
instance : Membership (Nat × Addr) Pass := ⟨fun A x => x ∈ A.l⟩
/-- the slots hold what ρ tells; F: the caller's owners; A: those of them that were passed, by slot; H0: the heap at the call -/
structure En (K : PySem.W.Frag) (cp : Cb) (F : Addr → Prop) (A : Pass) (H0 H : Hp) (σ : L2.St) (ρ : List SV) : Prop where
  len : σ.length = ρ.length
  tr : ∀ a, F a → ∃ o, H a = some o ∧ OwK o
  fr : ∀ a o, (∀ x ∈ A, a ≠ x.2) → H0 a = some o → Sm o H a
  tb : LamX.Tabs cp.T H
  io : ∀ x ∈ A, F x.2 ∧ ((A.k x.1 = false ∧ ∃ ds, ρ[x.1]? = some (.ow true ds) ∧ σ[x.1]? = some (some (.ref x.2))) ∨ (A.k x.1 = true ∧ ∃ t, ρ[x.1]? = some (.dp true t) ∧ σ[x.1]? = some (some (A.r x.1))))
  dj : ∀ i j a, own σ ρ i a → own σ ρ j a → i = j
  ow : ∀ (i : Nat) (b : Bool) (ds : D) (a : Addr), ρ[i]? = some (.ow b ds) → σ[i]? = some (some (.ref a)) → if b = true then (i, a) ∈ A else ¬ F a ∧ H0 a = none
  dw : ∀ (i : Nat) (b : Bool) (t : Tr) (a : Addr), ρ[i]? = some (.dp b t) → a ∈ t.foot → (b = true ∧ (i, a) ∈ A) ∨ (¬ F a ∧ H0 a = none)
  sl : ∀ (i : Nat) (s : SV), ρ[i]? = some s → SOk K cp (Gv F σ ρ) H σ[i]? s
variable {F : Addr → Prop} {A : Pass} {H0 : Hp} {σ : L2.St} {ρ : List SV}
theorem En.own_k (e : En K cp F A H0 H σ ρ) {i : Nat} {a : Addr} (o : own σ ρ i a) : ∃ u, H a = some u ∧ OwK u := by
  rcases o.is with ⟨b, ds, h1, h2⟩ | ⟨b, t, h1, h2⟩
  · obtain ⟨a', h3, u, h4, h5⟩ := e.sl i _ h1
    rw [h2] at h3; cases h3
    exact ⟨u, h4, h5.kd⟩
  · obtain ⟨v, _, _, h4⟩ := e.sl i _ h1
    exact h4.there h2
theorem En.own_at (e : En K cp F A H0 H σ ρ) {i : Nat} {a : Addr} (o : own σ ρ i a) : ∃ u, H a = some u := (e.own_k o).elim fun u z => ⟨u, z.1⟩
/-- an owned place: passed, or not the caller's -/
theorem En.mine (e : En K cp F A H0 H σ ρ) {i : Nat} {a : Addr} (o : own σ ρ i a) : (i, a) ∈ A ∨ (¬ F a ∧ H0 a = none) := by
  rcases o.is with ⟨b, ds, h1, h2⟩ | ⟨b, t, h1, h2⟩
  · have q := e.ow i b ds a h1 h2
    split at q
    · exact .inl q
    · exact .inr q
  · exact (e.dw i b t a h1 h2).elim (fun z => .inl z.2) .inr
theorem En.none0 (e : En K cp F A H0 H σ ρ) {p : Addr} (n : H p = none) : H0 p = none := by
  cases h : H0 p with
  | none => rfl
  | some o =>
    by_cases z : ∃ x ∈ A, p = x.2
    · obtain ⟨x, hx, rfl⟩ := z
      obtain ⟨o', ho, _⟩ := e.tr _ (e.io x hx).1
      rw [ho] at n; cases n
    · obtain ⟨u, this⟩ := (e.fr p o (fun x hx q => z ⟨x, hx, q⟩) h).is
      rw [n] at this; cases this
theorem En.notF (e : En K cp F A H0 H σ ρ) {p : Addr} (n : H p = none) : ¬ Gv F σ ρ p := by
  rintro (g | ⟨i, g⟩)
  · obtain ⟨o, ho, _⟩ := e.tr _ g; rw [n] at ho; cases ho
  · obtain ⟨vs, hv⟩ := e.own_at g; rw [n] at hv; cases hv
/-- nothing that is told changes -/
theorem En.ex (e : En K cp F A H0 H σ ρ) (x : Ex H H') : En K cp F A H0 H' σ ρ where
  len := e.len
  tr := fun a f => (e.tr a f).elim fun o h => ⟨o, x _ _ h.1, h.2⟩
  fr := fun a o n h => (e.fr a o n h).tr fun u z => .of (x _ _ z)
  tb := e.tb.ext x
  io := e.io
  dj := e.dj
  ow := e.ow
  dw := e.dw
  sl := fun i s h => (e.sl i s h).mv (Mv.ex x) fun a u _ h _ => x _ _ h
/-- something new stands, that nobody holds -/
theorem En.plus (e : En K cp F A H0 H σ ρ) {p : Addr} (n : H p = none) (x : Ex H H') {o : HO} (hp : H' p = some o) (hk : OwK o := by exact trivial) : En K cp (plus F p) A H0 H' σ ρ where
  len := e.len
  tr := fun a f => f.elim (fun f => (e.tr a f).elim fun o h => ⟨o, x _ _ h.1, h.2⟩) fun q => by subst q; exact ⟨_, hp, hk⟩
  fr := fun a o n h => (e.fr a o n h).tr fun u z => .of (x _ _ z)
  tb := e.tb.ext x
  io := fun y hy => ⟨.inl (e.io y hy).1, (e.io y hy).2⟩
  dj := e.dj
  ow := fun i b ds a h1 h2 => by
    have q := e.ow i b ds a h1 h2
    split
    · rename_i hb; rw [if_pos hb] at q; exact q
    · rename_i hb
      rw [if_neg hb] at q
      refine ⟨fun z => z.elim q.1 fun r => ?_, q.2⟩
      subst r
      obtain ⟨vs, hv⟩ := e.own_at (own.w h1 h2)
      rw [n] at hv; cases hv
  dw := fun i b t a h1 h2 => (e.dw i b t a h1 h2).imp_right fun q => ⟨fun z => z.elim q.1 (fun r => by
    subst r
    obtain ⟨vs, hv⟩ := e.own_at (own.t h1 h2)
    rw [n] at hv; cases hv), q.2⟩
  sl := fun i s h => (e.sl i s h).mv ((Mv.nw n).tr ((Mv.ex x).tr (Mv.sub fun a g => by
      rcases g with (g | g) | g
      · exact .inl (.inl g)
      · exact .inr g
      · exact .inl (.inr g)))) fun a u _ h _ => x _ _ h
theorem En.minus (e : En K cp (DD.plus F p) A H0 H σ ρ) (ha : ∀ x ∈ A, F x.2) : En K cp F A H0 H σ ρ where
  len := e.len
  tr := fun a f => e.tr a (.inl f)
  fr := e.fr
  tb := e.tb
  io := fun y hy => ⟨ha y hy, (e.io y hy).2⟩
  dj := e.dj
  ow := fun i b ds a h1 h2 => by
    have q := e.ow i b ds a h1 h2
    split
    · rename_i hb; rw [if_pos hb] at q; exact q
    · rename_i hb
      rw [if_neg hb] at q
      exact ⟨fun z => q.1 (.inl z), q.2⟩
  dw := fun i b t a h1 h2 => (e.dw i b t a h1 h2).imp_right fun q => ⟨fun z => q.1 (.inl z), q.2⟩
  sl := fun i s h => (e.sl i s h).mv (Mv.sub fun a g => by
      rcases g with g | g
      · exact .inl (.inl g)
      · exact .inr g) fun _ _ _ h _ => h
theorem En.minusL {l : List Addr} (e : En K cp (plusL F l) A H0 H σ ρ) (ha : ∀ x ∈ A, F x.2) : En K cp F A H0 H σ ρ where
  len := e.len
  tr := fun a f => e.tr a (.inl f)
  fr := e.fr
  tb := e.tb
  io := fun y hy => ⟨ha y hy, (e.io y hy).2⟩
  dj := e.dj
  ow := fun i b ds a h1 h2 => by
    have q := e.ow i b ds a h1 h2
    split
    · rename_i hb; rw [if_pos hb] at q; exact q
    · rename_i hb
      rw [if_neg hb] at q
      exact ⟨fun z => q.1 (.inl z), q.2⟩
  dw := fun i b t a h1 h2 => (e.dw i b t a h1 h2).imp_right fun q => ⟨fun z => q.1 (.inl z), q.2⟩
  sl := fun i s h => (e.sl i s h).mv (Mv.sub fun a g => by
      rcases g with g | g
      · exact .inl (.inl g)
      · exact .inr g) fun _ _ _ h _ => h
/-- where an own error goes, and which ones may come: class, fields, what they hold, the slots; the heap at the call -/
structure XC where
  E : XK
  P : Nat → List Str → List D → List SV → Prop
  h : Hp
def XC.q : XC := ⟨fun _ _ _ => False, fun _ _ _ _ => False, fun _ => none⟩
structure XOk (K : PySem.W.Frag) (cp : Cb) (F : Addr → Prop) (A : Pass) (H0 : Hp) (X : XC) (σ : L2.St) : Prop where
  h : ∀ a, H0 a = none → X.h a = none
  x : ∀ (i : Nat) (es : List D) (fs : List (Str × V)) (dd : Addr) (ρ : List SV) (H : Hp), En K cp F A H0 H σ ρ → H dd = some (exd dd fs) → DvA K cp (Gv F σ ρ) H (fs.map (·.2)) es → X.P i (fs.map (·.1)) es ρ → X.E (.ref (cp.x i)) (some dd) H
theorem xq : XOk K cp F A H0 XC.q σ := ⟨fun _ _ => rfl, fun _ _ _ _ _ _ _ _ _ z => z.elim⟩
end
end DD

end
section
set_option Elab.async false
set_option linter.all false
set_option maxRecDepth 100000
set_option maxHeartbeats 1000000
/-! What an expression gives, over data. -/
namespace DD
open PySem PySem.Spec PyProof.Rows L2 GL
/-- a datum; a new list that nobody holds yet; what the slot i owns -/
inductive AV where
  | d (d : D) | n (c : D) | o (i : Nat) | t (t : Tr)
def AV.sh : AV → Option D
  | .d x => some x
  | .n x => some x
  | .o _ => none
  | .t x => some x.toD
section
variable {K : PySem.W.Frag} {cp : Cb} {X : XC} {F : Addr → Prop} {A : Pass} {H0 H H' H1 H2 : Hp} {σ : L2.St} {ρ ρ' ρ1 ρ2 : List SV} {G : Addr → Prop} {v w : V}
/-- what stands behind an expression -/
def Res (K : PySem.W.Frag) (cp : Cb) (F : Addr → Prop) (A : Pass) (H0 : Hp) (σ : L2.St) (ρ : List SV) (H : Hp) (v : V) (r : AV) (ρ' : List SV) (H' : Hp) : Prop := match r with
  | .d d => En K cp F A H0 H' σ ρ' ∧ Mv (Gv F σ ρ) H (Gv F σ ρ') H' ∧ Dv K cp (Gv F σ ρ') H' v d
  | .n c => ∃ p, v = .ref p ∧ ¬ F p ∧ H0 p = none ∧ En K cp (plus F p) A H0 H' σ ρ' ∧ (∀ x ∈ A, F x.2) ∧ Mv (Gv F σ ρ) H (Gv (plus F p) σ ρ') H' ∧ OwOk K cp (Gv (plus F p) σ ρ') H' p c
  | .o i => En K cp F A H0 H' σ ρ' ∧ Mv (Gv F σ ρ) H (Gv F σ ρ') H' ∧ ∃ a, v = .ref a ∧ own σ ρ' i a ∧ σ[i]? = some (some (.ref a))
  | .t t => TrV K cp (Gv (plusL F t.foot) σ ρ') H' v t ∧ t.ok ∧ (∀ a ∈ t.foot, ¬ F a ∧ H0 a = none) ∧ En K cp (plusL F t.foot) A H0 H' σ ρ' ∧ (∀ x ∈ A, F x.2) ∧ Mv (Gv F σ ρ) H (Gv (plusL F t.foot) σ ρ') H'
theorem gv_subL (l : List Addr) : ∀ a, Gv F σ ρ a → Gv (plusL F l) σ ρ a := fun a g => g.elim (fun f => .inl (.inl f)) fun o => .inr o
theorem gv_sub (p : Addr) : ∀ a, Gv F σ ρ a → Gv (plus F p) σ ρ a := fun a g => g.elim (fun f => .inl (.inl f)) fun o => .inr o
theorem Res.share {r : AV} {d : D} (e : r.sh = some d) (h : Res K cp F A H0 σ ρ H v r ρ' H') : Res K cp F A H0 σ ρ H v (.d d) ρ' H' := by
  cases r with
  | d d' => cases e; exact h
  | n ds =>
    cases e
    obtain ⟨p, rfl, nf, h0, en, ha, mv, u, hu, dv⟩ := h
    refine ⟨en.minus ha, mv.tr (Mv.sub (gv_sub p)), OwOk.sh ⟨u, hu, dv.mv (Mv.sub (gv_sub p))⟩ ?_⟩
    rintro (f | ⟨i, o⟩)
    · exact nf f
    · rcases en.mine o with q | q
      · exact nf (ha _ q)
      · exact q.1 (.inr rfl)
  | o i => cases e
  | t t =>
    cases e
    obtain ⟨tv, nd, nf, en, ha, mv⟩ := h
    refine ⟨en.minusL ha, mv.tr (Mv.sub (gv_subL t.foot)), tv.toD (Mv.sub (gv_subL t.foot)) fun a ha2 => ?_⟩
    rintro (f | ⟨i, o⟩)
    · exact (nf a ha2).1 f
    · rcases en.mine o with q | q
      · exact (nf a ha2).1 (ha _ q)
      · exact q.1 (.inr ha2)
/-- t gives r over slots ρ', such that Φ -/
def DE (K : PySem.W.Frag) (cp : Cb) (X : XC) (t : TE) (ρ : List SV) (Φ : AV → List SV → Prop) : Prop :=
  ∀ F A H0 H σ, En K cp F A H0 H σ ρ → XOk K cp F A H0 X σ → ∀ Q : VK, (∀ v r ρ' H', Res K cp F A H0 σ ρ H v r ρ' H' → Φ r ρ' → Q v H') → t σ H Q
abbrev DEs (K : PySem.W.Frag) (cp : Cb) (X : XC) (t : TE) (ρ : List SV) (Ψ : D → List SV → Prop) : Prop := DE K cp X t ρ fun r ρ' => ∃ d, r.sh = some d ∧ Ψ d ρ'
theorem DEs.go {t : TE} {Ψ : D → List SV → Prop} (h : DEs K cp X t ρ Ψ) (e : En K cp F A H0 H σ ρ) (hx : XOk K cp F A H0 X σ) {Q : VK}
    (q : ∀ v d ρ' H', En K cp F A H0 H' σ ρ' → Mv (Gv F σ ρ) H (Gv F σ ρ') H' → Dv K cp (Gv F σ ρ') H' v d → Ψ d ρ' → Q v H') : t σ H Q :=
  h F A H0 H σ e hx Q fun v r ρ' H' rs ⟨d, ed, ψ⟩ => have z := rs.share ed; q v d ρ' H' z.1 z.2.1 z.2.2 ψ
/-- what a rule of the machine gives, by what is passed alone -/
def Rx (K : PySem.W.Frag) (cp : Cb) (G : Addr → Prop) (H : Hp) (w : V) (r : AV) (H' : Hp) : Prop := match r with
  | .d d => Ex H H' ∧ Dv K cp G H' w d
  | .n c => ∃ p, w = .ref p ∧ H p = none ∧ Ex H H' ∧ OwOk K cp (plus G p) H' p c
  | .o _ => False
  | .t _ => False
theorem gv_plus {p : Addr} : ∀ a, Gv (plus F p) σ ρ a → plus (Gv F σ ρ) p a := fun a g => by
  rcases g with (g | g) | g
  · exact .inl (.inl g)
  · exact .inr g
  · exact .inl (.inr g)
theorem plus_gv {p : Addr} : ∀ a, plus (Gv F σ ρ) p a → Gv (plus F p) σ ρ a := fun a g => by
  rcases g with (g | g) | g
  · exact .inl (.inl g)
  · exact .inr g
  · exact .inl (.inr g)
theorem Rx.res {r : AV} (e : En K cp F A H0 H σ ρ) (x : Rx K cp (Gv F σ ρ) H w r H') : Res K cp F A H0 σ ρ H w r ρ H' := by
  cases r with
  | d d => exact ⟨e.ex x.1, Mv.ex x.1, x.2⟩
  | n ds =>
    obtain ⟨p, rfl, n, ex, u, hp, dv⟩ := x
    exact ⟨p, rfl, fun f => e.notF n (.inl f), e.none0 n, e.plus n ex hp dv.kd, fun y hy => (e.io y hy).1, (Mv.nw n).tr ((Mv.ex ex).tr (Mv.sub gv_plus)), u, hp, dv.mv (Mv.sub gv_plus)⟩
  | o i => exact x.elim
  | t t => exact x.elim
theorem Res.tr {r : AV} (m : Mv (Gv F σ ρ) H (Gv F σ ρ1) H1) (x : Res K cp F A H0 σ ρ1 H1 w r ρ2 H2) : Res K cp F A H0 σ ρ H w r ρ2 H2 := by
  cases r with
  | d d => exact ⟨x.1, m.tr x.2.1, x.2.2⟩
  | n ds => obtain ⟨p, a, b, c, e, f, g, h⟩ := x; exact ⟨p, a, b, c, e, f, m.tr g, h⟩
  | o i => exact ⟨x.1, m.tr x.2.1, x.2.2⟩
  | t t => obtain ⟨a, b, c, d, e, f⟩ := x; exact ⟨a, b, c, d, e, m.tr f⟩
/-- a datum, perhaps one that a name owns -/
def Dt (K : PySem.W.Frag) (cp : Cb) (G : Addr → Prop) (H : Hp) (v : V) (d : D) : Prop := Dv K cp G H v d ∨ ∃ a, v = .ref a ∧ OwOk K cp G H a d
/-- a rule of two values -/
def R2d (K : PySem.W.Frag) (cp : Cb) (r : R2) (x y : D) (ψ : AV → Prop) : Prop :=
  ∀ G H u v (Q : VK), Dt K cp G H u x → Dt K cp G H v y → (∀ w a H', Rx K cp G H w a H' → ψ a → Q w H') → r u v H Q
def R1d (K : PySem.W.Frag) (cp : Cb) (r : V → Hp → VK → Prop) (x : D) (ψ : AV → Prop) : Prop :=
  ∀ G H u (Q : VK), Dt K cp G H u x → (∀ w a H', Rx K cp G H w a H' → ψ a → Q w H') → r u H Q
inductive DtA (K : PySem.W.Frag) (cp : Cb) (G : Addr → Prop) (H : Hp) : List V → List D → Prop
  | nil : DtA K cp G H [] []
  | cons {v : V} {vs : List V} {d : D} {ds : List D} : Dt K cp G H v d → DtA K cp G H vs ds → DtA K cp G H (v :: vs) (d :: ds)
def RLd (K : PySem.W.Frag) (cp : Cb) (r : List V → Hp → VK → Prop) (xs : List D) (ψ : AV → Prop) : Prop :=
  ∀ G H us (Q : VK), DtA K cp G H us xs → (∀ w a H', Rx K cp G H w a H' → ψ a → Q w H') → r us H Q
/-- what is handed on: a datum, or an owner -/
inductive OP where
  | d (d : D) | o (i : Nat)
def OP.of : AV → OP
  | .d x => .d x
  | .n x => .d x
  | .o i => .o i
  | .t t => .d t.toD
/-- its data now -/
def OP.at (ρ : List SV) : OP → Option D
  | .d x => some x
  | .o i => match ρ[i]? with
    | some (.ow _ c) => some c
    | _ => none
def OPv (K : PySem.W.Frag) (cp : Cb) (F : Addr → Prop) (σ : L2.St) (ρ : List SV) (H : Hp) (v : V) : OP → Prop
  | .d d => Dv K cp (Gv F σ ρ) H v d
  | .o i => ∃ a, v = .ref a ∧ σ[i]? = some (some (.ref a))
abbrev DEo (K : PySem.W.Frag) (cp : Cb) (X : XC) (t : TE) (ρ : List SV) (Ψ : OP → List SV → Prop) : Prop := DE K cp X t ρ fun r ρ' => Ψ (.of r) ρ'
theorem DEo.go {t : TE} {Ψ : OP → List SV → Prop} (h : DEo K cp X t ρ Ψ) (e : En K cp F A H0 H σ ρ) (hx : XOk K cp F A H0 X σ) {Q : VK}
    (q : ∀ v p ρ' H', En K cp F A H0 H' σ ρ' → Mv (Gv F σ ρ) H (Gv F σ ρ') H' → OPv K cp F σ ρ' H' v p → Ψ p ρ' → Q v H') : t σ H Q :=
  h F A H0 H σ e hx Q fun v r ρ' H' rs ψ => by
    cases r with
    | d d => exact q v (.d d) ρ' H' rs.1 rs.2.1 rs.2.2 ψ
    | n ds => have z := rs.share rfl; exact q v (.d ds) ρ' H' z.1 z.2.1 z.2.2 ψ
    | t t => have z := rs.share rfl; exact q v (.d t.toD) ρ' H' z.1 z.2.1 z.2.2 ψ
    | o i => exact q v (.o i) ρ' H' rs.1 rs.2.1 (rs.2.2.elim fun a z => ⟨a, z.1, z.2.2⟩) ψ
theorem OPv.mv {p : OP} (m : Mv (Gv F σ ρ1) H1 (Gv F σ ρ2) H2) (h : OPv K cp F σ ρ1 H1 v p) : OPv K cp F σ ρ2 H2 v p := by
  cases p with
  | d d => exact Dv.mv m _ _ h
  | o i => exact h
theorem OPv.dt {p : OP} {d : D} (e : En K cp F A H0 H σ ρ) (h : OPv K cp F σ ρ H v p) (hd : p.at ρ = some d) : Dt K cp (Gv F σ ρ) H v d := by
  cases p with
  | d d' => cases hd; exact .inl h
  | o i =>
    obtain ⟨a, rfl, ha⟩ := h
    simp only [OP.at] at hd
    split at hd
    · rename_i b ds hb
      cases hd
      obtain ⟨a', h1, h2⟩ := e.sl i _ hb
      rw [ha] at h1; cases h1
      exact .inr ⟨_, rfl, h2⟩
    · cases hd
/-! ### rules -/
theorem DE.var {i : Nat} {d : D} {Φ : AV → List SV → Prop} (h : ρ[i]? = some (.sh d)) (q : Φ (.d d) ρ) : DE K cp X (tVar i) ρ Φ := fun F A H0 H σ e hx Q k => by
  obtain ⟨v, h1, h2⟩ := e.sl i _ h
  exact ⟨v, h1, k v (.d d) ρ H ⟨e, Mv.ex (Ex.rfl' H), h2⟩ q⟩
theorem DE.own {i : Nat} {b : Bool} {ds : D} {Φ : AV → List SV → Prop} (h : ρ[i]? = some (.ow b ds)) (q : Φ (.o i) ρ) : DE K cp X (tVar i) ρ Φ := fun F A H0 H σ e hx Q k => by
  obtain ⟨a, h1, h2⟩ := e.sl i _ h
  exact ⟨_, h1, k _ (.o i) ρ H ⟨e, Mv.ex (Ex.rfl' H), a, rfl, own.w h h1, h1⟩ q⟩
theorem DE.ownT {i : Nat} {b : Bool} {t : Tr} {Φ : AV → List SV → Prop} (h : ρ[i]? = some (.dp b t)) (nt : match t with | .sh _ => False | _ => True) (q : Φ (.o i) ρ) : DE K cp X (tVar i) ρ Φ := fun F A H0 H σ e hx Q k => by
  obtain ⟨v, h1, _, h2⟩ := e.sl i _ h
  have z : ∃ a, v = .ref a ∧ a ∈ t.foot := by
    cases h2 with
    | sh _ => exact nt.elim
    | lst _ _ => exact ⟨_, rfl, by simp [Tr.foot]⟩
    | dk _ _ _ => exact ⟨_, rfl, by simp [Tr.foot]⟩
    | ob _ _ _ => exact ⟨_, rfl, by simp [Tr.foot]⟩
  obtain ⟨a, rfl, ha⟩ := z
  exact ⟨_, h1, k _ (.o i) ρ H ⟨e, Mv.ex (Ex.rfl' H), a, rfl, own.t h ha, h1⟩ q⟩
/-- data without parts -/
inductive Fla : V → D → Prop
  | non : Fla .non .non | bl (b : Bool) : Fla (.bl b) (.bl b) | int (i : Int) : Fla (.int i) (.int i) | str (x : Str) : Fla (.str x) (.str x)
theorem Fla.dv {d : D} (h : Fla v d) : Dv K cp G H v d := by cases h <;> constructor
theorem DE.c {d : D} {Φ : AV → List SV → Prop} (h : Fla v d) (q : Φ (.d d) ρ) : DE K cp X (tC v) ρ Φ := fun F A H0 H σ e hx Q k => k v (.d d) ρ H ⟨e, Mv.ex (Ex.rfl' H), h.dv⟩ q
theorem DE.op {r : R2} {ta tb : TE} {Φ : AV → List SV → Prop} (h : DEo K cp X ta ρ fun x ρ1 => DEo K cp X tb ρ1 fun y ρ2 => ∃ d e, x.at ρ2 = some d ∧ y.at ρ2 = some e ∧ R2d K cp r d e fun a => Φ a ρ2) :
    DE K cp X (tOp r ta tb) ρ Φ := fun F A H0 H σ e hx Q k =>
  h.go e hx fun v x ρ1 H1 e1 m1 o1 h1 => h1.go e1 hx fun w y ρ2 H2 e2 m2 o2 ⟨d, d', ex, ey, rd⟩ =>
    rd _ _ _ _ _ ((o1.mv m2).dt e2 ex) (o2.dt e2 ey) fun u a H3 x3 φ => k u a ρ2 H3 ((x3.res e2).tr (m1.tr m2)) φ
def DAo (K : PySem.W.Frag) (cp : Cb) (X : XC) (t : TA) (ρ : List SV) (Ψ : List OP → List SV → Prop) : Prop :=
  ∀ F A H0 H σ, En K cp F A H0 H σ ρ → XOk K cp F A H0 X σ → ∀ Q : List V → Hp → Prop, (∀ vs ps ρ' H', En K cp F A H0 H' σ ρ' → Mv (Gv F σ ρ) H (Gv F σ ρ') H' → Paired (OPv K cp F σ ρ' H') vs ps → Ψ ps ρ' → Q vs H') → t σ H Q
theorem DAo.nil {Ψ : List OP → List SV → Prop} (q : Ψ [] ρ) : DAo K cp X tNil ρ Ψ := fun F A H0 H σ e hx Q k => k [] [] ρ H e (Mv.ex (Ex.rfl' H)) .nil q
theorem DAo.cons {te : TE} {ta : TA} {Ψ : List OP → List SV → Prop} (h : DEo K cp X te ρ fun x ρ1 => DAo K cp X ta ρ1 fun xs ρ2 => Ψ (x :: xs) ρ2) : DAo K cp X (tCons te ta) ρ Ψ := fun F A H0 H σ e hx Q k =>
  h.go e hx fun v x ρ1 H1 e1 m1 o1 h1 => h1 F A H0 H1 σ e1 hx _ fun vs ps ρ2 H2 e2 m2 o2 ψ => k (v :: vs) (x :: ps) ρ2 H2 e2 (m1.tr m2) (.cons (o1.mv m2) o2) ψ
def ats (ρ : List SV) : List OP → Option (List D)
  | [] => some []
  | p :: ps => match p.at ρ, ats ρ ps with
    | some d, some ds => some (d :: ds)
    | _, _ => none
theorem ats_ok (e : En K cp F A H0 H σ ρ) : ∀ {vs : List V} {ps : List OP} {ds : List D}, Paired (OPv K cp F σ ρ H) vs ps → ats ρ ps = some ds → DtA K cp (Gv F σ ρ) H vs ds
  | [], [], ds, _, h => by cases h; exact .nil
  | v :: vs, p :: ps, ds, .cons a b, h => by
    simp only [ats] at h
    split at h
    · rename_i d ds' h1 h2
      cases h
      exact .cons (a.dt e h1) (ats_ok e b h2)
    · cases h
theorem DE.cb {r : List V → Hp → VK → Prop} {ta : TA} {Φ : AV → List SV → Prop} (h : DAo K cp X ta ρ fun ps ρ1 => ∃ ds, ats ρ1 ps = some ds ∧ RLd K cp r ds fun a => Φ a ρ1) : DE K cp X (tCB r ta) ρ Φ := fun F A H0 H σ e hx Q k =>
  h F A H0 H σ e hx _ fun vs ps ρ1 H1 e1 m1 o1 ⟨ds, hd, rd⟩ => rd _ _ _ _ (ats_ok e1 o1 hd) fun u a H2 x2 φ => k u a ρ1 H2 ((x2.res e1).tr m1) φ
theorem DE.mono {t : TE} {Φ Φ' : AV → List SV → Prop} (h : DE K cp X t ρ Φ) (m : ∀ r ρ', Φ r ρ' → Φ' r ρ') : DE K cp X t ρ Φ' := fun F A H0 H σ e hx Q k => h F A H0 H σ e hx Q fun v r ρ' H' rs φ => k v r ρ' H' rs (m _ _ φ)
/-- all are data -/
def oks : List OP → Option (List D)
  | [] => some []
  | .d d :: ps => (oks ps).map (d :: ·)
  | .o _ :: _ => none
theorem oks_ok : ∀ {vs : List V} {ps : List OP} {ds : List D}, Paired (OPv K cp F σ ρ H) vs ps → oks ps = some ds → DvA K cp (Gv F σ ρ) H vs ds
  | [], [], ds, _, h => by cases h; exact .nil
  | v :: vs, .d d :: ps, ds, .cons a b, h => by
    obtain ⟨ds', h1, rfl⟩ := Option.map_eq_some_iff.mp (show (oks ps).map (d :: ·) = some ds from h)
    exact .cons a (oks_ok b h1)
  | v :: vs, .o i :: ps, ds, _, h => by cases h
theorem DE.tup {ta : TA} {Φ : AV → List SV → Prop} (h : DAo K cp X ta ρ fun ps ρ1 => ∃ ds, oks ps = some ds ∧ ds.length ≤ sizeLine ∧ Φ (.d (.tup ds)) ρ1) : DE K cp X (tTup ta) ρ Φ := fun F A H0 H σ e hx Q k =>
  h F A H0 H σ e hx _ fun vs ps ρ1 H1 e1 m1 o1 ⟨ds, hd, hl, φ⟩ => by
    have z := oks_ok o1 hd
    refine ⟨by rw [z.len]; exact hl, fun p hp => k _ _ ρ1 _ ((Rx.res (r := .d (.tup ds)) e1 ⟨Ex.nw hp, .tup upd_same (e1.notF hp) (DvA.mv (Mv.ex (Ex.nw hp)) _ _ z)⟩).tr m1) φ⟩
theorem DE.lst {ta : TA} {Φ : AV → List SV → Prop} (h : DAo K cp X ta ρ fun ps ρ1 => ∃ ds, oks ps = some ds ∧ ds.length ≤ sizeLine ∧ Φ (.n (.lst ds)) ρ1) : DE K cp X (tLst ta) ρ Φ := fun F A H0 H σ e hx Q k =>
  h F A H0 H σ e hx _ fun vs ps ρ1 H1 e1 m1 o1 ⟨ds, hd, hl, φ⟩ => by
    have z := oks_ok o1 hd
    refine ⟨by rw [z.len]; exact hl, fun p hp => k _ _ ρ1 _ ((Rx.res (r := .n (.lst ds)) e1 ⟨p, rfl, hp, Ex.nw hp, _, upd_same, .lst (DvA.mv ((Mv.nw hp).tr (Mv.ex (Ex.nw hp))) _ _ z)⟩).tr m1) φ⟩
end
end DD

end
section
set_option Elab.async false
set_option linter.all false
set_option maxRecDepth 100000
set_option maxHeartbeats 1000000
/-! Tests, statements, targets, loops, over data. -/
namespace DD
open PySem PySem.Spec PyProof.Rows L2 GL
section
variable {K : PySem.W.Frag} {cp : Cb} {X : XC} {F : Addr → Prop} {A : Pass} {H0 H H' H1 H2 : Hp} {σ σ' : L2.St} {ρ ρ' ρ1 ρ2 : List SV} {G : Addr → Prop} {v w : V}
def DT (K : PySem.W.Frag) (cp : Cb) (X : XC) (t : TT) (ρ : List SV) (Φ : Bool → List SV → Prop) : Prop :=
  ∀ F A H0 H σ, En K cp F A H0 H σ ρ → XOk K cp F A H0 X σ → ∀ Q : Bool → Hp → Prop, (∀ b ρ' H', En K cp F A H0 H' σ ρ' → Mv (Gv F σ ρ) H (Gv F σ ρ') H' → Φ b ρ' → Q b H') → t σ H Q
theorem DT.mono {t : TT} {Φ Φ' : Bool → List SV → Prop} (h : DT K cp X t ρ Φ) (m : ∀ r ρ', Φ r ρ' → Φ' r ρ') : DT K cp X t ρ Φ' := fun F A H0 H σ e hx Q k => h F A H0 H σ e hx Q fun b ρ' H' e' m' φ => k b ρ' H' e' m' (m _ _ φ)
/-- the truth of a datum that is a bool -/
def isB : D → Bool → Prop
  | .bl b, c => b = c
  | _, _ => False
theorem dv_bl {b : Bool} (h : Dv K cp G H v (.bl b)) : v = .bl b := by cases h; rfl
theorem DT.val {t : TE} {Φ : Bool → List SV → Prop} (h : DEs K cp X t ρ fun d ρ1 => ∃ b, d = .bl b ∧ Φ b ρ1) : DT K cp X (tB t) ρ Φ := fun F A H0 H σ e hx Q k =>
  h.go e hx fun v d ρ1 H1 e1 m1 dv ⟨b, hd, φ⟩ => by subst hd; exact ⟨b, dv_bl dv, k b ρ1 H1 e1 m1 φ⟩
theorem DT.test {t : TE} {Φ : Bool → List SV → Prop} (h : DEs K cp X t ρ fun d ρ1 => ∃ b, d = .bl b ∧ Φ b ρ1) : DT K cp X (tTest t) ρ Φ := fun F A H0 H σ e hx Q k =>
  h.go e hx fun v d ρ1 H1 e1 m1 dv ⟨b, hd, φ⟩ => by subst hd; exact ⟨b, dv_bl dv, k b ρ1 H1 e1 m1 φ⟩
theorem DT.not {t : TT} {Φ : Bool → List SV → Prop} (h : DT K cp X t ρ fun b ρ1 => Φ (!b) ρ1) : DT K cp X (tNot t) ρ Φ := fun F A H0 H σ e hx Q k =>
  h F A H0 H σ e hx _ fun b ρ1 H1 e1 m1 φ => k _ ρ1 H1 e1 m1 φ
theorem DT.and {t u : TT} {Φ : Bool → List SV → Prop} (h : DT K cp X t ρ fun b ρ1 => if b = true then DT K cp X u ρ1 Φ else Φ false ρ1) : DT K cp X (tAnd t u) ρ Φ := fun F A H0 H σ e hx Q k =>
  h F A H0 H σ e hx _ fun b ρ1 H1 e1 m1 φ => by
    cases b with
    | true => exact iteT ((show DT K cp X u ρ1 Φ from φ) F A H0 H1 σ e1 hx Q fun b ρ2 H2 e2 m2 ψ => k b ρ2 H2 e2 (m1.tr m2) ψ)
    | false => exact iteF (k _ ρ1 H1 e1 m1 φ)
theorem DT.or {t u : TT} {Φ : Bool → List SV → Prop} (h : DT K cp X t ρ fun b ρ1 => if b = true then Φ true ρ1 else DT K cp X u ρ1 Φ) : DT K cp X (tOr t u) ρ Φ := fun F A H0 H σ e hx Q k =>
  h F A H0 H σ e hx _ fun b ρ1 H1 e1 m1 φ => by
    cases b with
    | true => exact iteT (k _ ρ1 H1 e1 m1 φ)
    | false => exact iteF ((show DT K cp X u ρ1 Φ from φ) F A H0 H1 σ e1 hx Q fun b ρ2 H2 e2 m2 ψ => k b ρ2 H2 e2 (m1.tr m2) ψ)
theorem DE.and {ta tb : TE} {Φ : AV → List SV → Prop} (h : DEs K cp X ta ρ fun d ρ1 => ∃ b, d = .bl b ∧ if b = true then DE K cp X tb ρ1 Φ else Φ (.d (.bl false)) ρ1) : DE K cp X (tAndV ta tb) ρ Φ := fun F A H0 H σ e hx Q k =>
  h.go e hx fun v d ρ1 H1 e1 m1 dv ⟨b, hd, φ⟩ => by
    subst hd
    refine ⟨b, dv_bl dv, ?_⟩
    cases b with
    | true => exact iteT ((show DE K cp X tb ρ1 Φ from φ) F A H0 H1 σ e1 hx Q fun v r ρ2 H2 e2 ψ => k v r ρ2 H2 (e2.tr m1) ψ)
    | false => exact iteF (k _ (.d (.bl false)) ρ1 H1 ⟨e1, m1, .bl false⟩ φ)
theorem DE.or {ta tb : TE} {Φ : AV → List SV → Prop} (h : DEs K cp X ta ρ fun d ρ1 => ∃ b, d = .bl b ∧ if b = true then Φ (.d (.bl true)) ρ1 else DE K cp X tb ρ1 Φ) : DE K cp X (tOrV ta tb) ρ Φ := fun F A H0 H σ e hx Q k =>
  h.go e hx fun v d ρ1 H1 e1 m1 dv ⟨b, hd, φ⟩ => by
    subst hd
    refine ⟨b, dv_bl dv, ?_⟩
    cases b with
    | true => exact iteT (k _ (.d (.bl true)) ρ1 H1 ⟨e1, m1, .bl true⟩ φ)
    | false => exact iteF ((show DE K cp X tb ρ1 Φ from φ) F A H0 H1 σ e1 hx Q fun v r ρ2 H2 e2 ψ => k v r ρ2 H2 (e2.tr m1) ψ)
theorem DE.not {ta : TE} {Φ : AV → List SV → Prop} (h : DEs K cp X ta ρ fun d ρ1 => ∃ b, d = .bl b ∧ Φ (.d (.bl !b)) ρ1) : DE K cp X (tNotV ta) ρ Φ := fun F A H0 H σ e hx Q k =>
  h.go e hx fun v d ρ1 H1 e1 m1 dv ⟨b, hd, φ⟩ => by
    subst hd
    exact ⟨b, dv_bl dv, k _ (.d (.bl !b)) ρ1 H1 ⟨e1, m1, .bl _⟩ φ⟩
theorem DE.ite {c : TT} {ta tb : TE} {Φ : AV → List SV → Prop} (h : DT K cp X c ρ fun b ρ1 => if b = true then DE K cp X ta ρ1 Φ else DE K cp X tb ρ1 Φ) : DE K cp X (tIf c ta tb) ρ Φ := fun F A H0 H σ e hx Q k =>
  h F A H0 H σ e hx _ fun b ρ1 H1 e1 m1 φ => by
    cases b with
    | true => exact iteT ((show DE K cp X ta ρ1 Φ from φ) F A H0 H1 σ e1 hx Q fun v r ρ2 H2 e2 ψ => k v r ρ2 H2 (e2.tr m1) ψ)
    | false => exact iteF ((show DE K cp X tb ρ1 Φ from φ) F A H0 H1 σ e1 hx Q fun v r ρ2 H2 e2 ψ => k v r ρ2 H2 (e2.tr m1) ψ)

/-! ### statements -/
def Fin (K : PySem.W.Frag) (cp : Cb) (F : Addr → Prop) (A : Pass) (H0 : Hp) (σ : L2.St) (v : V) (r : AV) (ρ' : List SV) (H' : Hp) : Prop := match r with
  | .d d => En K cp F A H0 H' σ ρ' ∧ Dv K cp (Gv F σ ρ') H' v d
  | .n c => ∃ p, v = .ref p ∧ ¬ F p ∧ H0 p = none ∧ En K cp (plus F p) A H0 H' σ ρ' ∧ (∀ x ∈ A, F x.2) ∧ OwOk K cp (Gv (plus F p) σ ρ') H' p c
  | .o _ => False
  | .t t => TrV K cp (Gv (plusL F t.foot) σ ρ') H' v t ∧ t.ok ∧ (∀ a ∈ t.foot, ¬ F a ∧ H0 a = none) ∧ En K cp (plusL F t.foot) A H0 H' σ ρ' ∧ (∀ x ∈ A, F x.2)
/-- t goes on by N, hands back by R, breaks off by B, goes to the next turn by C -/
def DS (K : PySem.W.Frag) (cp : Cb) (X : XC) (t : TS) (ρ : List SV) (N : List SV → Prop) (R : AV → List SV → Prop) (B C : List SV → Prop) : Prop :=
  ∀ F A H0 H σ, En K cp F A H0 H σ ρ → (∀ σ, XOk K cp F A H0 X σ) → ∀ Dd : Ends,
    (∀ σ' ρ' H', En K cp F A H0 H' σ' ρ' → Mv (Gv F σ ρ) H (Gv F σ' ρ') H' → N ρ' → Dd.nx σ' H') →
    (∀ v r σ' ρ' H', Fin K cp F A H0 σ' v r ρ' H' → R r ρ' → Dd.rt v H') →
    (∀ σ' ρ' H', En K cp F A H0 H' σ' ρ' → Mv (Gv F σ ρ) H (Gv F σ' ρ') H' → B ρ' → Dd.bk σ' H') →
    (∀ σ' ρ' H', En K cp F A H0 H' σ' ρ' → Mv (Gv F σ ρ) H (Gv F σ' ρ') H' → C ρ' → Dd.ct σ' H') → t Dd σ H
variable {N : List SV → Prop} {R : AV → List SV → Prop} {B C : List SV → Prop}
theorem DS.next (h : N ρ) : DS K cp X tNext ρ N R B C := fun F A H0 H σ e hx Dd n r b c => n σ ρ H e (Mv.ex (Ex.rfl' H)) h
theorem DS.brk (h : B ρ) : DS K cp X tBreak ρ N R B C := fun F A H0 H σ e hx Dd n r b c => b σ ρ H e (Mv.ex (Ex.rfl' H)) h
theorem DS.cont (h : C ρ) : DS K cp X tCont ρ N R B C := fun F A H0 H σ e hx Dd n r b c => c σ ρ H e (Mv.ex (Ex.rfl' H)) h
theorem DS.seq {t u : TS} (h : DS K cp X t ρ (fun ρ1 => DS K cp X u ρ1 N R B C) R B C) : DS K cp X (tSeq t u) ρ N R B C := fun F A H0 H σ e hx Dd n r b c =>
  h F A H0 H σ e hx { Dd with nx := u Dd } (fun σ1 ρ1 H1 e1 m1 q => (show DS K cp X u ρ1 N R B C from q) F A H0 H1 σ1 e1 hx Dd (fun σ2 ρ2 H2 e2 m2 q => n σ2 ρ2 H2 e2 (m1.tr m2) q) r
    (fun σ2 ρ2 H2 e2 m2 q => b σ2 ρ2 H2 e2 (m1.tr m2) q) (fun σ2 ρ2 H2 e2 m2 q => c σ2 ρ2 H2 e2 (m1.tr m2) q)) r b c
theorem DS.pre {t : TS} (m : Mv (Gv F σ ρ) H (Gv F σ' ρ1) H1) (h : DS K cp X t ρ1 N R B C) (e : En K cp F A H0 H1 σ' ρ1) (hx : ∀ σ, XOk K cp F A H0 X σ) {Dd : Ends}
    (n : ∀ σ' ρ' H', En K cp F A H0 H' σ' ρ' → Mv (Gv F σ ρ) H (Gv F σ' ρ') H' → N ρ' → Dd.nx σ' H') (r : ∀ v r σ' ρ' H', Fin K cp F A H0 σ' v r ρ' H' → R r ρ' → Dd.rt v H')
    (b : ∀ σ' ρ' H', En K cp F A H0 H' σ' ρ' → Mv (Gv F σ ρ) H (Gv F σ' ρ') H' → B ρ' → Dd.bk σ' H') (c : ∀ σ' ρ' H', En K cp F A H0 H' σ' ρ' → Mv (Gv F σ ρ) H (Gv F σ' ρ') H' → C ρ' → Dd.ct σ' H') : t Dd σ' H1 :=
  h F A H0 H1 σ' e hx Dd (fun σ2 ρ2 H2 e2 m2 q => n σ2 ρ2 H2 e2 (m.tr m2) q) r (fun σ2 ρ2 H2 e2 m2 q => b σ2 ρ2 H2 e2 (m.tr m2) q) (fun σ2 ρ2 H2 e2 m2 q => c σ2 ρ2 H2 e2 (m.tr m2) q)
theorem DS.ite {c : TT} {t u : TS} {C' : List SV → Prop} (h : DT K cp X c ρ fun b ρ1 => if b = true then DS K cp X t ρ1 N R B C' else DS K cp X u ρ1 N R B C') : DS K cp X (tIfS c t u) ρ N R B C' := fun F A H0 H σ e hx Dd n r b k =>
  h F A H0 H σ e (hx _) _ fun x ρ1 H1 e1 m1 φ => by
    cases x with
    | true => exact iteT (DS.pre m1 (show DS K cp X t ρ1 N R B C' from φ) e1 hx n r b k)
    | false => exact iteF (DS.pre m1 (show DS K cp X u ρ1 N R B C' from φ) e1 hx n r b k)
theorem DS.ret {te : TE} (h : DE K cp X te ρ fun r ρ1 => (match r with | .o _ => False | _ => True) ∧ R r ρ1) : DS K cp X (tRet te) ρ N R B C := fun F A H0 H σ e hx Dd n r b c =>
  h F A H0 H σ e (hx _) _ fun v a ρ1 H1 e1 ⟨h1, h2⟩ => by
    refine r v a σ ρ1 H1 ?_ h2
    cases a with
    | d d => exact ⟨e1.1, e1.2.2⟩
    | n ds => obtain ⟨p, a, b, c, e, f, g, i⟩ := e1; exact ⟨p, a, b, c, e, f, i⟩
    | o i => exact h1.elim
    | t t => obtain ⟨a, b, c, d, e, f⟩ := e1; exact ⟨a, b, c, d, e⟩
theorem DS.drop {te : TE} (h : DE K cp X te ρ fun _ ρ1 => N ρ1) : DS K cp X (tDrop te) ρ N R B C := fun F A H0 H σ e hx Dd n r b c =>
  h F A H0 H σ e (hx _) _ fun v a ρ1 H1 e1 h2 => by
    cases a with
    | d d => exact n σ ρ1 H1 e1.1 e1.2.1 h2
    | n ds => have z := e1.share rfl; exact n σ ρ1 H1 z.1 z.2.1 h2
    | o i => exact n σ ρ1 H1 e1.1 e1.2.1 h2
    | t t => have z := e1.share rfl; exact n σ ρ1 H1 z.1 z.2.1 h2

/-! ### targets -/
def free (ρ : List SV) (i : Nat) : Prop := i < ρ.length ∧ (∀ ds, ρ[i]? ≠ some (.ow true ds)) ∧ ∀ t, ρ[i]? ≠ some (.dp true t)
theorem own_set {i j : Nat} {a : Addr} {x : Option V} {s : SV} (ne : j ≠ i) : own (σ.set i x) (ρ.set i s) j a ↔ own σ ρ j a := by
  unfold own
  rw [List.getElem?_set_ne ne.symm, List.getElem?_set_ne ne.symm]
theorem own_sh {i j : Nat} {a : Addr} {x : Option V} {s : SV} (ns : ∀ b ds, s ≠ .ow b ds) (nt : ∀ b t, s ≠ .dp b t) (h : own (σ.set i x) (ρ.set i s) j a) : j ≠ i ∧ own σ ρ j a := by
  have ne : j ≠ i := by
    rintro rfl
    obtain ⟨s', h1, h2⟩ := h
    rw [List.getElem?_set_self'] at h1
    cases e : ρ[j]? with
    | none => rw [e] at h1; cases h1
    | some q =>
      rw [e] at h1
      have := Option.some.inj h1
      subst this
      cases s with
      | no => exact h2
      | sh d => exact h2
      | ow b ds => exact ns b ds rfl
      | dp b t => exact nt b t rfl
  exact ⟨ne, (own_set ne).mp h⟩
theorem gv_set {i : Nat} {x : Option V} {s : SV} (ns : ∀ b ds, s ≠ .ow b ds) (nt : ∀ b t, s ≠ .dp b t := by intro _ _ z; cases z) : ∀ a, Gv F (σ.set i x) (ρ.set i s) a → Gv F σ ρ a := fun a g => g.elim .inl fun ⟨j, o⟩ => .inr ⟨j, (own_sh ns nt o).2⟩
/-- a slot takes a datum, or is wiped -/
theorem En.set (e : En K cp F A H0 H σ ρ) {i : Nat} {x : Option V} {s : SV} (hi : free ρ i) (hs : (∃ d v, s = .sh d ∧ x = some v ∧ Dv K cp (Gv F σ ρ) H v d) ∨ s = .no) : En K cp F A H0 H (σ.set i x) (ρ.set i s) := by
  have ns : ∀ b ds, s ≠ .ow b ds := by
    rintro b ds rfl
    rcases hs with ⟨d, v, q, _⟩ | q <;> cases q
  have nt : ∀ b t, s ≠ .dp b t := by
    rintro b ds rfl
    rcases hs with ⟨d, v, q, _⟩ | q <;> cases q
  have hl : i < σ.length := by rw [e.len]; exact hi.1
  have ne_ : ∀ {j : Nat} {b : Bool} {ds : D}, (ρ.set i s)[j]? = some (.ow b ds) → j ≠ i := fun {j b ds} h => by
    rintro rfl
    rw [List.getElem?_set_self hi.1] at h
    exact ns b ds (Option.some.inj h)
  have neT : ∀ {j : Nat} {b : Bool} {t : Tr}, (ρ.set i s)[j]? = some (.dp b t) → j ≠ i := fun {j b t} h => by
    rintro rfl
    rw [List.getElem?_set_self hi.1] at h
    exact nt b t (Option.some.inj h)
  refine ⟨by rw [List.length_set, List.length_set]; exact e.len, e.tr, e.fr, e.tb, fun y hy => ?_, fun j k a h1 h2 => e.dj j k a (own_sh ns nt h1).2 (own_sh ns nt h2).2, fun j b ds a h1 h2 => ?_, fun j b t a h1 h2 => ?_, fun j s' h => ?_⟩
  · obtain ⟨f, q⟩ := e.io y hy
    refine ⟨f, ?_⟩
    rcases q with ⟨hk, ds, h1, h2⟩ | ⟨hk, t, h1, h2⟩
    · have ne : i ≠ y.1 := by rintro rfl; exact hi.2.1 ds h1
      exact .inl ⟨hk, ds, by rw [List.getElem?_set_ne ne]; exact h1, by rw [List.getElem?_set_ne ne]; exact h2⟩
    · have ne : i ≠ y.1 := by rintro rfl; exact hi.2.2 t h1
      exact .inr ⟨hk, t, by rw [List.getElem?_set_ne ne]; exact h1, by rw [List.getElem?_set_ne ne]; exact h2⟩
  · have o := ne_ h1
    rw [List.getElem?_set_ne o.symm] at h1 h2
    exact e.ow j b ds a h1 h2
  · have o := neT h1
    rw [List.getElem?_set_ne o.symm] at h1
    exact e.dw j b t a h1 h2
  · have sub : Mv (Gv F σ ρ) H (Gv F (σ.set i x) (ρ.set i s)) H := Mv.sub (gv_set ns nt)
    by_cases ne : i = j
    · subst ne
      rw [List.getElem?_set_self hi.1] at h
      cases h
      rw [List.getElem?_set_self hl]
      rcases hs with ⟨d, v, rfl, rfl, dv⟩ | rfl
      · exact ⟨v, rfl, Dv.mv sub _ _ dv⟩
      · trivial
    · rw [List.getElem?_set_ne ne] at h ⊢
      exact (e.sl j s' h).mv sub fun _ _ _ h _ => h
def DG (K : PySem.W.Frag) (cp : Cb) (g : TG) (ts : List Nat) (d : D) (ρ : List SV) (Ψ : List SV → Prop) : Prop :=
  ∀ F A H0 H σ, En K cp F A H0 H σ ρ → ∀ v, Dv K cp (Gv F σ ρ) H v d → ∀ Q : L2.St → Hp → Prop, (∀ σ' ρ', En K cp F A H0 H σ' ρ' → (∀ a, Gv F σ' ρ' a → Gv F σ ρ a) → (∀ vs, (∀ i ∈ ts, i ∈ vs) → wipe σ' vs = wipe σ vs) → Ψ ρ' → Q σ' H) → g v σ H Q
theorem wipe_set {i : Nat} {x : Option V} : ∀ (vs : List Nat), i ∈ vs → wipe (σ.set i x) vs = wipe σ vs
  | [], h => by cases h
  | j :: vs, h => by
    show (wipe (σ.set i x) vs).set j none = (wipe σ vs).set j none
    by_cases e : i ∈ vs
    · rw [wipe_set vs e]
    · have q : i = j := by
        rcases List.mem_cons.mp h with h | h
        · exact h
        · exact absurd h e
      subst q
      have : ∀ ws : List Nat, i ∉ ws → wipe (σ.set i x) ws = (wipe σ ws).set i x := by
        intro ws hw
        induction ws with
        | nil => rfl
        | cons k ws ih =>
          show (wipe (σ.set i x) ws).set k none = ((wipe σ ws).set k none).set i x
          rw [ih fun z => hw (List.mem_cons_of_mem _ z)]
          exact List.set_comm _ _ (fun z => hw (by rw [← z]; exact List.mem_cons_self))
      rw [this vs e, List.set_set]
theorem DG.name {i : Nat} {d : D} {Ψ : List SV → Prop} (hi : free ρ i) (q : Ψ (ρ.set i (.sh d))) : DG K cp (gName i) [i] d ρ Ψ := fun F A H0 H σ e v dv Q k =>
  k _ _ (e.set hi (.inl ⟨d, v, rfl, rfl, dv⟩)) (gv_set (by rintro b ds z; cases z)) (fun vs h => wipe_set vs (h i (by simp))) q
def DGs (K : PySem.W.Frag) (cp : Cb) (g : TGs) (ts : List Nat) (ds : List D) (ρ : List SV) (Ψ : List SV → Prop) : Prop :=
  ∀ F A H0 H σ, En K cp F A H0 H σ ρ → ∀ vs, DvA K cp (Gv F σ ρ) H vs ds → ∀ Q : L2.St → Hp → Prop, (∀ σ' ρ', En K cp F A H0 H σ' ρ' → (∀ a, Gv F σ' ρ' a → Gv F σ ρ a) → (∀ vs, (∀ i ∈ ts, i ∈ vs) → wipe σ' vs = wipe σ vs) → Ψ ρ' → Q σ' H) → g vs σ H Q
theorem DGs.nil {Ψ : List SV → Prop} (q : Ψ ρ) : DGs K cp gNil [] [] ρ Ψ := fun F A H0 H σ e vs dv Q k => by
  cases dv
  exact ⟨rfl, k σ ρ e (fun _ g => g) (fun _ _ => rfl) q⟩
theorem DGs.cons {g : TG} {gs : TGs} {ts us : List Nat} {d : D} {ds : List D} {Ψ : List SV → Prop} (h : DG K cp g ts d ρ fun ρ1 => DGs K cp gs us ds ρ1 Ψ) : DGs K cp (gCons g gs) (ts ++ us) (d :: ds) ρ Ψ := fun F A H0 H σ e vs dv Q k => by
  cases dv with
  | @cons v vs _ _ d1 d2 =>
    refine ⟨v, vs, rfl, h F A H0 H σ e v d1 _ fun σ1 ρ1 e1 g1 w1 q1 => (show DGs K cp gs us ds ρ1 Ψ from q1) F A H0 H σ1 e1 vs (DvA.mv (Mv.sub g1) _ _ d2) Q fun σ2 ρ2 e2 g2 w2 q2 => k σ2 ρ2 e2 (fun a z => g1 a (g2 a z)) (fun ws hw => ?_) q2⟩
    rw [w2 ws fun i hi => hw i (by simp [hi]), w1 ws fun i hi => hw i (by simp [hi])]
theorem DG.tup {n : Nat} {gs : TGs} {ts : List Nat} {d : D} {ds : List D} {Ψ : List SV → Prop} (hd : d = .tup ds) (hn : ds.length = n) (h : DGs K cp gs ts ds ρ Ψ) : DG K cp (gTup K n gs) ts d ρ Ψ := fun F A H0 H σ e v dv Q k => by
  subst hd
  cases dv with
  | @tup a vs _ h1 _ h2 => exact ⟨a, vs, rfl, .inl (.inl h1), by rw [h2.len]; exact hn, h F A H0 H σ e vs h2 Q k⟩
  | @kt a vs _ h1 h2 h3 => exact ⟨a, vs, rfl, h1 H, by rw [h2.len]; exact hn, h F A H0 H σ e vs h2 Q k⟩
/-- the same, whatever is wiped -/
def DGo (K : PySem.W.Frag) (cp : Cb) (g : TG) (d : D) (ρ : List SV) (Ψ : List SV → Prop) : Prop :=
  ∀ F A H0 H σ, En K cp F A H0 H σ ρ → ∀ v, Dv K cp (Gv F σ ρ) H v d → ∀ Q : L2.St → Hp → Prop, (∀ σ' ρ', En K cp F A H0 H σ' ρ' → (∀ a, Gv F σ' ρ' a → Gv F σ ρ a) → Ψ ρ' → Q σ' H) → g v σ H Q
def DGos (K : PySem.W.Frag) (cp : Cb) (g : TGs) (ds : List D) (ρ : List SV) (Ψ : List SV → Prop) : Prop :=
  ∀ F A H0 H σ, En K cp F A H0 H σ ρ → ∀ vs, DvA K cp (Gv F σ ρ) H vs ds → ∀ Q : L2.St → Hp → Prop, (∀ σ' ρ', En K cp F A H0 H σ' ρ' → (∀ a, Gv F σ' ρ' a → Gv F σ ρ a) → Ψ ρ' → Q σ' H) → g vs σ H Q
theorem DGo.name {i : Nat} {d : D} {Ψ : List SV → Prop} (hi : free ρ i) (q : Ψ (ρ.set i (.sh d))) : DGo K cp (gName i) d ρ Ψ := fun F A H0 H σ e v dv Q k =>
  k _ _ (e.set hi (.inl ⟨d, v, rfl, rfl, dv⟩)) (gv_set (by rintro b ds z; cases z)) q
theorem DGos.nil {Ψ : List SV → Prop} (q : Ψ ρ) : DGos K cp gNil [] ρ Ψ := fun F A H0 H σ e vs dv Q k => by
  cases dv
  exact ⟨rfl, k σ ρ e (fun _ g => g) q⟩
theorem DGos.cons {g : TG} {gs : TGs} {d : D} {ds : List D} {Ψ : List SV → Prop} (h : DGo K cp g d ρ fun ρ1 => DGos K cp gs ds ρ1 Ψ) : DGos K cp (gCons g gs) (d :: ds) ρ Ψ := fun F A H0 H σ e vs dv Q k => by
  cases dv with
  | @cons v vs _ _ d1 d2 =>
    exact ⟨v, vs, rfl, h F A H0 H σ e v d1 _ fun σ1 ρ1 e1 g1 q1 => (show DGos K cp gs ds ρ1 Ψ from q1) F A H0 H σ1 e1 vs (DvA.mv (Mv.sub g1) _ _ d2) Q fun σ2 ρ2 e2 g2 q2 => k σ2 ρ2 e2 (fun a z => g1 a (g2 a z)) q2⟩
theorem DGo.tup {n : Nat} {gs : TGs} {d : D} {ds : List D} {Ψ : List SV → Prop} (hd : d = .tup ds) (hn : ds.length = n) (h : DGos K cp gs ds ρ Ψ) : DGo K cp (gTup K n gs) d ρ Ψ := fun F A H0 H σ e v dv Q k => by
  subst hd
  cases dv with
  | @tup a vs _ h1 _ h2 => exact ⟨a, vs, rfl, .inl (.inl h1), by rw [h2.len]; exact hn, h F A H0 H σ e vs h2 Q k⟩
  | @kt a vs _ h1 h2 h3 => exact ⟨a, vs, rfl, h1 H, by rw [h2.len]; exact hn, h F A H0 H σ e vs h2 Q k⟩
theorem DS.asg {te : TE} {g : TG} (h : DEs K cp X te ρ fun d ρ1 => DGo K cp g d ρ1 N) : DS K cp X (tAsg te g) ρ N R B C := fun F A H0 H σ e hx Dd n r b c =>
  h.go e (hx _) fun v d ρ1 H1 e1 m1 dv q => (show DGo K cp g d ρ1 N from q) F A H0 H1 σ e1 v dv _ fun σ2 ρ2 e2 g2 q2 => n σ2 ρ2 H1 e2 (m1.tr (Mv.sub g2)) q2
/-- a name takes a new list, as its owner -/
theorem own_new (e : En K cp (plus F p) A H0 H σ ρ) (nf : ¬ F p) (h0 : H0 p = none) (ha : ∀ x ∈ A, F x.2) {ds : D} {i : Nat} (hi : free ρ i) (dv : OwOk K cp (Gv (plus F p) σ ρ) H p ds) :
    En K cp F A H0 H (σ.set i (some (.ref p))) (ρ.set i (.ow false ds)) ∧ ∀ a, Gv F (σ.set i (some (.ref p))) (ρ.set i (.ow false ds)) a → Gv (plus F p) σ ρ a := by
  have hl : i < σ.length := by rw [e.len]; exact hi.1
  have noP : ∀ j, ¬ DD.own σ ρ j p := fun j o => by
    rcases e.mine o with q | q
    · exact nf (ha _ q)
    · exact q.1 (.inr rfl)
  have oa : ∀ j a, DD.own (σ.set i (some (.ref p))) (ρ.set i (.ow false ds)) j a → (j = i ∧ a = p) ∨ (j ≠ i ∧ DD.own σ ρ j a) := fun j a o => by
    by_cases z : j = i
    · subst z
      obtain ⟨s, h1, h2⟩ := o
      rw [List.getElem?_set_self hi.1] at h1
      cases h1
      have h2 : (σ.set j (some (.ref p)))[j]? = some (some (.ref a)) := h2
      rw [List.getElem?_set_self hl] at h2
      cases h2
      exact .inl ⟨rfl, rfl⟩
    · exact .inr ⟨z, (own_set z).mp o⟩
  have sub : ∀ a, Gv F (σ.set i (some (.ref p))) (ρ.set i (.ow false ds)) a → Gv (plus F p) σ ρ a := fun a g => by
    rcases g with g | ⟨j, o⟩
    · exact .inl (.inl g)
    · rcases oa j a o with ⟨_, rfl⟩ | ⟨_, o⟩
      · exact .inl (.inr rfl)
      · exact .inr ⟨j, o⟩
  refine ⟨⟨by rw [List.length_set, List.length_set]; exact e.len, fun a f => e.tr a (.inl f), e.fr, e.tb, fun y hy => ?_, fun j k a h1 h2 => ?_, fun j b es a h1 h2 => ?_, fun j b t a h1 h2 => ?_, fun j s' h => ?_⟩, sub⟩
  · obtain ⟨f, q⟩ := e.io y hy
    refine ⟨ha y hy, ?_⟩
    rcases q with ⟨hk, es, h1, h2⟩ | ⟨hk, t, h1, h2⟩
    · have ne : i ≠ y.1 := by rintro rfl; exact hi.2.1 es h1
      exact .inl ⟨hk, es, by rw [List.getElem?_set_ne ne]; exact h1, by rw [List.getElem?_set_ne ne]; exact h2⟩
    · have ne : i ≠ y.1 := by rintro rfl; exact hi.2.2 t h1
      exact .inr ⟨hk, t, by rw [List.getElem?_set_ne ne]; exact h1, by rw [List.getElem?_set_ne ne]; exact h2⟩
  · rcases oa j a h1 with ⟨rfl, rfl⟩ | ⟨n1, o1⟩
    · rcases oa k a h2 with ⟨rfl, _⟩ | ⟨n2, o2⟩
      · rfl
      · exact absurd o2 (noP k)
    · rcases oa k a h2 with ⟨rfl, rfl⟩ | ⟨n2, o2⟩
      · exact absurd o1 (noP j)
      · exact e.dj j k a o1 o2
  · by_cases z : i = j
    · subst z
      rw [List.getElem?_set_self hi.1] at h1
      rw [List.getElem?_set_self hl] at h2
      cases h1; cases h2
      exact ⟨nf, h0⟩
    · rw [List.getElem?_set_ne z] at h1 h2
      have q := e.ow j b es a h1 h2
      split at q
      · rename_i hb; rw [if_pos hb]; exact q
      · rename_i hb; rw [if_neg hb]; exact ⟨fun f => q.1 (.inl f), q.2⟩
  · by_cases z : i = j
    · subst z
      rw [List.getElem?_set_self hi.1] at h1
      cases h1
    · rw [List.getElem?_set_ne z] at h1
      exact (e.dw j b t a h1 h2).imp_right fun q => ⟨fun f => q.1 (.inl f), q.2⟩
  · by_cases z : i = j
    · subst z
      rw [List.getElem?_set_self hi.1] at h
      cases h
      rw [List.getElem?_set_self hl]
      obtain ⟨u, hu, dv⟩ := dv
      exact ⟨p, rfl, u, hu, dv.mv (Mv.sub sub)⟩
    · rw [List.getElem?_set_ne z] at h ⊢
      exact (e.sl j s' h).mv (Mv.sub sub) fun _ _ _ h _ => h
theorem DS.own {te : TE} {i : Nat} (h : DE K cp X te ρ fun r ρ1 => ∃ ds, r = .n ds ∧ free ρ1 i ∧ N (ρ1.set i (.ow false ds))) : DS K cp X (tAsg te (gName i)) ρ N R B C := fun F A H0 H σ e hx Dd n r b c =>
  h F A H0 H σ e (hx _) _ fun v a ρ1 H1 e1 ⟨ds, ea, hi, q⟩ => by
    subst ea
    obtain ⟨p, rfl, nf, h0, en, ha, mv, dv⟩ := e1
    obtain ⟨e2, g2⟩ := own_new en nf h0 ha hi dv
    exact n _ _ H1 e2 (mv.tr (Mv.sub g2)) q
end
end DD

end
section
set_option Elab.async false
set_option linter.all false
set_option maxRecDepth 100000
set_option maxHeartbeats 1000000
/-! Loops and comprehensions over data. -/
namespace DD
open PySem PySem.Spec PyProof.Rows L2 GL
section
variable {K : PySem.W.Frag} {cp : Cb} {X : XC} {F : Addr → Prop} {A : Pass} {H0 H H' H1 H2 : Hp} {σ σ' : L2.St} {ρ ρ' ρ1 ρ2 : List SV} {G : Addr → Prop} {v w : V}
variable {N : List SV → Prop} {R : AV → List SV → Prop} {B C : List SV → Prop}
/-- what G tells stands in H -/
def Trk (G : Addr → Prop) (H : Hp) : Prop := ∀ a, G a → ∃ o, H a = some o ∧ OwK o
theorem En.trk (e : En K cp F A H0 H σ ρ) : Trk (Gv F σ ρ) H := fun a g => g.elim (e.tr a) fun ⟨i, o⟩ => e.own_k o
/-- it gives xs, while what stood at Gs, Hs stands -/
def Wk (K : PySem.W.Frag) (cp : Cb) (J : It) (xs : List D) (Gs : Addr → Prop) (Hs : Hp) : Prop :=
  Walk J xs.length (fun H => ∃ G, Mv Gs Hs G H) fun i H x H' => Ex H H' ∧ ∀ G, Mv Gs Hs G H → Trk G H → ∃ d, xs[i]? = some d ∧ Dv K cp G H' x d
def DI (K : PySem.W.Frag) (cp : Cb) (X : XC) (wi : TI) (ρ : List SV) (Ψ : List D → List SV → Prop) : Prop :=
  ∀ F A H0 H σ, En K cp F A H0 H σ ρ → XOk K cp F A H0 X σ → ∀ Q : It → Hp → Prop, (∀ J xs ρ' H', En K cp F A H0 H' σ ρ' → Mv (Gv F σ ρ) H (Gv F σ ρ') H' → Wk K cp J xs (Gv F σ ρ') H' → Ψ xs ρ' → Q J H') → wi σ H Q
theorem DvA.at : ∀ {vs : List V} {ds : List D} {i : Nat} {v : V}, DvA K cp G H vs ds → vs[i]? = some v → ∃ d, ds[i]? = some d ∧ Dv K cp G H v d
  | [], [], i, _, _, h => by simp at h
  | v :: _, d :: _, 0, _, .cons h _, e => by simp at e; subst e; exact ⟨d, rfl, h⟩
  | _ :: vs, _ :: ds, i + 1, _, .cons _ h, e => by simpa using DvA.at (vs := vs) (ds := ds) (i := i) h (by simpa using e)
theorem wk_list {a : Addr} {vs : List V} {xs : List D} (h : H a = some (.lst vs)) (n : ¬ G a) (dv : DvA K cp G H vs xs) : Wk K cp (Itl K a) xs G H := by
  have e := dv.len
  unfold Wk
  rw [← e]
  refine walk_list.mono (fun H2 ⟨G2, m⟩ => .inl (.inl (m.k _ _ n h).2)) fun i H2 x H3 _ _ y => ?_
  obtain ⟨rfl, hx⟩ := y
  refine ⟨Ex.rfl' _, fun G2 m _ => ?_⟩
  obtain ⟨d, h1, h2⟩ := dv.at hx
  exact ⟨d, h1, Dv.mv m _ _ h2⟩
theorem wk_tup {a : Addr} {vs : List V} {xs : List D} (h : ∀ G2 H2, Mv G H G2 H2 → SqT K H2 a vs) (dv : DvA K cp G H vs xs) : Wk K cp (Itt K a) xs G H := by
  have e := dv.len
  unfold Wk
  rw [← e]
  refine walk_tup.mono (fun H2 ⟨G2, m⟩ => h G2 H2 m) fun i H2 x H3 _ _ y => ?_
  obtain ⟨rfl, hx⟩ := y
  refine ⟨Ex.rfl' _, fun G2 m _ => ?_⟩
  obtain ⟨d, h1, h2⟩ := dv.at hx
  exact ⟨d, h1, Dv.mv m _ _ h2⟩
theorem DI.list {te : TE} {Ψ : List D → List SV → Prop} (h : DEs K cp X te ρ fun d ρ1 => ∃ xs, d = .lst xs ∧ Ψ xs ρ1) : DI K cp X (iList K te) ρ Ψ := fun F A H0 H σ e hx Q k =>
  h.go e hx fun v d ρ1 H1 e1 m1 dv ⟨xs, hd, ψ⟩ => by
    subst hd
    cases dv with
    | @lst a vs _ h1 n h2 => exact ⟨a, rfl, ⟨vs, .inl (.inl h1)⟩, k _ xs ρ1 H1 e1 m1 (wk_list h1 n h2) ψ⟩
theorem DI.tup {te : TE} {Ψ : List D → List SV → Prop} (h : DEs K cp X te ρ fun d ρ1 => ∃ xs, d = .tup xs ∧ Ψ xs ρ1) : DI K cp X (iTup K te) ρ Ψ := fun F A H0 H σ e hx Q k =>
  h.go e hx fun v d ρ1 H1 e1 m1 dv ⟨xs, hd, ψ⟩ => by
    subst hd
    cases dv with
    | @tup a vs _ h1 n h2 => exact ⟨a, rfl, ⟨vs, .inl (.inl h1)⟩, k _ xs ρ1 H1 e1 m1 (wk_tup (fun G2 H2 m => .inl (.inl (m.k _ _ n h1).2)) h2) ψ⟩
    | @kt a vs _ h1 h2 h3 => exact ⟨a, rfl, ⟨vs, h1 _⟩, k _ xs ρ1 H1 e1 m1 (wk_tup (fun G2 H2 m => h1 H2) h2) ψ⟩
theorem DI.seqL {tl tl' : TE} {Ψ : List D → List SV → Prop} (h : DI K cp X (iList K tl) ρ Ψ) : DI K cp X (iSeq K tl tl') ρ Ψ := fun F A H0 H σ e hx Q k => .inl (h F A H0 H σ e hx Q k)
theorem DI.seqT {tl tl' : TE} {Ψ : List D → List SV → Prop} (h : DI K cp X (iTup K tl') ρ Ψ) : DI K cp X (iSeq K tl tl') ρ Ψ := fun F A H0 H σ e hx Q k => .inr (h F A H0 H σ e hx Q k)
def intD (lo : Int) (n : Nat) : List D := (List.range n).map fun (i : Nat) => D.int (lo + (i : Int))
theorem intD_get {lo : Int} {n i : Nat} (h : i < n) : (intD lo n)[i]? = some (.int (lo + (i : Int))) := by unfold intD; rw [List.getElem?_map, List.getElem?_range h]; rfl
theorem intD_len {lo : Int} {n : Nat} : (intD lo n).length = n := by unfold intD; simp
theorem wk_range {lo : Int} {n : Nat} : Wk K cp (Itr lo n) (intD lo n) G H := by
  unfold Wk
  rw [intD_len]
  refine walk_range.mono (fun _ _ => trivial) fun i H2 x H3 hi _ y => ?_
  obtain ⟨rfl, rfl⟩ := y
  exact ⟨Ex.rfl' _, fun G2 _ _ => ⟨_, intD_get hi, .int _⟩⟩
theorem dv_int {i : Int} (h : Dv K cp G H v (.int i)) : v = .int i := by cases h; rfl
theorem dv_str {x : Str} (h : Dv K cp G H v (.str x)) : v = .str x := by cases h; rfl
theorem DI.rng1 {ta : TA} {Ψ : List D → List SV → Prop} (h : DAo K cp X ta ρ fun ps ρ1 => ∃ j : Int, ps = [.d (.int j)] ∧ -(2 ^ 62) ≤ j ∧ j < 2 ^ 62 ∧ Ψ (intD 0 j.toNat) ρ1) : DI K cp X (iRng1 ta) ρ Ψ := fun F A H0 H σ e hx Q k =>
  h F A H0 H σ e hx _ fun vs ps ρ1 H1 e1 m1 o1 ⟨j, hp, a, b, ψ⟩ => by
    subst hp
    cases o1 with
    | cons o1 o2 =>
      cases o2
      exact ⟨j, by rw [dv_int o1], a, b, k _ _ ρ1 H1 e1 m1 wk_range ψ⟩
theorem DI.rng2 {ta : TA} {Ψ : List D → List SV → Prop} (h : DAo K cp X ta ρ fun ps ρ1 => ∃ i j : Int, ps = [.d (.int i), .d (.int j)] ∧ (-(2 ^ 62) ≤ i ∧ i < 2 ^ 62 ∧ -(2 ^ 62) ≤ j ∧ j < 2 ^ 62) ∧ Ψ (intD i (j - i).toNat) ρ1) : DI K cp X (iRng2 ta) ρ Ψ := fun F A H0 H σ e hx Q k =>
  h F A H0 H σ e hx _ fun vs ps ρ1 H1 e1 m1 o1 ⟨i, j, hp, a, ψ⟩ => by
    subst hp
    cases o1 with
    | cons o1 o2 =>
      cases o2 with
      | cons o2 o3 =>
        cases o3
        exact ⟨i, j, by rw [dv_int o1, dv_int o2], a, k _ _ ρ1 H1 e1 m1 wk_range ψ⟩
theorem En.ctx (e : En K cp F A H0 H σ ρ) (x : Ex H H') : En K cp F A H0 H' σ ρ := e.ex x
/-- a for: I by the turn and the slots -/
theorem DS.for {wi : TI} {g : TG} {tb : TS} (h : DI K cp X wi ρ fun xs ρ1 => ∃ I : Nat → List SV → Prop, I 0 ρ1 ∧
    (∀ i d ρ2, xs[i]? = some d → I i ρ2 → DGo K cp g d ρ2 fun ρ3 => DS K cp X tb ρ3 (I (i + 1)) R N (I (i + 1))) ∧ ∀ ρ2, I xs.length ρ2 → N ρ2) : DS K cp X (tFor wi g tb) ρ N R B C := fun F A H0 H σ e hx Dd n r b c =>
  h F A H0 H σ e (hx _) _ fun J xs ρ1 H1 e1 m1 wk ⟨I, i0, hs, hd⟩ => by
    refine for_it wk (fun i σ' H' => ∃ ρ', En K cp F A H0 H' σ' ρ' ∧ Mv (Gv F σ ρ1) H1 (Gv F σ' ρ') H' ∧ I i ρ') ⟨ρ1, e1, Mv.ex (Ex.rfl' _), i0⟩ (fun i σ' H' _ ⟨ρ', e', m', _⟩ => ⟨_, m'⟩) ?_ fun σ' H' ⟨ρ', e', m', q⟩ => n σ' ρ' H' e' (m1.tr m') (hd ρ' q)
    rintro i x σ2 H2 H3 hi ⟨ρ2, e2, m2, q2⟩ ⟨ex, y⟩
    obtain ⟨d, hxi, dv⟩ := y _ m2 e2.trk
    refine hs i d ρ2 hxi q2 F A H0 H3 σ2 (e2.ex ex) x dv _ fun σ3 ρ3 e3 g3 q3 => ?_
    have m3 : Mv (Gv F σ ρ1) H1 (Gv F σ3 ρ3) H3 := m2.tr ((Mv.ex ex).tr (Mv.sub g3))
    exact (show DS K cp X tb ρ3 (I (i + 1)) R N (I (i + 1)) from q3) F A H0 H3 σ3 e3 hx _ (fun σ4 ρ4 H4 e4 m4 q => ⟨ρ4, e4, m3.tr m4, q⟩) r (fun σ4 ρ4 H4 e4 m4 q => n σ4 ρ4 H4 e4 (m1.tr (m3.tr m4)) q) fun σ4 ρ4 H4 e4 m4 q => ⟨ρ4, e4, m3.tr m4, q⟩
/-- a while: I by the slots, μ falls -/
theorem DS.while {c : TT} {tb : TS} (I : List SV → Prop) (μ : List SV → Nat) (h0 : I ρ) (h : ∀ ρ1, I ρ1 → DT K cp X c ρ1 fun b ρ2 => if b = true then DS K cp X tb ρ2 (fun ρ3 => I ρ3 ∧ μ ρ3 < μ ρ1) R N (fun ρ3 => I ρ3 ∧ μ ρ3 < μ ρ1) else N ρ2) : DS K cp X (tWhile c tb) ρ N R B C := fun F A H0 H σ e hx Dd n r b k => by
  refine ⟨fun m σ' H' => ∃ ρ', En K cp F A H0 H' σ' ρ' ∧ Mv (Gv F σ ρ) H (Gv F σ' ρ') H' ∧ I ρ' ∧ μ ρ' = m, ⟨_, ρ, e, Mv.ex (Ex.rfl' _), h0, rfl⟩, ?_⟩
  rintro m σ1 H1 ⟨ρ1, e1, m1, i1, rfl⟩
  refine h ρ1 i1 F A H0 H1 σ1 e1 (hx _) _ fun x ρ2 H2 e2 m2 q => ?_
  cases x with
  | true =>
    refine iteT ⟨fun σ' H' => ∃ ρ', En K cp F A H0 H' σ' ρ' ∧ Mv (Gv F σ ρ) H (Gv F σ' ρ') H' ∧ I ρ' ∧ μ ρ' < μ ρ1, fun σ' H' ⟨ρ', e', m', i', l⟩ => ⟨_, l, ρ', e', m', i', rfl⟩, ?_⟩
    exact (show DS K cp X tb ρ2 _ R N _ from q) F A H0 H2 σ1 e2 hx _ (fun σ4 ρ4 H4 e4 m4 q => ⟨ρ4, e4, m1.tr (m2.tr m4), q.1, q.2⟩) r (fun σ4 ρ4 H4 e4 m4 q => n σ4 ρ4 H4 e4 (m1.tr (m2.tr m4)) q) fun σ4 ρ4 H4 e4 m4 q => ⟨ρ4, e4, m1.tr (m2.tr m4), q.1, q.2⟩
  | false => exact iteF (n σ1 ρ2 H2 e2 (m1.tr m2) q)

/-! ### comprehensions -/
def wipeS (ρ : List SV) : List Nat → List SV
  | [] => ρ
  | v :: vs => (wipeS ρ vs).set v .no
/-- the slots of the comprehension own nothing -/
def nown (ρ : List SV) (vs : List Nat) : Prop := ∀ i ∈ vs, i < ρ.length ∧ (∀ b ds, ρ[i]? ≠ some (.ow b ds)) ∧ ∀ b t, ρ[i]? ≠ some (.dp b t)
theorem wipeS_len : ∀ (vs : List Nat), (wipeS ρ vs).length = ρ.length
  | [] => rfl
  | v :: vs => by show ((wipeS ρ vs).set v .no).length = _; rw [List.length_set, wipeS_len vs]
theorem wipeS_get {i : Nat} : ∀ (vs : List Nat), i ∉ vs → (wipeS ρ vs)[i]? = ρ[i]?
  | [], _ => rfl
  | v :: vs, h => by
    show ((wipeS ρ vs).set v .no)[i]? = _
    rw [List.getElem?_set_ne (fun z => h (by rw [z]; exact List.mem_cons_self)), wipeS_get vs fun z => h (List.mem_cons_of_mem _ z)]
theorem wipeS_in {i : Nat} : ∀ (vs : List Nat), i ∈ vs → i < ρ.length → (wipeS ρ vs)[i]? = some .no
  | [], h, _ => by cases h
  | v :: vs, h, l => by
    show ((wipeS ρ vs).set v .no)[i]? = _
    by_cases e : v = i
    · subst e; rw [List.getElem?_set_self (by rw [wipeS_len]; exact l)]
    · rw [List.getElem?_set_ne e]
      rcases List.mem_cons.mp h with h | h
      · exact absurd h.symm e
      · exact wipeS_in vs h l
theorem wipe_get {i : Nat} : ∀ (vs : List Nat), i ∉ vs → (wipe σ vs)[i]? = σ[i]?
  | [], _ => rfl
  | v :: vs, h => by
    show ((wipe σ vs).set v none)[i]? = _
    rw [List.getElem?_set_ne (fun z => h (by rw [z]; exact List.mem_cons_self)), wipe_get vs fun z => h (List.mem_cons_of_mem _ z)]
theorem own_wipe {vs : List Nat} {i : Nat} {a : Addr} (hn : nown ρ vs) : own (wipe σ vs) (wipeS ρ vs) i a ↔ own σ ρ i a := by
  by_cases h : i ∈ vs
  · obtain ⟨l, n, n2⟩ := hn i h
    constructor
    · rintro ⟨s, h1, h2⟩
      rw [wipeS_in vs h l] at h1; cases h1
      exact h2.elim
    · intro o
      rcases o.is with ⟨b, ds, h1, _⟩ | ⟨b, t, h1, _⟩
      · exact absurd h1 (n b ds)
      · exact absurd h1 (n2 b t)
  · unfold own
    rw [wipeS_get vs h, wipe_get vs h]
theorem gv_wipe {vs : List Nat} (hn : nown ρ vs) : ∀ a, Gv F (wipe σ vs) (wipeS ρ vs) a ↔ Gv F σ ρ a := fun a => by
  unfold Gv
  constructor
  · rintro (f | ⟨i, o⟩)
    · exact .inl f
    · exact .inr ⟨i, (own_wipe hn).mp o⟩
  · rintro (f | ⟨i, o⟩)
    · exact .inl f
    · exact .inr ⟨i, (own_wipe hn).mpr o⟩
theorem En.wipe {vs : List Nat} (e : En K cp F A H0 H σ ρ) (hn : nown ρ vs) : En K cp F A H0 H (wipe σ vs) (wipeS ρ vs) := by
  have nin : ∀ {i b ds}, (wipeS ρ vs)[i]? = some (.ow b ds) → i ∉ vs := fun {i b ds} h z => by rw [wipeS_in vs z (hn i z).1] at h; cases h
  have ninT : ∀ {i b t}, (wipeS ρ vs)[i]? = some (.dp b t) → i ∉ vs := fun {i b t} h z => by rw [wipeS_in vs z (hn i z).1] at h; cases h
  refine ⟨by rw [wipe_length, wipeS_len]; exact e.len, e.tr, e.fr, e.tb, fun y hy => ?_, fun j k a h1 h2 => e.dj j k a ((own_wipe hn).mp h1) ((own_wipe hn).mp h2), fun j b ds a h1 h2 => ?_, fun j b t a h1 h2 => ?_, fun j s' h => ?_⟩
  · obtain ⟨f, q⟩ := e.io y hy
    refine ⟨f, ?_⟩
    rcases q with ⟨hk, ds, h1, h2⟩ | ⟨hk, t, h1, h2⟩
    · have ne : y.1 ∉ vs := fun z => (hn _ z).2.1 true ds h1
      exact .inl ⟨hk, ds, by rw [wipeS_get vs ne]; exact h1, by rw [wipe_get vs ne]; exact h2⟩
    · have ne : y.1 ∉ vs := fun z => (hn _ z).2.2 true t h1
      exact .inr ⟨hk, t, by rw [wipeS_get vs ne]; exact h1, by rw [wipe_get vs ne]; exact h2⟩
  · have z := nin h1
    rw [wipeS_get vs z] at h1
    rw [wipe_get vs z] at h2
    exact e.ow j b ds a h1 h2
  · have z := ninT h1
    rw [wipeS_get vs z] at h1
    exact e.dw j b t a h1 h2
  · by_cases z : j ∈ vs
    · rw [wipeS_in vs z (hn j z).1] at h
      cases h; trivial
    · rw [wipeS_get vs z] at h
      rw [wipe_get vs z]
      exact (e.sl j s' h).mv (Mv.sub fun a g => (gv_wipe hn a).mp g) fun _ _ _ h _ => h
/-- back behind a turn: what the outer slots held -/
theorem En.back {vs : List Nat} {σ2 : L2.St} {ρ3 : List SV} (e : En K cp F A H0 H σ ρ) (hn : nown ρ vs) (hw : L2.wipe σ2 vs = L2.wipe σ vs) (e3 : En K cp F A H0 H' σ2 ρ3) (m : Mv (Gv F (L2.wipe σ vs) (wipeS ρ vs)) H (Gv F σ2 ρ3) H')
    (h3 : nown ρ3 vs) (hb : wipeS ρ' vs = wipeS ρ3 vs) (hv : ∀ i ∈ vs, ρ'[i]? = ρ[i]?) (hl : ρ'.length = ρ.length) : En K cp F A H0 H' σ ρ' ∧ Mv (Gv F σ ρ) H (Gv F σ ρ') H' := by
  have hn' : nown ρ' vs := fun i h => ⟨by rw [hl]; exact (hn i h).1, fun b ds => by rw [hv i h]; exact (hn i h).2.1 b ds, fun b t => by rw [hv i h]; exact (hn i h).2.2 b t⟩
  have e4 := e3.wipe h3
  rw [hw, ← hb] at e4
  have gq : ∀ a, Gv F σ ρ' a ↔ Gv F σ2 ρ3 a := fun a => by
    rw [← gv_wipe (σ := σ2) h3 a, hw, ← hb, gv_wipe hn' a]
  have m2 : Mv (Gv F σ ρ) H (Gv F σ ρ') H' := ⟨fun a o n h => by
    have z := m.k a o (fun g => n ((gv_wipe hn a).mp g)) h
    exact ⟨fun g => z.1 ((gq a).mp g), z.2⟩⟩
  refine ⟨⟨by rw [hl]; exact e.len, e4.tr, e4.fr, e4.tb, fun y hy => ?_, fun j k a h1 h2 => e4.dj j k a ((own_wipe hn').mpr h1) ((own_wipe hn').mpr h2), fun j b ds a h1 h2 => ?_, fun j b t a h1 h2 => ?_, fun j s' h => ?_⟩, m2⟩
  · obtain ⟨f, q⟩ := e4.io y hy
    refine ⟨f, ?_⟩
    rcases q with ⟨hk, ds, h1, h2⟩ | ⟨hk, t, h1, h2⟩
    · have ne : y.1 ∉ vs := fun z => by rw [wipeS_in vs z (hn' _ z).1] at h1; cases h1
      exact .inl ⟨hk, ds, by rw [wipeS_get vs ne] at h1; exact h1, by rw [wipe_get vs ne] at h2; exact h2⟩
    · have ne : y.1 ∉ vs := fun z => by rw [wipeS_in vs z (hn' _ z).1] at h1; cases h1
      exact .inr ⟨hk, t, by rw [wipeS_get vs ne] at h1; exact h1, by rw [wipe_get vs ne] at h2; exact h2⟩
  · have z : j ∉ vs := fun z => (hn' j z).2.1 b ds h1
    exact e4.ow j b ds a (by rw [wipeS_get vs z]; exact h1) (by rw [wipe_get vs z]; exact h2)
  · have z : j ∉ vs := fun z => (hn' j z).2.2 b t h1
    exact e4.dw j b t a (by rw [wipeS_get vs z]; exact h1) h2
  · by_cases z : j ∈ vs
    · rw [hv j z] at h
      refine (e.sl j s' h).mv m2 fun a ws q => ?_
      cases s' with
      | no => exact q.elim
      | sh d => exact q.elim
      | ow b ds => exact absurd h ((hn j z).2.1 b ds)
      | dp b t => exact absurd h ((hn j z).2.2 b t)
    · have q := e4.sl j s' (by rw [wipeS_get vs z]; exact h)
      rw [wipe_get vs z] at q
      exact q.mv (Mv.sub fun a g => (gv_wipe hn' a).mpr g) fun _ _ _ h _ => h
/-- what nobody may touch is as it was -/
theorem En.h0 (e : En K cp F A H0 H σ ρ) {p : Addr} {o : HO} (f : F p) (hA : ∀ x ∈ A, p ≠ x.2) (h : H p = some o) (n : H0 p = none) : En K cp F A (upd H0 p o) H σ ρ := by
  refine ⟨e.len, e.tr, fun a u hx q => ?_, e.tb, e.io, e.dj, fun i b ds a h1 h2 => ?_, fun i b t a h1 h2 => ?_, e.sl⟩
  · by_cases z : a = p
    · subst z; rw [upd_same] at q; cases q; exact .of h
    · rw [upd_ne z] at q; exact e.fr a u hx q
  · have q := e.ow i b ds a h1 h2
    split at q
    · rename_i hb; rw [if_pos hb]; exact q
    · rename_i hb
      rw [if_neg hb]
      have z : a ≠ p := fun z => q.1 (by rw [z]; exact f)
      exact ⟨q.1, by rw [upd_ne z]; exact q.2⟩
  · refine (e.dw i b t a h1 h2).imp_right fun q => ?_
    have z : a ≠ p := fun z => q.1 (by rw [z]; exact f)
    exact ⟨q.1, by rw [upd_ne z]; exact q.2⟩
theorem En.h0b {p : Addr} {o : HO} (e : En K cp F A (upd H0 p o) H σ ρ) (f : F p) (n : H0 p = none) : En K cp F A H0 H σ ρ := by
  refine ⟨e.len, e.tr, fun a u hx q => e.fr a u hx (by rw [upd_ne (ne_of_none q n)]; exact q), e.tb, e.io, e.dj, fun i b ds a h1 h2 => ?_, fun i b t a h1 h2 => ?_, e.sl⟩
  · have q := e.ow i b ds a h1 h2
    split at q
    · rename_i hb; rw [if_pos hb]; exact q
    · rename_i hb
      rw [if_neg hb]
      have z : a ≠ p := fun z => q.1 (by rw [z]; exact f)
      exact ⟨q.1, by rw [← q.2, upd_ne z]⟩
  · refine (e.dw i b t a h1 h2).imp_right fun q => ?_
    have z : a ≠ p := fun z => q.1 (by rw [z]; exact f)
    exact ⟨q.1, by rw [← q.2, upd_ne z]⟩
theorem wipe_one {vs : List Nat} {u : Nat} (h : u ∈ vs) : (wipe σ vs).set u none = wipe σ vs := by
  induction vs with
  | nil => cases h
  | cons t ts ih =>
    show ((wipe σ ts).set t none).set u none = (wipe σ ts).set t none
    by_cases z : u = t
    · subst z; rw [List.set_set]
    · rw [List.set_comm _ _ (fun q => z q.symm), ih (by rcases List.mem_cons.mp h with h | h; exact absurd h z; exact h)]
theorem wipe_wipe {vs : List Nat} : ∀ us : List Nat, (∀ i ∈ us, i ∈ vs) → wipe (wipe σ vs) us = wipe σ vs
  | [], _ => rfl
  | u :: us, h => by
    show (wipe (wipe σ vs) us).set u none = _
    rw [wipe_wipe us fun i hi => h i (List.mem_cons_of_mem _ hi), wipe_one (h u List.mem_cons_self)]
/-- what stands behind a turn, by the outer slots: ρ2 ahead, ρ5 within, ρ6 behind -/
def Turned (vs : List Nat) (ρ2 ρ5 ρ6 : List SV) : Prop := nown ρ5 vs ∧ wipeS ρ6 vs = wipeS ρ5 vs ∧ (∀ i ∈ vs, ρ6[i]? = ρ2[i]?) ∧ ρ6.length = ρ2.length
/-- the list of a comprehension takes one more -/
theorem en_put {D : Addr} {ws : List V} (e : En K cp (plus F D) A H0 H σ ρ) (nF : ¬ F D) (hA : ∀ x ∈ A, F x.2) (h0 : H0 D = none) (hD : H D = some (.lst ws)) (o : HO) (ho : OwK o := by exact trivial) : En K cp (plus F D) A H0 (upd H D o) σ ρ ∧ Mv (Gv (plus F D) σ ρ) H (Gv (plus F D) σ ρ) (upd H D o) := by
  have m : Mv (Gv (plus F D) σ ρ) H (Gv (plus F D) σ ρ) (upd H D o) := ⟨fun a u n h => ⟨n, .of (by rw [upd_ne (fun z => n (.inl (.inr z)))]; exact h)⟩⟩
  refine ⟨⟨e.len, fun a f => ?_, fun a u hx q => ?_, tabs_upd e.tb hD trivial, e.io, e.dj, e.ow, e.dw, fun i s h => (e.sl i s h).mv m fun a vs q2 q3 _ => ?_⟩, m⟩
  · by_cases z : a = D
    · subst z; exact ⟨_, upd_same, ho⟩
    · rw [upd_ne z]; exact e.tr a f
  · exact (e.fr a u hx q).tr fun v hv => .of (by rw [upd_ne (ne_of_none q h0)]; exact hv)
  · rw [upd_ne ?_]
    · exact q3
    · rintro rfl
      rcases e.mine ⟨s, h, q2⟩ with q | q
      · exact nF (hA _ q)
      · exact q.1 (.inr rfl)
/-- [te for g in wi if tt]: I by the turn, what is made, the slots -/
theorem DE.lc {wi : TI} {g : TG} {tt : TT} {te : TE} {vs : List Nat} {Φ : AV → List SV → Prop} (h : DI K cp X wi ρ fun xs ρ1 => ∃ (ts : List Nat) (I : Nat → List D → List SV → Prop), (∀ i ∈ ts, i ∈ vs) ∧ I 0 [] ρ1 ∧ xs.length ≤ 900000 ∧
    (∀ i d acc ρ2, xs[i]? = some d → I i acc ρ2 → nown ρ2 vs ∧ DG K cp g ts d (wipeS ρ2 vs) fun ρ3 => DT K cp XC.q tt ρ3 fun b ρ4 => if b = true then DEs K cp XC.q te ρ4 (fun y ρ5 => ∃ ρ6, Turned vs ρ2 ρ5 ρ6 ∧ I (i + 1) (acc ++ [y]) ρ6)
        else ∃ ρ6, Turned vs ρ2 ρ4 ρ6 ∧ I (i + 1) acc ρ6) ∧ ∀ acc ρ2, I xs.length acc ρ2 → Φ (.n (.lst acc)) ρ2) : DE K cp X (tLc wi g tt te vs) ρ Φ := fun F A H0 H σ e hx Q k =>
  h F A H0 H σ e hx _ fun J xs ρ1 H1 e1 m1 wk ⟨ts, I, hts, i0, hlen, hs, hd⟩ => by
    intro D hD
    have h0D := e1.none0 hD
    have nF : ¬ F D := fun f => e1.notF hD (.inl f)
    have hA : ∀ x ∈ A, F x.2 := fun x hx => (e1.io x hx).1
    have hAD : ∀ x ∈ A, D ≠ x.2 := fun x hx z => nF (z ▸ hA x hx)
    refine lc_it wk (fun i H' => ∃ acc ρ', acc.length ≤ i ∧ (∃ ws, H' D = some (.lst ws) ∧ DvA K cp (Gv (plus F D) σ ρ') H' ws acc) ∧ En K cp (plus F D) A H0 H' σ ρ' ∧ Mv (Gv F σ ρ1) H1 (Gv (plus F D) σ ρ') H' ∧ I i acc ρ')
      ⟨[], ρ1, Nat.le_refl _, ⟨[], upd_same, .nil⟩, e1.plus hD (Ex.nw hD) upd_same, (Mv.nw hD).tr ((Mv.ex (Ex.nw hD)).tr (Mv.sub gv_plus)), i0⟩ (fun i H' _ ⟨acc, ρ', _, _, _, m', _⟩ => ⟨_, m'⟩) ?_ ?_
    · rintro i x H2 H3 hi ⟨acc, ρ2, hal, ⟨ws, hw, dw⟩, e2, m2, q2⟩ ⟨ex, y⟩
      obtain ⟨d, hxi, dv⟩ := y _ m2 e2.trk
      obtain ⟨hn, q3⟩ := hs i d acc ρ2 hxi q2
      have e3 := e2.ex ex
      have hw3 := ex _ _ hw
      have ew := (e3.h0 (.inr rfl) hAD hw3 h0D).wipe hn
      have sb : Mv (Gv (plus F D) σ ρ2) H3 (Gv (plus F D) (wipe σ vs) (wipeS ρ2 vs)) H3 := Mv.sub fun a g => (gv_wipe hn a).mp g
      refine q3 (plus F D) A _ H3 (wipe σ vs) ew x (Dv.mv sb _ _ dv) _ fun σ4 ρ4 e4 g4 w4 q4 => ?_
      have wq : wipe σ4 vs = wipe σ vs := by rw [w4 vs hts]; exact wipe_wipe vs fun i h => h
      refine ⟨wq, ?_⟩
      have m4 : Mv (Gv (plus F D) (wipe σ vs) (wipeS ρ2 vs)) H3 (Gv (plus F D) σ4 ρ4) H3 := Mv.sub g4
      have fin : ∀ {ρ5 ρ6 : List SV} {H5 : Hp}, En K cp (plus F D) A (upd H0 D (.lst ws)) H5 σ4 ρ5 → Mv (Gv (plus F D) σ4 ρ4) H3 (Gv (plus F D) σ4 ρ5) H5 → Turned vs ρ2 ρ5 ρ6 →
          H5 D = some (.lst ws) ∧ En K cp (plus F D) A H0 H5 σ ρ6 ∧ Mv (Gv F σ ρ1) H1 (Gv (plus F D) σ ρ6) H5 ∧ DvA K cp (Gv (plus F D) σ ρ6) H5 ws acc := fun {ρ5 ρ6 H5} e5 m5 tn => by
        obtain ⟨t1, t2, t3, t4⟩ := tn
        obtain ⟨e7, m7⟩ := e3.back hn wq (e5.h0b (.inr rfl) h0D) (m4.tr m5) t1 t2 t3 t4
        exact ⟨e5.fr D _ hAD upd_same, e7, m2.tr ((Mv.ex ex).tr m7), DvA.mv ((Mv.ex ex).tr m7) _ _ dw⟩
      refine (show DT K cp XC.q tt ρ4 _ from q4) (plus F D) A _ H3 σ4 e4 xq _ fun b ρ5 H5 e5 m5 q5 => ?_
      cases b with
      | true =>
        refine iteT (DEs.go (show DEs K cp XC.q te ρ5 _ from q5) e5 xq fun z y ρ6 H6 e6 m6 dy q6 => ?_)
        obtain ⟨ρ7, tn, q7⟩ := q6
        obtain ⟨f1, f2, f3, f4⟩ := fin e6 (m5.tr m6) tn
        have l1 : ws.length = acc.length := f4.len
        obtain ⟨p1, p2⟩ := en_put f2 nF hA h0D f1 (.lst (ws ++ [z]))
        have dz : Dv K cp (Gv (plus F D) σ ρ7) H6 z y := by
          refine Dv.mv (Mv.sub fun a g => ?_) _ _ dy
          obtain ⟨t1, t2, t3, t4⟩ := tn
          have hn7 : nown ρ7 vs := fun i h => ⟨by rw [t4]; exact (hn i h).1, fun b ds => by rw [t3 i h]; exact (hn i h).2.1 b ds, fun b t => by rw [t3 i h]; exact (hn i h).2.2 b t⟩
          rw [← gv_wipe (σ := σ4) t1 a, wq, ← t2, gv_wipe hn7 a]
          exact g
        exact ⟨ws, f1, sz_ok (by omega), acc ++ [y], ρ7, by simp; omega, ⟨_, upd_same, DvA.mv p2 _ _ (f4.app (.cons dz .nil))⟩, p1, f3.tr p2, q7⟩
      | false =>
        obtain ⟨ρ7, tn, q7⟩ := q5
        obtain ⟨f1, f2, f3, f4⟩ := fin e5 m5 tn
        exact iteF ⟨acc, ρ7, by omega, ⟨ws, f1, f4⟩, f2, f3, q7⟩
    · rintro H2 ⟨acc, ρ2, hal, ⟨ws, hw, dw⟩, e2, m2, q2⟩
      exact k _ (.n (.lst acc)) ρ2 H2 ⟨D, rfl, nF, h0D, e2, hA, m1.tr m2, _, hw, .lst dw⟩ (hd acc ρ2 q2)
end
end DD

end
section
set_option Elab.async false
set_option linter.all false
set_option maxRecDepth 100000
set_option maxHeartbeats 1000000
/-! Calls by contract; owners changed. -/
namespace DD
open PySem PySem.Spec PyProof.Rows L2 GL
section
variable {K : PySem.W.Frag} {cp : Cb} {X : XC} {F : Addr → Prop} {A : Pass} {H0 H H' H1 H2 : Hp} {σ σ' : L2.St} {ρ ρ' ρ1 ρ2 : List SV} {G : Addr → Prop} {v w : V}
variable {N : List SV → Prop} {R : AV → List SV → Prop} {B C : List SV → Prop}
/-- the same shape: the owners' contents alone differ -/
structure Alike (ρ ρ' : List SV) : Prop where
  len : ρ'.length = ρ.length
  at_ : ∀ (i : Nat) (s : SV), ρ'[i]? = some s → ρ[i]? = some s ∨ ∃ b ds ds', ρ[i]? = some (.ow b ds) ∧ s = .ow b ds'
  io : ∀ (i : Nat) (b : Bool) (ds : D), ρ[i]? = some (.ow b ds) → ∃ ds', ρ'[i]? = some (.ow b ds')
  dp : ∀ (i : Nat) (b : Bool) (t : Tr), ρ[i]? = some (.dp b t) → ρ'[i]? = some (.dp b t)
theorem Alike.rfl' : Alike ρ ρ := ⟨rfl, fun i s h => .inl h, fun i b ds h => ⟨ds, h⟩, fun _ _ _ h => h⟩
theorem Alike.own (a : Alike ρ ρ') {i : Nat} {x : Addr} : own σ ρ' i x ↔ own σ ρ i x := by
  constructor
  · intro o
    rcases o.is with ⟨b, ds, h1, h2⟩ | ⟨b, t, h1, h2⟩
    · rcases a.at_ i _ h1 with h | ⟨b', d1, d2, h, _⟩
      · exact .w h h2
      · exact .w h h2
    · rcases a.at_ i _ h1 with h | ⟨b', d1, d2, _, h⟩
      · exact .t h h2
      · cases h
  · intro o
    rcases o.is with ⟨b, ds, h1, h2⟩ | ⟨b, t, h1, h2⟩
    · obtain ⟨ds', h⟩ := a.io i b ds h1
      exact .w h h2
    · exact .t (a.dp i b t h1) h2
theorem Alike.gv (a : Alike ρ ρ') : ∀ x, Gv F σ ρ' x ↔ Gv F σ ρ x := fun x => by
  unfold Gv
  constructor
  · rintro (f | ⟨i, o⟩)
    · exact .inl f
    · exact .inr ⟨i, a.own.mp o⟩
  · rintro (f | ⟨i, o⟩)
    · exact .inl f
    · exact .inr ⟨i, a.own.mpr o⟩
def SV.kin : SV → SV → Prop
  | .ow _ _, .ow _ _ => True
  | .dp _ _, .dp _ _ => True
  | _, _ => False
/-- the slot's own mark, the other's content -/
def SV.take : SV → SV → SV
  | .ow b _, .ow _ c => .ow b c
  | .dp b _, .dp _ t => .dp b t
  | s, _ => s
/-- owners changed, trees grown and cut -/
theorem en_updG (e : En K cp F A H0 H σ ρ) (hl : ρ'.length = ρ.length) (hs : ∀ (i : Nat) (s' : SV), ρ'[i]? = some s' → ∃ s, ρ[i]? = some s ∧ (s' = s ∨ ∃ s2, s.kin s2 ∧ s' = s.take s2))
    (hf : ∀ i x, own σ ρ' i x → own σ ρ i x ∨ H x = none) (hj : ∀ i j x, own σ ρ' i x → own σ ρ' j x → H x = none → i = j)
    (hm : ∀ x o, (∀ i, ¬ own σ ρ i x) → H x = some o → Sm o H' x) (tb : LamX.Tabs cp.T H') (hk : ∀ x, F x → ∃ o, H' x = some o ∧ OwK o)
    (hsl : ∀ (i : Nat) (s' : SV), ρ'[i]? = some s' → s'.isOw → SOk K cp (Gv F σ ρ') H' σ[i]? s') : En K cp F A H0 H' σ ρ' ∧ Mv (Gv F σ ρ) H (Gv F σ ρ') H' := by
  have m : Mv (Gv F σ ρ) H (Gv F σ ρ') H' := ⟨fun x o n h => ⟨fun g => by
    rcases g with f | ⟨i, z⟩
    · exact n (.inl f)
    · rcases hf i x z with q | q
      · exact n (.inr ⟨i, q⟩)
      · (rw [h] at q; cases q), hm x o (fun i z => n (.inr ⟨i, z⟩)) h⟩⟩
  refine ⟨⟨by rw [hl]; exact e.len, hk, fun x o hx q => ?_, tb, fun y hy => ?_, fun j k x h1 h2 => ?_, fun j b ds x h1 h2 => ?_, fun j b t x h1 h2 => ?_, fun j s h => ?_⟩, m⟩
  · refine (e.fr x o hx q).tr fun u hu => hm x u (fun i z => ?_) hu
    rcases e.mine z with w | w
    · exact hx _ w rfl
    · rw [w.2] at q; cases q
  · obtain ⟨f, q⟩ := e.io y hy
    refine ⟨f, ?_⟩
    have hlt : ∀ {s : SV}, ρ[y.1]? = some s → ∃ s', ρ'[y.1]? = some s' := fun {s} h => ⟨_, List.getElem?_eq_getElem (by rw [hl]; exact (List.getElem?_eq_some_iff.mp h).1)⟩
    rcases q with ⟨hk, ds, h1, h2⟩ | ⟨hk, t, h1, h2⟩
    · obtain ⟨s', h3⟩ := hlt h1
      obtain ⟨s, h4, h5⟩ := hs _ _ h3
      rw [h1] at h4; cases h4
      rcases h5 with rfl | ⟨s2, hk2, rfl⟩
      · exact .inl ⟨hk, ds, h3, h2⟩
      · cases s2 with
        | ow c es => exact .inl ⟨hk, es, h3, h2⟩
        | _ => exact hk2.elim
    · obtain ⟨s', h3⟩ := hlt h1
      obtain ⟨s, h4, h5⟩ := hs _ _ h3
      rw [h1] at h4; cases h4
      rcases h5 with rfl | ⟨s2, hk2, rfl⟩
      · exact .inr ⟨hk, t, h3, h2⟩
      · cases s2 with
        | dp c u => exact .inr ⟨hk, u, h3, h2⟩
        | _ => exact hk2.elim
  · rcases hf j x h1 with q1 | q1
    · rcases hf k x h2 with q2 | q2
      · exact e.dj j k x q1 q2
      · exact hj j k x h1 h2 q2
    · exact hj j k x h1 h2 q1
  · obtain ⟨s, h4, h5⟩ := hs _ _ h1
    rcases h5 with rfl | ⟨s2, hk2, h5⟩
    · exact e.ow j b ds x h4 h2
    · cases s with
      | ow c es =>
        cases s2 with
        | ow c2 es2 => cases h5; exact e.ow j b es x h4 h2
        | _ => exact hk2.elim
      | dp c u =>
        cases s2 with
        | dp c2 u2 => cases h5
        | _ => exact hk2.elim
      | no => exact hk2.elim
      | sh d => exact hk2.elim
  · obtain ⟨s, h4, h5⟩ := hs _ _ h1
    have o : own σ ρ' j x := .t h1 h2
    rcases hf j x o with q | q
    · rcases e.mine q with w | w
      · refine .inl ⟨?_, w⟩
        rcases h5 with rfl | ⟨s2, hk2, h5⟩
        · rcases e.dw j b t x h4 h2 with z | z
          · exact z.1
          · exact absurd (e.io _ w).1 z.1
        · cases s with
          | dp c u =>
            cases s2 with
            | dp c2 u2 =>
              cases h5
              obtain ⟨s, p1, p2⟩ := q
              rw [h4] at p1; cases p1
              rcases e.dw j b u x h4 p2 with z | z
              · exact z.1
              · exact absurd (e.io _ w).1 z.1
            | _ => exact hk2.elim
          | ow c es =>
            cases s2 with
            | ow c2 es2 => cases h5
            | _ => exact hk2.elim
          | no => exact hk2.elim
          | sh d => exact hk2.elim
      · exact .inr w
    · exact .inr ⟨fun f => (by obtain ⟨u, hu, _⟩ := e.tr _ f; rw [q] at hu; cases hu), e.none0 q⟩
  · by_cases z : s.isOw
    · exact hsl j s h z
    · obtain ⟨s0, h4, h5⟩ := hs _ _ h
      have e0 : s = s0 := by
        rcases h5 with rfl | ⟨s2, hk2, h5⟩
        · rfl
        · cases s0 with
          | ow c es =>
            cases s2 with
            | ow c2 es2 => cases h5; exact (z trivial).elim
            | _ => exact hk2.elim
          | dp c u =>
            cases s2 with
            | dp c2 u2 => cases h5; exact (z trivial).elim
            | _ => exact hk2.elim
          | no => exact hk2.elim
          | sh d => exact hk2.elim
      subst e0
      refine (e.sl j s h4).mv m fun a u q => ?_
      cases s with
      | no => exact q.elim
      | sh d => exact q.elim
      | ow b c => exact (z trivial).elim
      | dp b t => exact (z trivial).elim
theorem en_upd (e : En K cp F A H0 H σ ρ) (a : Alike ρ ρ') (hm : ∀ x o, (∀ i, ¬ own σ ρ i x) → H x = some o → Sm o H' x) (tb : LamX.Tabs cp.T H')
    (ho : ∀ (i : Nat) (b : Bool) (ds : D) (x : Addr), ρ'[i]? = some (.ow b ds) → σ[i]? = some (some (.ref x)) → OwOk K cp (Gv F σ ρ) H' x ds)
    (ht : ∀ (i : Nat) (b : Bool) (t : Tr), ρ[i]? = some (.dp b t) → ∀ x ∈ t.foot, ∀ u, H x = some u → OwK u → H' x = some u) : En K cp F A H0 H' σ ρ' ∧ Mv (Gv F σ ρ) H (Gv F σ ρ') H' := by
  have m : Mv (Gv F σ ρ) H (Gv F σ ρ') H' := ⟨fun x o n h => ⟨fun g => n ((a.gv x).mp g), hm x o (fun i z => n (.inr ⟨i, z⟩)) h⟩⟩
  have at_own : ∀ i x, own σ ρ i x → ∃ o, H' x = some o ∧ OwK o := fun i x z => by
    rcases z.is with ⟨b, ds, h1, h2⟩ | ⟨b, t, h1, h2⟩
    · obtain ⟨ds', h⟩ := a.io i b ds h1
      obtain ⟨u, h, h5⟩ := ho i b ds' x h h2
      exact ⟨_, h, h5.kd⟩
    · obtain ⟨v, _, _, h4⟩ := e.sl i _ h1
      obtain ⟨u, hu, k⟩ := h4.there h2
      exact ⟨_, ht i b t h1 x h2 u hu k, k⟩
  refine en_updG e a.len (fun i s' h => ?_) (fun i x o => .inl (a.own.mp o)) (fun i j x o1 o2 _ => e.dj i j x (a.own.mp o1) (a.own.mp o2)) hm tb (fun x f => ?_) fun j s h hs => ?_
  · rcases a.at_ i s' h with q | ⟨b, d1, d2, q, rfl⟩
    · exact ⟨s', q, .inl rfl⟩
    · exact ⟨_, q, .inr ⟨.ow b d2, trivial, rfl⟩⟩
  · by_cases z : ∃ i, own σ ρ i x
    · exact z.elim fun i o => at_own i x o
    · obtain ⟨o, h, hk⟩ := e.tr x f
      exact (hm x o (fun i q => z ⟨i, q⟩) h).isK hk
  · cases s with
    | no => exact hs.elim
    | sh d => exact hs.elim
    | ow b ds =>
      have q : ∃ x, σ[j]? = some (some (.ref x)) := by
        rcases a.at_ j _ h with h' | ⟨b', d1, d2, h', q⟩
        · obtain ⟨x, h1, _⟩ := e.sl j _ h'; exact ⟨x, h1⟩
        · obtain ⟨x, h1, _⟩ := e.sl j _ h'; exact ⟨x, h1⟩
      obtain ⟨x, hx⟩ := q
      obtain ⟨u, h1, h2⟩ := ho j b ds x h hx
      exact ⟨x, hx, u, h1, h2.mv (Mv.sub fun y g => (a.gv y).mp g)⟩
    | dp b t =>
      have h' : ρ[j]? = some (.dp b t) := by
        rcases a.at_ j _ h with h' | ⟨b', d1, d2, h', q⟩
        · exact h'
        · cases q
      exact (e.sl j _ h').mv m fun x u hx hu k => ht j b t h' x hx u hu k
/-- one owner takes another content -/
theorem en_upd1 (e : En K cp F A H0 H σ ρ) {i : Nat} {b : Bool} {ds ds' : D} {x : Addr} {o' : HO} (hi : ρ[i]? = some (.ow b ds)) (hx : σ[i]? = some (some (.ref x))) (dv : OwV K cp (Gv F σ ρ) H o' ds') :
    En K cp F A H0 (upd H x o') σ (ρ.set i (.ow b ds')) ∧ Mv (Gv F σ ρ) H (Gv F σ (ρ.set i (.ow b ds'))) (upd H x o') := by
  have hl : i < ρ.length := (List.getElem?_eq_some_iff.mp hi).1
  have ox : own σ ρ i x := .w hi hx
  have m : Mv (Gv F σ ρ) H (Gv F σ ρ) (upd H x o') := ⟨fun y o n h => ⟨n, .of (by rw [upd_ne (fun z => n (.inr ⟨i, by rw [z]; exact ox⟩))]; exact h)⟩⟩
  have tb : LamX.Tabs cp.T (upd H x o') := by
    obtain ⟨a', q1, u, q2, q3⟩ := e.sl i _ hi
    rw [hx] at q1; cases q1
    exact tabs_upd e.tb q2 q3.kd
  refine en_upd e ⟨by rw [List.length_set], fun j s h => ?_, fun j c es h => ?_, fun j c t h => ?_⟩ (fun y o n h => .of (by rw [upd_ne (fun z => n i (by rw [z]; exact ox))]; exact h)) tb (fun j c es y h1 h2 => ?_) fun j c t h y hy u hu _ => ?_
  · by_cases z : i = j
    · subst z
      rw [List.getElem?_set_self hl] at h
      cases h
      exact .inr ⟨b, ds, ds', hi, rfl⟩
    · rw [List.getElem?_set_ne z] at h; exact .inl h
  · by_cases z : i = j
    · subst z
      rw [hi] at h; cases h
      exact ⟨ds', List.getElem?_set_self hl⟩
    · exact ⟨es, by rw [List.getElem?_set_ne z]; exact h⟩
  · by_cases z : i = j
    · subst z
      rw [hi] at h; cases h
    · rw [List.getElem?_set_ne z]; exact h
  · by_cases z : i = j
    · subst z
      rw [List.getElem?_set_self hl] at h1
      cases h1
      rw [hx] at h2; cases h2
      exact ⟨o', upd_same, dv.mv m⟩
    · rw [List.getElem?_set_ne z] at h1
      obtain ⟨a, q1, u, q2, q3⟩ := e.sl j _ h1
      rw [h2] at q1; cases q1
      have ne : y ≠ x := fun q => z (e.dj i j x ox (.w h1 (by rw [← q]; exact h2)))
      exact ⟨u, by rw [upd_ne ne]; exact q2, q3.mv m⟩
  · have ne : y ≠ x := fun q => by
      have z := e.dj i j x ox (.t h (by rw [← q]; exact hy))
      subst z
      rw [hi] at h; cases h
    rw [upd_ne ne]; exact hu
/-! ### what is owned is handed on -/
theorem en_no (e : En K cp F A H0 H σ ρ) {i : Nat} {ds : D} (hi : ρ[i]? = some (.ow false ds)) {x : Addr} {u : HO} (hx : σ[i]? = some (some (.ref x))) (hH : H x = some u) (hk : OwK u := by exact trivial) :
    En K cp (plus F x) A H0 H σ (ρ.set i .no) ∧ ¬ F x ∧ H0 x = none ∧ ∀ a, Gv (plus F x) σ (ρ.set i .no) a ↔ Gv F σ ρ a := by
  have hl : i < ρ.length := (List.getElem?_eq_some_iff.mp hi).1
  have q := e.ow i _ ds x hi hx
  rw [if_neg (by decide)] at q
  have ons : ∀ j a, own σ (ρ.set i .no) j a ↔ own σ ρ j a ∧ j ≠ i := fun j a => by
    unfold own
    by_cases z : i = j
    · subst z
      rw [List.getElem?_set_self hl]
      constructor
      · rintro ⟨s, h, h2⟩; cases h; exact h2.elim
      · rintro ⟨_, h⟩; exact absurd rfl h
    · rw [List.getElem?_set_ne z]
      exact ⟨fun h => ⟨h, fun q => z q.symm⟩, fun h => h.1⟩
  have gq : ∀ a, Gv (plus F x) σ (ρ.set i .no) a ↔ Gv F σ ρ a := fun a => by
    constructor
    · rintro ((f | rfl) | ⟨j, o⟩)
      · exact .inl f
      · exact .inr ⟨i, .w hi hx⟩
      · exact .inr ⟨j, ((ons j a).mp o).1⟩
    · rintro (f | ⟨j, o⟩)
      · exact .inl (.inl f)
      · by_cases z : j = i
        · subst z
          obtain ⟨s, h1, h2⟩ := o
          rw [hi] at h1; cases h1
          have h2 : σ[j]? = some (some (.ref a)) := h2
          rw [hx] at h2; cases h2
          exact .inl (.inr rfl)
        · exact .inr ⟨j, (ons j a).mpr ⟨o, z⟩⟩
  refine ⟨⟨by rw [List.length_set]; exact e.len, fun a f => f.elim (e.tr a) fun z => by subst z; exact ⟨_, hH, hk⟩, e.fr, e.tb, fun y hy => ?_, fun j k a h1 h2 => e.dj j k a ((ons j a).mp h1).1 ((ons k a).mp h2).1, fun j b es a h1 h2 => ?_, fun j b t a h1 h2 => ?_, fun j s h => ?_⟩, q.1, q.2, gq⟩
  · obtain ⟨f, q⟩ := e.io y hy
    refine ⟨.inl f, ?_⟩
    rcases q with ⟨hk, es, h1, h2⟩ | ⟨hk, t, h1, h2⟩
    · have ne : i ≠ y.1 := by rintro rfl; rw [hi] at h1; cases h1
      exact .inl ⟨hk, es, by rw [List.getElem?_set_ne ne]; exact h1, h2⟩
    · have ne : i ≠ y.1 := by rintro rfl; rw [hi] at h1; cases h1
      exact .inr ⟨hk, t, by rw [List.getElem?_set_ne ne]; exact h1, h2⟩
  · have o := (ons j a).mp (.w h1 h2)
    rw [List.getElem?_set_ne o.2.symm] at h1
    have z := e.ow j b es a h1 h2
    split at z
    · rename_i hb; rw [if_pos hb]; exact z
    · rename_i hb
      rw [if_neg hb]
      exact ⟨fun f => f.elim z.1 fun r => o.2 (e.dj j i a o.1 (.w hi (by rw [r]; exact hx))), z.2⟩
  · have o := (ons j a).mp (.t h1 h2)
    rw [List.getElem?_set_ne o.2.symm] at h1
    exact (e.dw j b t a h1 h2).imp_right fun z => ⟨fun f => f.elim z.1 fun r => o.2 (e.dj j i a o.1 (.w hi (by rw [r]; exact hx))), z.2⟩
  · by_cases z : i = j
    · subst z
      rw [List.getElem?_set_self hl] at h
      cases h; trivial
    · rw [List.getElem?_set_ne z] at h
      exact (e.sl j s h).mv (Mv.sub fun a g => (gq a).mp g) fun _ _ _ h _ => h
/-- a name's own list is handed on, the name is empty behind it -/
theorem DE.move {i : Nat} {ds : D} {Φ : AV → List SV → Prop} (h : ρ[i]? = some (.ow false ds)) (q : Φ (.n ds) (ρ.set i .no)) : DE K cp X (tVar i) ρ Φ := fun F A H0 H σ e hx Q k => by
  obtain ⟨a, h1, u, h2, h3⟩ := e.sl i _ h
  obtain ⟨e2, nf, h0, gq⟩ := en_no e h h1 h2 h3.kd
  have m : Mv (Gv F σ ρ) H (Gv (plus F a) σ (ρ.set i .no)) H := Mv.sub fun x g => (gq x).mp g
  exact ⟨_, h1, k _ (.n ds) _ H ⟨a, rfl, nf, h0, e2, fun x hx => (e.io x hx).1, m, u, h2, h3.mv m⟩ q⟩
/-- a name's own list is known to all from now on -/
theorem DE.frz {i : Nat} {ds : D} {Φ : AV → List SV → Prop} (h : ρ[i]? = some (.ow false ds)) (q : Φ (.d ds) (ρ.set i (.sh ds))) : DE K cp X (tVar i) ρ Φ := fun F A H0 H σ e hx Q k => by
  obtain ⟨a, h1, u, h2, h3⟩ := e.sl i _ h
  obtain ⟨e2, nf, h0, gq⟩ := en_no e h h1 h2 h3.kd
  have hl : i < ρ.length := (List.getElem?_eq_some_iff.mp h).1
  have e3 := e2.minus fun x hx => (e.io x hx).1
  have nG : ¬ Gv F σ (ρ.set i .no) a := by
    rintro (f | ⟨j, s, q1, q2⟩)
    · exact nf f
    · by_cases z : i = j
      · subst z; rw [List.getElem?_set_self hl] at q1; cases q1; exact q2.elim
      · rw [List.getElem?_set_ne z] at q1
        exact z (e.dj i j a (.w h h1) ⟨s, q1, q2⟩)
  have m : Mv (Gv F σ ρ) H (Gv F σ (ρ.set i .no)) H := Mv.sub fun x g => (gq x).mp (gv_sub a x g)
  have dv : Dv K cp (Gv F σ (ρ.set i .no)) H (.ref a) ds := OwOk.sh ⟨u, h2, h3.mv m⟩ nG
  have e4 := e3.set (i := i) (x := some (.ref a)) (s := .sh ds) ⟨by rw [List.length_set]; exact hl, fun es z => (by rw [List.getElem?_set_self hl] at z; cases z), fun es z => (by rw [List.getElem?_set_self hl] at z; cases z)⟩ (.inl ⟨_, _, rfl, rfl, dv⟩)
  rw [List.set_set] at e4
  have hs : σ.set i (some (.ref a)) = σ := by
    apply List.ext_getElem?
    intro j
    by_cases z : i = j
    · subst z; rw [List.getElem?_set_self (by rw [e.len]; exact hl), h1]
    · rw [List.getElem?_set_ne z]
  rw [hs] at e4
  have g4 : ∀ x, Gv F σ (ρ.set i (.sh ds)) x → Gv F σ (ρ.set i .no) x := fun x g => by
    have z := gv_set (F := F) (σ := σ) (ρ := ρ.set i .no) (i := i) (x := some (.ref a)) (s := .sh ds) (nt := by rintro b es q; cases q) (by rintro b es q; cases q) x
    rw [List.set_set, hs] at z
    exact z g
  exact ⟨_, h1, k _ (.d ds) _ H ⟨e4, m.tr (Mv.sub g4), Dv.mv (Mv.sub g4) _ _ dv⟩ q⟩

/-! ### calls -/
abbrev Ct := List SV → (AV → List SV → Prop) → Prop
/-- what is passed -/
def PR (K : PySem.W.Frag) (cp : Cb) (F : Addr → Prop) (H : Hp) (v : V) (s : SV) : Prop := match s with
  | .sh d => Dv K cp F H v d
  | .ow b c => b = true ∧ ∃ a, v = .ref a ∧ F a ∧ OwOk K cp F H a c
  | .dp b t => b = true ∧ t.ok ∧ (∀ a ∈ t.foot, F a) ∧ TrV K cp F H v t
  | .no => False
/-- what is handed back: F' the owners' places behind the call -/
def Hb (K : PySem.W.Frag) (cp : Cb) (H : Hp) (v : V) (H' : Hp) (F' : Addr → Prop) (ρ' : List SV) : AV → Prop
  | .d d => Dv K cp F' H' v d
  | .n c => ∃ p, v = .ref p ∧ H p = none ∧ F' p ∧ (∀ (i : Nat) (b : Bool) (t : Tr), ρ'[i]? = some (.dp b t) → p ∉ t.foot) ∧ OwOk K cp F' H' p c
  | .o _ => False
  | .t t => TrV K cp F' H' v t ∧ t.ok ∧ ∀ a ∈ t.foot, H a = none ∧ F' a ∧ ∀ (i : Nat) (b : Bool) (u : Tr), ρ'[i]? = some (.dp b u) → a ∉ u.foot
/-- .. with the slots of an own error, if one comes -/
abbrev CtX := List SV → (AV → List SV → Prop) → (Nat → List Str → List D → List SV → Prop) → Prop
/-- what stands behind a call: nothing but what was passed to be changed is changed -/
structure Bk (K : PySem.W.Frag) (cp : Cb) (F : Addr → Prop) (ss : List SV) (vs : List V) (H : Hp) (F' : Addr → Prop) (H' : Hp) (ρ' : List SV) : Prop where
  hm : ∀ (a : Addr) (o : HO), (∀ (i : Nat) (s : SV) (v : V), ss[i]? = some s → vs[i]? = some v → ¬ s.has (some (some v)) a) → H a = some o → Sm o H' a
  ho : ∀ (i : Nat) (b : Bool) (ds : D) (a : Addr), ss[i]? = some (.ow b ds) → vs[i]? = some (.ref a) → ∃ es : D, ρ'[i]? = some (.ow true es) ∧ OwOk K cp F' H' a es
  hd : ∀ (i : Nat) (b : Bool) (t : Tr) (v : V), ss[i]? = some (.dp b t) → vs[i]? = some v → ∃ u : Tr, ρ'[i]? = some (.dp true u) ∧ u.ok ∧ (∀ a ∈ u.foot, a ∈ t.foot ∨ H a = none) ∧ TrV K cp F' H' v u
  hj : ∀ (i j : Nat) (b c : Bool) (t u : Tr) (a : Addr), ρ'[i]? = some (.dp b t) → ρ'[j]? = some (.dp c u) → a ∈ t.foot → a ∈ u.foot → i = j
  hF : ∀ a, F a → F' a ∧ ∃ o, H' a = some o ∧ OwK o
  hT : ∀ (i : Nat) (b : Bool) (t : Tr) (a : Addr), ρ'[i]? = some (.dp b t) → a ∈ t.foot → F' a
  tb : LamX.Tabs cp.T H'
def spX (K : PySem.W.Frag) (cp : Cb) (n : Nat) (C : CtX) : Sp := fun vs H Q E => ∃ (F : Addr → Prop) (ss : List SV) (Φ : AV → List SV → Prop) (Ψ : Nat → List Str → List D → List SV → Prop), vs.length = n ∧ Paired (PR K cp F H) vs ss ∧ Trk F H ∧
  (∀ (i j : Nat) (a : Addr) (s t : SV) (v w : V), ss[i]? = some s → ss[j]? = some t → vs[i]? = some v → vs[j]? = some w → s.has (some (some v)) a → t.has (some (some w)) a → i = j) ∧ LamX.Tabs cp.T H ∧ C ss Φ Ψ ∧
  (∀ v r ρ' H' F', Φ r ρ' → Hb K cp H v H' F' ρ' r → Bk K cp F ss vs H F' H' ρ' → Q v H') ∧
  ∀ i es fs dd ρ' H' F', Ψ i (fs.map (·.1)) es ρ' → H' dd = some (exd dd fs) → DvA K cp F' H' (fs.map (·.2)) es → Bk K cp F ss vs H F' H' ρ' → E (.ref (cp.x i)) (some dd) H'
def spC (K : PySem.W.Frag) (cp : Cb) (n : Nat) (C : Ct) : Sp := spX K cp n fun ss Φ _ => C ss Φ
def argS (ρ : List SV) : List OP → Option (List SV)
  | [] => some []
  | .d d :: ps => (argS ρ ps).map (.sh d :: ·)
  | .o i :: ps => match ρ[i]?, argS ρ ps with
    | some (.ow _ ds), some ss => some (.ow true ds :: ss)
    | some (.dp _ t), some ss => some (.dp true t :: ss)
    | _, _ => none
/-- the owners that were passed, with what they hold behind the call -/
def upds (ρc : List SV) : Nat → List OP → List SV → List SV
  | _, [], ρ => ρ
  | k, .d _ :: ps, ρ => upds ρc (k + 1) ps ρ
  | k, .o j :: ps, ρ => upds ρc (k + 1) ps (match ρ[j]?, ρc[k]? with
    | some (.ow b _), some (.ow _ ds) => ρ.set j (.ow b ds)
    | some (.dp b _), some (.dp _ t) => ρ.set j (.dp b t)
    | _, _ => ρ)
def slots : List OP → List Nat
  | [] => []
  | .d _ :: ps => slots ps
  | .o i :: ps => i :: slots ps
/-- the slot as it is passed -/
def SV.tru : SV → SV
  | .ow _ c => .ow true c
  | .dp _ t => .dp true t
  | s => s
theorem argS_cons {i : Nat} {ps : List OP} {ss : List SV} (h : argS ρ (.o i :: ps) = some ss) : ∃ s ss', ρ[i]? = some s ∧ s.isOw ∧ argS ρ ps = some ss' ∧ ss = s.tru :: ss' := by
  simp only [argS] at h
  split at h
  · rename_i c ds ss' h1 h2
    cases h
    exact ⟨_, _, h1, trivial, h2, rfl⟩
  · rename_i c t ss' h1 h2
    cases h
    exact ⟨_, _, h1, trivial, h2, rfl⟩
  · cases h
theorem argS_pr (e : En K cp F A H0 H σ ρ) : ∀ {vs : List V} {ps : List OP} {ss : List SV}, Paired (OPv K cp F σ ρ H) vs ps → argS ρ ps = some ss → Paired (PR K cp (Gv F σ ρ) H) vs ss
  | [], [], ss, _, h => by cases h; exact .nil
  | v :: vs, .d d :: ps, ss, .cons a b, h => by
    obtain ⟨ss', h1, rfl⟩ := Option.map_eq_some_iff.mp (show (argS ρ ps).map (SV.sh d :: ·) = some ss from h)
    exact .cons a (argS_pr e b h1)
  | v :: vs, .o i :: ps, ss, .cons a b, h => by
    obtain ⟨s, ss', h1, hs, h2, rfl⟩ := argS_cons h
    obtain ⟨x, rfl, hx⟩ := a
    have q := e.sl i _ h1
    cases s with
    | no => exact hs.elim
    | sh d => exact hs.elim
    | ow c ds =>
      obtain ⟨y, q1, q2⟩ := q
      rw [hx] at q1; cases q1
      exact .cons ⟨rfl, _, rfl, .inr ⟨i, .w h1 hx⟩, q2⟩ (argS_pr e b h2)
    | dp c t =>
      obtain ⟨y, q1, nd, q2⟩ := q
      rw [hx] at q1; cases q1
      exact .cons ⟨rfl, nd, fun a ha => .inr ⟨i, .t h1 ha⟩, q2⟩ (argS_pr e b h2)
/-- the i-th argument is an owner: which one -/
theorem argS_at : ∀ {ps : List OP} {ss : List SV} {i : Nat} {s : SV}, argS ρ ps = some ss → ss[i]? = some s → s.isOw → ∃ j s0, ps[i]? = some (.o j) ∧ ρ[j]? = some s0 ∧ s0.isOw ∧ s = s0.tru
  | [], ss, i, s, h, q, _ => by cases h; simp at q
  | .d d :: ps, ss, i, s, h, q, hs => by
    obtain ⟨ss', h1, rfl⟩ := Option.map_eq_some_iff.mp (show (argS ρ ps).map (SV.sh d :: ·) = some ss from h)
    cases i with
    | zero => simp at q; subst q; exact hs.elim
    | succ i => simpa using argS_at (ps := ps) h1 (by simpa using q) hs
  | .o k :: ps, ss, i, s, h, q, hs => by
    obtain ⟨s0, ss', h1, h0, h2, rfl⟩ := argS_cons h
    cases i with
    | zero => simp at q; subst q; exact ⟨k, s0, rfl, h1, h0, rfl⟩
    | succ i => simpa using argS_at (ps := ps) h2 (by simpa using q) hs
theorem argS_o : ∀ {ps : List OP} {ss : List SV} {i j : Nat}, argS ρ ps = some ss → ps[i]? = some (.o j) → ∃ s0, ρ[j]? = some s0 ∧ s0.isOw ∧ ss[i]? = some s0.tru
  | [], ss, i, j, h, q => by simp at q
  | .d d :: ps, ss, i, j, h, q => by
    obtain ⟨ss', h1, rfl⟩ := Option.map_eq_some_iff.mp (show (argS ρ ps).map (SV.sh d :: ·) = some ss from h)
    cases i with
    | zero => simp at q
    | succ i => simpa using argS_o (ps := ps) h1 (by simpa using q)
  | .o k :: ps, ss, i, j, h, q => by
    obtain ⟨s0, ss', h1, h0, h2, rfl⟩ := argS_cons h
    cases i with
    | zero => simp at q; subst q; exact ⟨s0, h1, h0, rfl⟩
    | succ i => simpa using argS_o (ps := ps) h2 (by simpa using q)
theorem slots_mem : ∀ {qs : List OP} {i j : Nat}, qs[i]? = some (.o j) → j ∈ slots qs := by
  intro qs
  induction qs with
  | nil => intro i j q; simp at q
  | cons q0 qs ih =>
    intro i j q
    cases i with
    | zero => simp at q; subst q; exact List.mem_cons_self
    | succ i =>
      have := ih (i := i) (j := j) (by simpa using q)
      cases q0 with
      | d d => exact this
      | o y => exact List.mem_cons_of_mem _ this
theorem slots_at : ∀ {qs : List OP} {j : Nat}, j ∈ slots qs → ∃ i : Nat, qs[i]? = some (.o j) := by
  intro qs
  induction qs with
  | nil => intro j h; cases h
  | cons q0 qs ih =>
    intro j h
    cases q0 with
    | d d => obtain ⟨i, hi⟩ := ih h; exact ⟨i + 1, by simpa using hi⟩
    | o y =>
      rcases List.mem_cons.mp h with h | h
      · subst h; exact ⟨0, rfl⟩
      · obtain ⟨i, hi⟩ := ih h; exact ⟨i + 1, by simpa using hi⟩
theorem slots_uniq {x : Nat} : ∀ {qs : List OP} {i j : Nat}, (slots qs).Nodup → qs[i]? = some (.o x) → qs[j]? = some (.o x) → i = j := by
  intro qs
  induction qs with
  | nil => intro i j _ q; simp at q
  | cons q0 qs ih =>
    intro i j nd q1 q2
    cases q0 with
    | d d =>
      cases i with
      | zero => simp at q1
      | succ i =>
        cases j with
        | zero => simp at q2
        | succ j => exact congrArg (· + 1) (ih (i := i) (j := j) nd (by simpa using q1) (by simpa using q2))
    | o y =>
      have nd' := List.nodup_cons.mp (show (y :: slots qs).Nodup from nd)
      cases i with
      | zero =>
        simp at q1; subst q1
        cases j with
        | zero => rfl
        | succ j => exact absurd (slots_mem (qs := qs) (i := j) (by simpa using q2)) nd'.1
      | succ i =>
        cases j with
        | zero => simp at q2; subst q2; exact absurd (slots_mem (qs := qs) (i := i) (by simpa using q1)) nd'.1
        | succ j => exact congrArg (· + 1) (ih (i := i) (j := j) nd'.2 (by simpa using q1) (by simpa using q2))
theorem upds_cons {ρc : List SV} {k x : Nat} {ps : List OP} {s s' : SV} (h1 : ρ[x]? = some s) (h2 : ρc[k]? = some s') (hk : s.kin s') : upds ρc k (.o x :: ps) ρ = upds ρc (k + 1) ps (ρ.set x (s.take s')) := by
  cases s with
  | no => exact hk.elim
  | sh d => exact hk.elim
  | ow b c =>
    cases s' with
    | ow b2 c2 => simp only [upds, h1, h2]; rfl
    | _ => exact hk.elim
  | dp b c =>
    cases s' with
    | dp b2 c2 => simp only [upds, h1, h2]; rfl
    | _ => exact hk.elim
/-- slots behind a call: each owner that was passed has what the callee left, all else is as it was -/
theorem upds_ok {ρc : List SV} : ∀ {ps : List OP} {k : Nat} {ρ : List SV}, (slots ps).Nodup → (∀ i j, ps[i]? = some (.o j) → ∃ s s', ρ[j]? = some s ∧ ρc[k + i]? = some s' ∧ s.kin s') →
    (upds ρc k ps ρ).length = ρ.length ∧ (∀ j, j ∉ slots ps → (upds ρc k ps ρ)[j]? = ρ[j]?) ∧ ∀ i j s s', ps[i]? = some (.o j) → ρ[j]? = some s → ρc[k + i]? = some s' → (upds ρc k ps ρ)[j]? = some (s.take s')
  | [], k, ρ, _, _ => ⟨rfl, fun _ _ => rfl, fun i j s s' h => by simp at h⟩
  | .d d :: ps, k, ρ, hn, h => by
    obtain ⟨h1, h2, h3⟩ := upds_ok (ρc := ρc) (ps := ps) (k := k + 1) (ρ := ρ) hn fun i j q => by
      have z := h (i + 1) j (by simpa using q)
      rwa [show k + (i + 1) = k + 1 + i by omega] at z
    refine ⟨h1, h2, fun i j s s' q1 q2 q3 => ?_⟩
    cases i with
    | zero => simp at q1
    | succ i => exact h3 i j s s' (by simpa using q1) q2 (by rwa [show k + (i + 1) = k + 1 + i by omega] at q3)
  | .o x :: ps, k, ρ, hn, h => by
    obtain ⟨s0, s1, g1, g2, gk⟩ := h 0 x rfl
    rw [Nat.add_zero] at g2
    have hl : x < ρ.length := (List.getElem?_eq_some_iff.mp g1).1
    have hn' := List.nodup_cons.mp (show (x :: slots ps).Nodup from hn)
    have e0 := upds_cons (ps := ps) g1 g2 gk
    have ne : ∀ {i j : Nat}, ps[i]? = some (.o j) → x ≠ j := fun q z => hn'.1 (z ▸ slots_mem q)
    obtain ⟨h1, h2, h3⟩ := upds_ok (ρc := ρc) (ps := ps) (k := k + 1) (ρ := ρ.set x (s0.take s1)) hn'.2 fun i j q => by
      have z := h (i + 1) j (by simpa using q)
      rw [List.getElem?_set_ne (ne q)]
      rwa [show k + (i + 1) = k + 1 + i by omega] at z
    rw [e0]
    refine ⟨by rw [h1, List.length_set], fun j hj => ?_, fun i j s s' q1 q2 q3 => ?_⟩
    · have z : x ≠ j := fun z => hj (by rw [← z]; exact List.mem_cons_self)
      rw [h2 j fun q => hj (List.mem_cons_of_mem _ q), List.getElem?_set_ne z]
    · cases i with
      | zero =>
        simp at q1; subst q1
        rw [g1] at q2; cases q2
        rw [Nat.add_zero, g2] at q3; cases q3
        rw [h2 x hn'.1, List.getElem?_set_self hl]
      | succ i =>
        have z := ne (i := i) (j := j) (by simpa using q1)
        exact h3 i j s s' (by simpa using q1) (by rw [List.getElem?_set_ne z]; exact q2) (by rwa [show k + (i + 1) = k + 1 + i by omega] at q3)
theorem Paired.at {α β : Type} {P : α → β → Prop} : ∀ {xs : List α} {ys : List β} {i : Nat} {y : β}, Paired P xs ys → ys[i]? = some y → ∃ x, xs[i]? = some x ∧ P x y
  | [], [], i, _, _, h => by simp at h
  | x :: _, y :: _, 0, _, .cons h _, e => by simp at e; subst e; exact ⟨x, rfl, h⟩
  | _ :: xs, _ :: ys, i + 1, _, .cons _ h, e => by simpa using Paired.at (xs := xs) (ys := ys) (i := i) h (by simpa using e)
theorem Paired.len {α β : Type} {P : α → β → Prop} : ∀ {xs : List α} {ys : List β}, Paired P xs ys → xs.length = ys.length
  | [], [], _ => rfl
  | _ :: _, _ :: _, .cons _ h => by simp [Paired.len h]
theorem argS_len : ∀ {ps : List OP} {ss : List SV}, argS ρ ps = some ss → ss.length = ps.length
  | [], ss, h => by cases h; rfl
  | .d d :: ps, ss, h => by
    obtain ⟨ss', h1, rfl⟩ := Option.map_eq_some_iff.mp (show (argS ρ ps).map (SV.sh d :: ·) = some ss from h)
    simp [argS_len h1]
  | .o k :: ps, ss, h => by
    obtain ⟨s0, ss', h1, h0, h2, rfl⟩ := argS_cons h
    simp [argS_len h2]
theorem has_tru {s : SV} {o : Option (Option V)} {a : Addr} : s.tru.has o a ↔ s.has o a := by cases s <;> exact Iff.rfl
theorem has_ow {s : SV} {o : Option (Option V)} {a : Addr} (h : s.has o a) : s.isOw := by cases s <;> first | exact h.elim | trivial
theorem tru_ow {s : SV} : s.tru.isOw ↔ s.isOw := by cases s <;> exact Iff.rfl
/-- what nobody holds yet is set apart -/
theorem en_apart {l : List Addr} (e : En K cp F A H0 H σ ρ) (hl : ∀ a ∈ l, H a = none) (x : Ex H H') (ht : ∀ a ∈ l, ∃ o, H' a = some o ∧ OwK o) : En K cp (plusL F l) A H0 H' σ ρ ∧ Mv (Gv F σ ρ) H (Gv (plusL F l) σ ρ) H' := by
  have no : ∀ i a, a ∈ l → ¬ own σ ρ i a := fun i a ha o => by obtain ⟨u, hu⟩ := e.own_at o; rw [hl a ha] at hu; cases hu
  have m : Mv (Gv F σ ρ) H (Gv (plusL F l) σ ρ) H' := ⟨fun a o n h => ⟨fun g => by
    rcases g with (f | f) | q
    · exact n (.inl f)
    · rw [hl a f] at h; cases h
    · exact n (.inr q), .of (x a o h)⟩⟩
  refine ⟨⟨e.len, fun a f => f.elim (fun f => (e.tr a f).elim fun o h => ⟨o, x _ _ h.1, h.2⟩) (ht a), fun a o n h => (e.fr a o n h).tr fun u z => .of (x _ _ z), e.tb.ext x, fun y hy => ⟨.inl (e.io y hy).1, (e.io y hy).2⟩, e.dj, fun i b ds a h1 h2 => ?_, fun i b t a h1 h2 => (e.dw i b t a h1 h2).imp_right fun q => ⟨fun z => z.elim q.1 fun r => no i a r (.t h1 h2), q.2⟩, fun i s h => (e.sl i s h).mv m fun a u _ h _ => x _ _ h⟩, m⟩
  have q := e.ow i b ds a h1 h2
  split
  · rename_i hb; rw [if_pos hb] at q; exact q
  · rename_i hb
    rw [if_neg hb] at q
    exact ⟨fun z => z.elim q.1 fun r => no i a r (.w h1 h2), q.2⟩
/-- f(..), by its contract -/
theorem call_ct {n : Nat} {C : CtX} {ps : List OP} {vs : List V} {E : XK} {Q : VK} {Φ : AV → List SV → Prop} {Ψ : Nat → List Str → List D → List SV → Prop} {ss : List SV} (e : En K cp F A H0 H σ ρ) (o : Paired (OPv K cp F σ ρ H) vs ps) (hs : argS ρ ps = some ss) (hn : ps.length = n) (hd : (slots ps).Nodup)
    (hc : C ss (fun r ρc => Φ r (upds ρc 0 ps ρ)) fun i ns es ρc => Ψ i ns es (upds ρc 0 ps ρ)) (k : ∀ v r ρ' H', Res K cp F A H0 σ ρ H v r ρ' H' → Φ r ρ' → Q v H')
    (kx : ∀ i es fs dd ρ' H', En K cp F A H0 H' σ ρ' → H' dd = some (exd dd fs) → DvA K cp (Gv F σ ρ') H' (fs.map (·.2)) es → Ψ i (fs.map (·.1)) es ρ' → E (.ref (cp.x i)) (some dd) H') : spX K cp n C vs H Q E := by
  have hlen := argS_len hs
  -- an owner that was passed, by its slot
  have own_in : ∀ {i : Nat} {s : SV} {v : V} {x : Addr}, ss[i]? = some s → vs[i]? = some v → s.has (some (some v)) x → ∃ j, ps[i]? = some (.o j) ∧ own σ ρ j x := fun {i s v x} s1 s2 s3 => by
    obtain ⟨j, s0, p1, p2, p3, rfl⟩ := argS_at hs s1 (has_ow s3)
    obtain ⟨v1, w1, a1, rfl, a2⟩ := Paired.at o p1
    rw [s2] at w1; cases w1
    exact ⟨j, p1, s0, p2, by rw [a2]; exact has_tru.mp s3⟩
  have nq : ∀ {x : Addr}, (∀ i, ¬ own σ ρ i x) → ∀ (i : Nat) (s : SV) (v : V), ss[i]? = some s → vs[i]? = some v → ¬ s.has (some (some v)) x := fun {x} n i s v s1 s2 s3 => (own_in s1 s2 s3).elim fun j z => n j z.2
  -- what the slots are behind the call
  have back : ∀ (ρc : List SV) {Hx : Hp} {F' : Addr → Prop}, Bk K cp (Gv F σ ρ) ss vs H F' Hx ρc → En K cp F A H0 Hx σ (upds ρc 0 ps ρ) ∧ Mv (Gv F σ ρ) H (Gv F σ (upds ρc 0 ps ρ)) Hx ∧ (∀ a, Gv F σ (upds ρc 0 ps ρ) a → F' a) ∧ ∀ a i, own σ (upds ρc 0 ps ρ) i a → own σ ρ i a ∨ ∃ (j : Nat) (b : Bool) (t : Tr), ρc[j]? = some (.dp b t) ∧ a ∈ t.foot := fun ρc {Hx F'} bk => by
    have hps : ∀ (i j : Nat), ps[i]? = some (.o j) → ∃ s s', ρ[j]? = some s ∧ ρc[0 + i]? = some s' ∧ s.kin s' ∧ ∀ a, σ[j]? = some (some (.ref a)) → SOk K cp F' Hx (some (some (.ref a))) (s.take s') ∧ (∀ (b : Bool) (u : Tr), s' = .dp b u → ∃ (c : Bool) (t : Tr), s = .dp c t ∧ ∀ x ∈ u.foot, x ∈ t.foot ∨ H x = none) := fun i j q => by
      obtain ⟨s0, q1, q0, q2⟩ := argS_o hs q
      obtain ⟨v1, w1, a1, rfl, a2⟩ := Paired.at o q
      rw [Nat.zero_add]
      cases s0 with
      | no => exact q0.elim
      | sh d => exact q0.elim
      | ow b c =>
        obtain ⟨es, z1, z2⟩ := bk.ho i true c a1 q2 w1
        exact ⟨_, _, q1, z1, trivial, fun a ha => by rw [a2] at ha; cases ha; exact ⟨⟨_, rfl, z2⟩, fun b u z => by cases z⟩⟩
      | dp b t =>
        obtain ⟨u, z1, z2, z3, z4⟩ := bk.hd i true t _ q2 w1
        exact ⟨_, _, q1, z1, trivial, fun a ha => by rw [a2] at ha; cases ha; exact ⟨⟨_, rfl, z2, z4⟩, fun b' u' z => by cases z; exact ⟨_, _, rfl, z3⟩⟩⟩
    obtain ⟨ul, uo, ui⟩ := upds_ok (ρc := ρc) (ps := ps) (k := 0) (ρ := ρ) hd fun i j q => by obtain ⟨s, s', h1, h2, h3, _⟩ := hps i j q; exact ⟨s, s', h1, h2, h3⟩
    -- each slot, by what it was
    have sl : ∀ {j : Nat} {s' : SV}, (upds ρc 0 ps ρ)[j]? = some s' → (j ∉ slots ps ∧ ρ[j]? = some s') ∨ ∃ (i : Nat) (s s2 : SV), ps[i]? = some (.o j) ∧ ρ[j]? = some s ∧ ρc[i]? = some s2 ∧ s.kin s2 ∧ s' = s.take s2 := fun {j s'} h => by
      by_cases hj : j ∈ slots ps
      · obtain ⟨i, hi⟩ := slots_at hj
        obtain ⟨s, s2, h1, h2, h3, _⟩ := hps i j hi
        have y := ui i j s s2 hi h1 h2
        rw [h] at y; cases y
        rw [Nat.zero_add] at h2
        exact .inr ⟨i, s, s2, hi, h1, h2, h3, rfl⟩
      · rw [uo j hj] at h
        exact .inl ⟨hj, h⟩
    have ow2 : ∀ {i x}, own σ (upds ρc 0 ps ρ) i x → own σ ρ i x ∨ (H x = none ∧ ∃ (j : Nat) (b : Bool) (t : Tr), ps[j]? = some (.o i) ∧ ρc[j]? = some (.dp b t) ∧ x ∈ t.foot) := fun {i x} ⟨s', h1, h2⟩ => by
      rcases sl h1 with ⟨_, h⟩ | ⟨k2, s, s2, g1, g2, g3, g4, rfl⟩
      · exact .inl ⟨s', h, h2⟩
      · cases s with
        | no => exact g4.elim
        | sh d => exact g4.elim
        | ow b c =>
          cases s2 with
          | ow b2 c2 => exact .inl ⟨_, g2, h2⟩
          | _ => exact g4.elim
        | dp b t =>
          cases s2 with
          | dp b2 u =>
            obtain ⟨v1, w1, a1, rfl, a2⟩ := Paired.at o g1
            obtain ⟨s, s', f1, f2, f3, f4⟩ := hps k2 i g1
            rw [g2] at f1; cases f1
            rw [Nat.zero_add, g3] at f2; cases f2
            obtain ⟨c, t2, q1, q2⟩ := (f4 _ a2).2 _ _ rfl
            cases q1
            rcases q2 x h2 with z | z
            · exact .inl ⟨_, g2, z⟩
            · exact .inr ⟨z, k2, _, _, g1, g3, h2⟩
          | _ => exact g4.elim
    have gsub : ∀ a, Gv F σ (upds ρc 0 ps ρ) a → F' a := fun a g => by
      rcases g with f | ⟨i, z⟩
      · exact (bk.hF a (.inl f)).1
      · rcases ow2 z with q | ⟨_, j, b, t, _, q2, q3⟩
        · exact (bk.hF a (.inr ⟨i, q⟩)).1
        · exact bk.hT j b t a q2 q3
    obtain ⟨e2, m2⟩ := en_updG e ul (fun j s' h => by
        rcases sl h with ⟨_, h⟩ | ⟨k2, s, s2, g1, g2, g3, g4, rfl⟩
        · exact ⟨s', h, .inl rfl⟩
        · exact ⟨s, g2, .inr ⟨s2, g4, rfl⟩⟩) (fun i x z => (ow2 z).imp_right (·.1)) (fun i j x o1 o2 hn => by
        have no : ∀ i, ¬ own σ ρ i x := fun i z => by obtain ⟨u, hu⟩ := e.own_at z; rw [hn] at hu; cases hu
        rcases ow2 o1 with q | ⟨_, i1, b1, t1, r1, r2, r3⟩
        · exact absurd q (no i)
        · rcases ow2 o2 with q | ⟨_, i2, b2, t2, u1, u2, u3⟩
          · exact absurd q (no j)
          · have := bk.hj i1 i2 b1 b2 t1 t2 x r2 u2 r3 u3
            subst this
            rw [r1] at u1; cases u1; rfl) (fun x u n h => bk.hm x u (nq n) h) bk.tb (fun x f => (bk.hF x (.inl f)).2) fun j s' h hs' => by
        rcases sl h with ⟨hj, h⟩ | ⟨k2, s, s2, g1, g2, g3, g4, rfl⟩
        · -- an owner that was not passed
          refine (e.sl j s' h).mv ⟨fun a u n ha => ⟨fun g => ?_, bk.hm a u (nq fun i z => n (.inr ⟨i, z⟩)) ha⟩⟩ fun a u hx ha hk => ?_
          · rcases g with f | ⟨i, z⟩
            · exact n (.inl f)
            · rcases ow2 z with q | ⟨q, _⟩
              · exact n (.inr ⟨i, q⟩)
              · rw [ha] at q; cases q
          · have ox : own σ ρ j a := ⟨s', h, hx⟩
            refine (bk.hm a u (fun i s v s1 s2 s3 => ?_) ha).to (fun qs z => by subst z; exact hk)
            obtain ⟨y, p1, p2⟩ := own_in s1 s2 s3
            have := e.dj j y a ox p2
            subst this
            exact hj (slots_mem p1)
        · obtain ⟨v1, w1, a1, rfl, a2⟩ := Paired.at o g1
          obtain ⟨s0, s3, f1, f2, f3, f4⟩ := hps k2 j g1
          rw [g2] at f1; cases f1
          rw [Nat.zero_add, g3] at f2; cases f2
          rw [a2]
          exact (f4 _ a2).1.mv (Mv.sub gsub) fun _ _ _ h _ => h
    exact ⟨e2, m2, gsub, fun a i z => (ow2 z).imp_right fun ⟨_, j, b, t, _, q2, q3⟩ => ⟨j, b, t, q2, q3⟩⟩
  have backL : ∀ {ρc : List SV} {F' : Addr → Prop} {H' : Hp} {l : List Addr}, Bk K cp (Gv F σ ρ) ss vs H F' H' ρc → (∀ a ∈ l, H a = none ∧ F' a ∧ (∀ (i : Nat) (b : Bool) (t : Tr), ρc[i]? = some (.dp b t) → a ∉ t.foot) ∧ (∃ o, H' a = some o) ∧ ∀ o, H' a = some o → OwK o) →
      En K cp (plusL F l) A H0 H' σ (upds ρc 0 ps ρ) ∧ Mv (Gv F σ ρ) H (Gv (plusL F l) σ (upds ρc 0 ps ρ)) H' ∧ (∀ a, Gv (plusL F l) σ (upds ρc 0 ps ρ) a → F' a) ∧ ∀ a ∈ l, ¬ F a ∧ H0 a = none := fun {ρc F' H' l} bk hl => by
    classical
    let Hx : Hp := fun a => if a ∈ l then none else H' a
    have hx : ∀ {a : Addr}, a ∉ l → Hx a = H' a := fun {a} n => if_neg n
    have hxl : ∀ a ∈ l, Hx a = none := fun a h => if_pos h
    have sx : ∀ {a : Addr} {u : HO}, a ∉ l → Sm u H' a → Sm u Hx a := fun {a u} n h => h.tr fun w hw => .of (by rw [hx n]; exact hw)
    have nep : ∀ {a : Addr} {u : HO}, H a = some u → a ∉ l := fun {a u} h z => by rw [(hl a z).1] at h; cases h
    have mx : Mv F' H' F' Hx := ⟨fun a u n h => ⟨n, .of (by rw [hx fun z => n (hl a z).2.1]; exact h)⟩⟩
    have bk2 : Bk K cp (Gv F σ ρ) ss vs H F' Hx ρc := by
      refine ⟨fun x u n h => sx (nep h) (bk.hm x u n h), fun i b ds a q1 q2 => ?_, fun i b t v q1 q2 => ?_, bk.hj, fun a f => ⟨(bk.hF a f).1, ?_⟩, bk.hT, ?_⟩
      · obtain ⟨es, y1, u1, y2, y3⟩ := bk.ho i b ds a q1 q2
        refine ⟨es, y1, u1, ?_, y3.mv mx⟩
        rw [hx ?_]
        · exact y2
        · obtain ⟨j, p1, p2⟩ := own_in q1 q2 (rfl : (SV.ow b ds).has (some (some (.ref a))) a)
          obtain ⟨us, hu⟩ := e.own_at p2
          exact nep hu
      · obtain ⟨u, y1, y2, y3, y4⟩ := bk.hd i b t v q1 q2
        exact ⟨u, y1, y2, y3, y4.mv mx _ _ fun a ha w hw _ => by rw [hx fun z => (hl a z).2.2.1 i _ u y1 ha]; exact hw⟩
      · obtain ⟨o, ho, hk⟩ := (bk.hF a f).2
        obtain ⟨o', ho', _⟩ := e.trk a f
        exact ⟨o, by rw [hx (nep ho')]; exact ho, hk⟩
      · refine tabs_keep bk.tb fun a u n h => ?_
        rw [hx fun z => n ((hl a z).2.2.2.2 u h)]; exact h
    obtain ⟨e2, m2, gs, _⟩ := back ρc bk2
    have exx : Ex Hx H' := fun a u h => by
      have z : a ∉ l := fun z => by rw [hxl a z] at h; cases h
      rw [hx z] at h; exact h
    obtain ⟨e3, m3⟩ := en_apart e2 hxl exx fun a ha => (hl a ha).2.2.2.1.elim fun o z => ⟨o, z, (hl a ha).2.2.2.2 o z⟩
    refine ⟨e3, m2.tr m3, fun a g => ?_, fun a ha => ⟨fun f => ?_, e.none0 (hl a ha).1⟩⟩
    · rcases g with (f | f) | q
      · exact gs a (.inl f)
      · exact (hl a f).2.1
      · exact gs a (.inr q)
    · obtain ⟨u, hu, _⟩ := e.tr a f
      rw [(hl a ha).1] at hu; cases hu
  refine ⟨Gv F σ ρ, ss, _, _, by rw [Paired.len o, hn], argS_pr e o hs, e.trk, fun i j a s t v w h1 h2 h3 h4 h5 h6 => ?_, e.tb, hc, fun v r ρc H' F' φ hr bk => ?_, fun i es fs dd ρc H' F' ψ h1 h2 bk => ?_⟩
  · obtain ⟨x, p1, r1⟩ := own_in h1 h3 h5
    obtain ⟨y, p2, r2⟩ := own_in h2 h4 h6
    have xy := e.dj x y a r1 r2
    subst xy
    exact slots_uniq hd p1 p2
  · -- behind the call
    cases r with
    | d d =>
      obtain ⟨e2, m2, gs, _⟩ := back ρc bk
      exact k v (.d d) _ H' ⟨e2, m2, Dv.mv (Mv.sub gs) _ _ hr⟩ φ
    | n ds =>
      obtain ⟨p, rfl, hp, fp, pn, u0, hp', dv⟩ := hr
      obtain ⟨e3, m3, gs, nF⟩ := backL bk (l := [p]) (fun a ha => by rw [List.mem_singleton.mp ha]; exact ⟨hp, fp, pn, ⟨_, hp'⟩, fun qs z => by rw [hp'] at z; cases z; exact dv.kd⟩)
      have pe : plusL F [p] = plus F p := funext fun a => propext (or_congr_right List.mem_singleton)
      rw [pe] at e3 m3 gs
      exact k _ (.n ds) _ H' ⟨p, rfl, (nF p (by simp)).1, (nF p (by simp)).2, e3, fun x hx => (e.io x hx).1, m3, u0, hp', dv.mv (Mv.sub gs)⟩ φ
    | o i => exact hr.elim
    | t t =>
      obtain ⟨tv, nd, hf⟩ := hr
      obtain ⟨e3, m3, gs, nF⟩ := backL bk (l := t.foot) (fun a ha => by
        obtain ⟨h1, h2, h3⟩ := hf a ha
        obtain ⟨u, hu, hk⟩ := tv.there ha
        exact ⟨h1, h2, h3, ⟨u, hu⟩, fun qs z => by rw [hu] at z; cases z; exact hk⟩)
      exact k _ (.t t) _ H' ⟨tv.mv (Mv.sub gs) _ _ fun _ _ _ h _ => h, nd, nF, e3, fun x hx => (e.io x hx).1, m3⟩ φ
  · obtain ⟨e2, m2, gs, _⟩ := back ρc bk
    exact kx i es fs dd _ H' e2 h1 (DvA.mv (Mv.sub gs) _ _ h2) ψ
theorem DE.call {n : Nat} {C : Ct} {E : XK} {t : TA} {Φ : AV → List SV → Prop} (h : DAo K cp X t ρ fun ps ρ1 => ∃ ss, argS ρ1 ps = some ss ∧ ps.length = n ∧ (slots ps).Nodup ∧ C ss fun r ρc => Φ r (upds ρc 0 ps ρ1)) : DE K cp X (tCall (spC K cp n C) [] E t) ρ Φ := fun F A H0 H σ e hx Q k =>
  h F A H0 H σ e hx _ fun vs ps ρ1 H1 e1 m1 o1 ⟨ss, hs, hn, hd, hc⟩ => by
    rw [List.append_nil]
    exact call_ct (Ψ := fun _ _ _ _ => False) (C := fun ss Φ _ => C ss Φ) e1 o1 hs hn hd hc (fun v r ρ2 H2 rs φ => k v r ρ2 H2 (rs.tr m1) φ) fun _ _ _ _ _ _ _ _ _ z => z.elim
/-- .. of a def that may raise -/
theorem DE.callX {n : Nat} {C : CtX} {t : TA} {Φ : AV → List SV → Prop} (h : DAo K cp X t ρ fun ps ρ1 => ∃ ss, argS ρ1 ps = some ss ∧ ps.length = n ∧ (slots ps).Nodup ∧ C ss (fun r ρc => Φ r (upds ρc 0 ps ρ1)) fun i ns es ρc => X.P i ns es (upds ρc 0 ps ρ1)) : DE K cp X (tCall (spX K cp n C) [] X.E t) ρ Φ := fun F A H0 H σ e hx Q k =>
  h F A H0 H σ e hx _ fun vs ps ρ1 H1 e1 m1 o1 ⟨ss, hs, hn, hd, hc⟩ => by
    rw [List.append_nil]
    exact call_ct (Ψ := X.P) e1 o1 hs hn hd hc (fun v r ρ2 H2 rs φ => k v r ρ2 H2 (rs.tr m1) φ) fun i es fs dd ρ' H' e2 h1 h2 h3 => hx.x i es fs dd _ _ e2 h1 h2 h3
end
end DD

end
section
set_option Elab.async false
set_option linter.all false
set_option maxRecDepth 100000
set_option maxHeartbeats 1000000
/-! A def by its contract; what the machine's own words give. -/
namespace DD
open PySem PySem.Spec PyProof.Rows L2 GL
def noS (n : Nat) : List SV := List.replicate n .no
def parL (vs : List V) (ss : List SV) : List (Nat × Addr) := (List.range ss.length).flatMap fun i => match ss[i]?, vs[i]? with
  | some (SV.ow _ _), some (V.ref a) => [(i, a)]
  | some (SV.dp _ t), some _ => t.foot.map fun a => (i, a)
  | _, _ => []
def parA (vs : List V) (ss : List SV) : Pass := ⟨parL vs ss, fun i => match ss[i]? with
  | some (SV.dp _ _) => true
  | _ => false, fun i => (vs[i]?).getD .non⟩
theorem mem_parA {vs : List V} {ss : List SV} {y : Nat × Addr} : y ∈ parA vs ss ↔ ∃ s v, ss[y.1]? = some s ∧ vs[y.1]? = some v ∧ s.has (some (some v)) y.2 := by
  show y ∈ parL vs ss ↔ _
  unfold parL
  rw [List.mem_flatMap]
  constructor
  · rintro ⟨i, _, h⟩
    split at h
    · rename_i b ds a h1 h2
      rw [List.mem_singleton] at h
      subst h
      exact ⟨_, _, h1, h2, rfl⟩
    · rename_i b t v h1 h2
      obtain ⟨a, ha, rfl⟩ := List.mem_map.mp h
      exact ⟨_, _, h1, h2, ha⟩
    · cases h
  · rintro ⟨s, v, h1, h2, h3⟩
    refine ⟨y.1, List.mem_range.mpr (List.getElem?_eq_some_iff.mp h1).1, ?_⟩
    rw [h1, h2]
    cases s with
    | no => exact h3.elim
    | sh d => exact h3.elim
    | ow b ds =>
      have h3 : some (some v) = some (some (V.ref y.2)) := h3
      cases h3
      exact List.mem_singleton.mpr rfl
    | dp b t => exact List.mem_map.mpr ⟨y.2, h3, rfl⟩
section
variable {pg : Program} {w : World} {K : PySem.W.Frag} {mg : Str → Option Value} {bs : Heap} {cp : Cb} {X : XC}
theorem start_get {N : List Str} {vs : List V} {i : Nat} {v : V} (h : vs[i]? = some v) : (L2.start N vs)[i]? = some (some v) := by
  unfold L2.start
  have hl := (List.getElem?_eq_some_iff.mp h).1
  rw [List.getElem?_append_left (by simpa using hl), List.getElem?_map, h]; rfl
theorem app_no {ss : List SV} {n i : Nat} {s : SV} (h : (ss ++ noS n)[i]? = some s) : ss[i]? = some s ∨ s = .no := by
  by_cases z : i < ss.length
  · rw [List.getElem?_append_left z] at h; exact .inl h
  · rw [List.getElem?_append_right (by omega)] at h
    unfold noS at h
    rw [List.getElem?_replicate] at h
    split at h
    · cases h; exact .inr rfl
    · cases h
theorem en_start {N : List Str} {F : Addr → Prop} {H : Hp} {vs : List V} {ss : List SV} {n : Nat} (hl : vs.length = n) (pr : Paired (PR K cp F H) vs ss) (tr : Trk F H) (tb : LamX.Tabs cp.T H)
    (dj : ∀ (i j : Nat) (a : Addr) (s t : SV) (v w : V), ss[i]? = some s → ss[j]? = some t → vs[i]? = some v → vs[j]? = some w → s.has (some (some v)) a → t.has (some (some w)) a → i = j) :
    En K cp F (parA vs ss) H H (L2.start N vs) (ss ++ noS (N.length - n)) := by
  have hs := Paired.len pr
  have at_ : ∀ {i : Nat} {s : SV}, (ss ++ noS (N.length - n))[i]? = some s → s.isOw → ss[i]? = some s ∧ ∃ v, vs[i]? = some v ∧ PR K cp F H v s := by
    intro i s h ho
    rcases app_no h with h | h
    · obtain ⟨v, hv, p⟩ := Paired.at pr h
      exact ⟨h, v, hv, p⟩
    · subst h; exact ho.elim
  have own_at : ∀ {i : Nat} {a : Addr}, own (L2.start N vs) (ss ++ noS (N.length - n)) i a → ∃ s v, ss[i]? = some s ∧ vs[i]? = some v ∧ s.has (some (some v)) a ∧ F a := by
    rintro i a ⟨s, h1, h2⟩
    obtain ⟨q1, v, q3, q4⟩ := at_ h1 (has_ow h2)
    rw [start_get q3] at h2
    refine ⟨s, v, q1, q3, h2, ?_⟩
    cases s with
    | no => exact h2.elim
    | sh d => exact h2.elim
    | ow b ds =>
      obtain ⟨_, a', rfl, f, _⟩ := q4
      cases h2; exact f
    | dp b t => exact q4.2.2.1 a h2
  have gf : ∀ a, Gv F (L2.start N vs) (ss ++ noS (N.length - n)) a → F a := fun a g => g.elim id fun ⟨i, o⟩ => by
    obtain ⟨s, v, _, _, _, f⟩ := own_at o
    exact f
  refine ⟨by unfold L2.start noS; simp; omega, tr, fun a o _ h => .of h, tb, fun y hy => ?_, fun i j a h1 h2 => ?_, fun i b ds a h1 h2 => ?_, fun i b t a h1 h2 => ?_, fun i s h => ?_⟩
  · obtain ⟨s, v, h1, h2, h3⟩ := mem_parA.mp hy
    obtain ⟨v', hv, p⟩ := Paired.at pr h1
    rw [h2] at hv; cases hv
    have hk : (ss ++ noS (N.length - n))[y.1]? = some s := by rw [List.getElem?_append_left (List.getElem?_eq_some_iff.mp h1).1]; exact h1
    cases s with
    | no => exact h3.elim
    | sh d => exact h3.elim
    | ow b ds =>
      obtain ⟨rfl, a, rfl, f, _⟩ := p
      cases h3
      exact ⟨f, .inl ⟨by show (match ss[y.1]? with | some (SV.dp _ _) => true | _ => false) = false; rw [h1], ds, hk, start_get h2⟩⟩
    | dp b t =>
      obtain ⟨rfl, _, f, _⟩ := p
      exact ⟨f _ h3, .inr ⟨by show (match ss[y.1]? with | some (SV.dp _ _) => true | _ => false) = true; rw [h1], t, hk, by rw [start_get h2]; show _ = some (some ((vs[y.1]?).getD .non)); rw [h2]; rfl⟩⟩
  · obtain ⟨s, v, p1, p2, p3, _⟩ := own_at h1
    obtain ⟨t, w, p4, p5, p6, _⟩ := own_at h2
    exact dj i j a s t v w p1 p4 p2 p5 p3 p6
  · obtain ⟨q1, v, q3, q4⟩ := at_ h1 trivial
    obtain ⟨rfl, _⟩ := q4
    rw [if_pos rfl]
    rw [start_get q3] at h2; cases h2
    exact mem_parA.mpr ⟨_, _, q1, q3, rfl⟩
  · obtain ⟨q1, v, q3, q4⟩ := at_ h1 trivial
    exact .inl ⟨q4.1, mem_parA.mpr ⟨_, _, q1, q3, h2⟩⟩
  · rcases app_no h with h | rfl
    · obtain ⟨v, hv, p⟩ := Paired.at pr h
      rw [start_get hv]
      cases s with
      | no => trivial
      | sh d => exact ⟨v, rfl, Dv.mv (Mv.sub gf) _ _ p⟩
      | ow b ds =>
        obtain ⟨_, a, rfl, _, u, p1, p2⟩ := p
        exact ⟨a, rfl, u, p1, p2.mv (Mv.sub gf)⟩
      | dp b t =>
        obtain ⟨_, ok, _, p2⟩ := p
        exact ⟨v, rfl, ok, p2.mv (Mv.sub gf) _ _ fun _ _ _ h _ => h⟩
    · trivial
/-- a body by its contract -/
theorem body_ct {N : List Str} {F : Addr → Prop} {ss : List SV} {Φ : AV → List SV → Prop} {Ψ : Nat → List Str → List D → List SV → Prop} {H : Hp} {vs : List V} {Q : VK} {E : XK} {n : Nat} {t : TS} (hl : vs.length = n) (pr : Paired (PR K cp F H) vs ss) (tr : Trk F H)
    (dj : ∀ (i j : Nat) (a : Addr) (s t : SV) (v w : V), ss[i]? = some s → ss[j]? = some t → vs[i]? = some v → vs[j]? = some w → s.has (some (some v)) a → t.has (some (some w)) a → i = j) (tb : LamX.Tabs cp.T H)
    (kk : ∀ v r ρ' H' F', Φ r ρ' → Hb K cp H v H' F' ρ' r → Bk K cp F ss vs H F' H' ρ' → Q v H')
    (kx : ∀ i es fs dd ρ' H' F', Ψ i (fs.map (·.1)) es ρ' → H' dd = some (exd dd fs) → DvA K cp F' H' (fs.map (·.2)) es → Bk K cp F ss vs H F' H' ρ' → E (.ref (cp.x i)) (some dd) H')
    (hd : DS K cp ⟨E, Ψ, H⟩ t (ss ++ noS (N.length - n)) (Φ (.d .non)) Φ (fun _ => False) fun _ => False) : t { nx := fun _ H' => Q .non H', rt := Q } (L2.start N vs) H := by
    have e0 := en_start (N := N) hl pr tr tb dj
    have bk : ∀ {F' : Addr → Prop} {σ' ρ' H'}, (∀ a, F a → F' a) → En K cp F' (parA vs ss) H H' σ' ρ' → Bk K cp F ss vs H (Gv F' σ' ρ') H' ρ' := fun {F' σ' ρ' H'} sub e => by
      refine ⟨fun a o n h => e.fr a o (fun y hy z => ?_) h, fun i b ds a h1 h2 => ?_, fun i b t v h1 h2 => ?_, fun i j b c t u a h1 h2 h3 h4 => e.dj i j a (.t h1 h3) (.t h2 h4), fun a f => ⟨.inl (sub a f), e.tr a (sub a f)⟩, fun i b t a h1 h2 => .inr ⟨i, .t h1 h2⟩, e.tb⟩
      · obtain ⟨s, v, h1, h2, h3⟩ := mem_parA.mp hy
        exact n y.1 s v h1 h2 (by rw [z]; exact h3)
      · obtain ⟨f, q⟩ := e.io (i, a) (mem_parA.mpr ⟨_, _, h1, h2, rfl⟩)
        rcases q with ⟨_, es, p1, p2⟩ | ⟨q, _⟩
        · obtain ⟨a', q1, u, q2, q3⟩ := e.sl i _ p1
          rw [p2] at q1; cases q1
          exact ⟨es, p1, u, q2, q3⟩
        · have q : (match ss[i]? with | some (SV.dp _ _) => true | _ => false) = true := q
          rw [h1] at q; cases q
      · obtain ⟨v', hv, p⟩ := Paired.at pr h1
        rw [h2] at hv; cases hv
        obtain ⟨_, ok, _, _⟩ := p
        obtain ⟨a0, ha0⟩ := List.exists_mem_of_ne_nil _ ok.2
        obtain ⟨f, q⟩ := e.io (i, a0) (mem_parA.mpr ⟨_, _, h1, h2, ha0⟩)
        rcases q with ⟨q, _⟩ | ⟨_, u, p1, p2⟩
        · have q : (match ss[i]? with | some (SV.dp _ _) => true | _ => false) = false := q
          rw [h1] at q; cases q
        · obtain ⟨w, q1, q2, q3⟩ := e.sl i _ p1
          refine ⟨u, p1, q2, fun a ha => ?_, ?_⟩
          · rcases e.dw i true u a p1 ha with ⟨_, z⟩ | z
            · obtain ⟨s, v2, g1, g2, g3⟩ := mem_parA.mp z
              rw [h1] at g1; cases g1
              exact .inl g3
            · exact .inr z.2
          · have p2 : σ'[i]? = some (some ((vs[i]?).getD .non)) := p2
            rw [h2, q1] at p2
            cases p2; exact q3
    have fin : ∀ {F' : Addr → Prop} {σ' ρ' H'} v r, (∀ a, F a → F' a) → En K cp F' (parA vs ss) H H' σ' ρ' → Φ r ρ' → Hb K cp H v H' (Gv F' σ' ρ') ρ' r → Q v H' := fun {F' σ' ρ' H'} v r sub e φ hr => kk v r ρ' H' _ φ hr (bk sub e)
    have hx : ∀ σ, XOk K cp F (parA vs ss) H ⟨E, Ψ, H⟩ σ := fun σ' => ⟨fun _ h => h, fun i es fs dd ρ' H' e h1 h2 h3 => kx i es fs dd ρ' H' _ h3 h1 h2 (bk (fun _ g => g) e)⟩
    refine hd F (parA vs ss) H H (L2.start N vs) e0 hx _ (fun σ' ρ' H' e m φ => fin .non (.d .non) (fun _ g => g) e φ .non) (fun v r σ' ρ' H' fi φ => ?_) (fun _ _ _ _ _ z => z.elim) fun _ _ _ _ _ z => z.elim
    cases r with
    | d d => exact fin v (.d d) (fun _ g => g) fi.1 φ fi.2
    | n ds =>
      obtain ⟨p, rfl, nf, h0, e, ha, u, hu, dv⟩ := fi
      exact fin _ (.n ds) (fun _ g => .inl g) e φ ⟨p, rfl, h0, .inl (.inr rfl), fun i b t h1 h2 => by
        rcases e.mine (.t h1 h2) with q | q
        · exact nf (ha _ q)
        · exact q.1 (.inr rfl), u, hu, dv⟩
    | o i => exact fi.elim
    | t t =>
      obtain ⟨tv, ok, nf, e, ha⟩ := fi
      exact fin v (.t t) (fun _ g => .inl g) e φ ⟨tv, ok, fun a h => ⟨(nf a h).2, .inl (.inr h), fun i b u h1 h2 => by
        rcases e.mine (.t h1 h2) with q | q
        · exact (nf a h).1 (ha _ q)
        · exact q.1 (.inr h)⟩⟩
/-- a def by its contract -/
theorem okX {cx : CXT} {x q : Str} {st : Stmt} {f : Addr} {fd : FuncData} {N ps : List Str} {k : Nat} {C : CtX} {nos : List SV} (Fn : Fun K x q st f fd) (S : FnScope N ps (defScope st)) (hno : noS (N.length - ps.length) = nos)
    (hb : ∀ (cd : Value) (A : Around) (out : List Env) (s : Shared) (H : Hp) (E : XK), A.guards = some [] → Room k (A.deeper (envOfC q (defScope st) s.heap.objs.size f cd)) → ∀ ss Φ Ψ, C ss Φ Ψ → ss.length = ps.length →
      ∃ t, PSs (cxOf cx pg w K mg bs N q (defScope st) f cd A out s H E) (defBody st) t ∧ DS K cp ⟨E, Ψ, H⟩ t (ss ++ nos) (Φ (.d .non)) Φ (fun _ => False) fun _ => False) :
    FnG pg w K mg bs cx (k + 1) f fd ps (spX K cp ps.length C) := by
  subst hno
  refine Fun.okG Fn S (fun vs H Q E h => ?_) (fun cd A out s H vs Q E gd hr h => ?_)
  · obtain ⟨_, _, _, _, h, _⟩ := h; exact h
  · obtain ⟨F, ss, Φ, Ψ, hl, pr, tr, dj, tb, hc, kk, kx⟩ := h
    obtain ⟨t, ht, hd⟩ := hb cd A out s H E gd hr ss Φ Ψ hc (by rw [← Paired.len pr, hl])
    refine ⟨t, ht, ?_⟩
    exact body_ct hl pr tr dj tb kk kx hd
theorem okD {cx : CXT} {x q : Str} {st : Stmt} {f : Addr} {fd : FuncData} {N ps : List Str} {k : Nat} {C : Ct} {nos : List SV} (Fn : Fun K x q st f fd) (S : FnScope N ps (defScope st)) (hno : noS (N.length - ps.length) = nos)
    (hb : ∀ (cd : Value) (A : Around) (out : List Env) (s : Shared) (H : Hp) (E : XK), A.guards = some [] → Room k (A.deeper (envOfC q (defScope st) s.heap.objs.size f cd)) → ∀ ss Φ, C ss Φ → ss.length = ps.length →
      ∃ t, PSs (cxOf cx pg w K mg bs N q (defScope st) f cd A out s H E) (defBody st) t ∧ DS K cp XC.q t (ss ++ nos) (Φ (.d .non)) Φ (fun _ => False) fun _ => False) :
    FnG pg w K mg bs cx (k + 1) f fd ps (spC K cp ps.length C) :=
  okX Fn S hno fun cd A out s H E gd hr ss Φ Ψ hc hl => let ⟨t, ht, hd⟩ := hb cd A out s H E gd hr ss Φ hc hl; ⟨t, ht, fun F A H0 H σ e _ => hd F A H0 H σ e fun _ => xq⟩
end

/-! ### the machine's own words -/
section
variable {K : PySem.W.Frag} {cp : Cb} {X : XC} {ψ : AV → Prop}
theorem dt_int {G : Addr → Prop} {H : Hp} {v : V} {i : Int} (h : Dt K cp G H v (.int i)) : v = .int i := by
  rcases h with h | ⟨a, _, u, _, h⟩
  · exact dv_int h
  · cases h
theorem dt_str {G : Addr → Prop} {H : Hp} {v : V} {i : Str} (h : Dt K cp G H v (.str i)) : v = .str i := by
  rcases h with h | ⟨a, _, u, _, h⟩
  · exact dv_str h
  · cases h
theorem dt_bl {G : Addr → Prop} {H : Hp} {v : V} {i : Bool} (h : Dt K cp G H v (.bl i)) : v = .bl i := by
  rcases h with h | ⟨a, _, u, _, h⟩
  · exact dv_bl h
  · cases h
theorem dt_lst {G : Addr → Prop} {H : Hp} {v : V} {ds : List D} (h : Dt K cp G H v (.lst ds)) : ∃ a vs, v = .ref a ∧ H a = some (.lst vs) ∧ DvA K cp G H vs ds := by
  rcases h with h | ⟨a, rfl, u, h1, h⟩
  · cases h with | @lst a vs _ h1 n h2 => exact ⟨a, vs, rfl, h1, h2⟩
  · cases h with | lst h2 => exact ⟨a, _, rfl, h1, h2⟩
theorem dt_tup {G : Addr → Prop} {H : Hp} {v : V} {ds : List D} (h : Dt K cp G H v (.tup ds)) : ∃ a vs, v = .ref a ∧ SqT K H a vs ∧ DvA K cp G H vs ds := by
  rcases h with h | ⟨a, _, u, _, h⟩
  · cases h with
    | @tup a vs _ h1 n h2 => exact ⟨a, vs, rfl, .inl (.inl h1), h2⟩
    | @kt a vs _ h1 h2 h3 => exact ⟨a, vs, rfl, h1 H, h2⟩
  · cases h
/-- a list or a tuple -/
def seqD : D → Option (List D)
  | .lst ds => some ds
  | .tup ds => some ds
  | _ => none
theorem dt_seq {G : Addr → Prop} {H : Hp} {v : V} {d : D} {ds : List D} (h : Dt K cp G H v d) (e : seqD d = some ds) : ∃ a vs, v = .ref a ∧ (SqL K H a vs ∨ SqT K H a vs) ∧ DvA K cp G H vs ds := by
  cases d with
  | lst xs => cases e; obtain ⟨a, vs, e1, r, dv⟩ := dt_lst h; exact ⟨a, vs, e1, .inl (.inl (.inl r)), dv⟩
  | tup xs => cases e; obtain ⟨a, vs, e1, r, dv⟩ := dt_tup h; exact ⟨a, vs, e1, .inr r, dv⟩
  | _ => cases e
theorem rx_flat {G : Addr → Prop} {H : Hp} {v : V} {d : D} (h : Fla v d) : Rx K cp G H v (.d d) H := ⟨Ex.rfl' H, h.dv⟩
theorem r2_int {g : Int → Int → V} {i j : Int} {d : D} (h : Fla (g i j) d) (q : ψ (.d d)) : R2d K cp (rI0 g) (.int i) (.int j) ψ := fun G H u v Q hu hv k =>
  ⟨i, j, dt_int hu, dt_int hv, k _ (.d d) H (rx_flat h) q⟩
theorem r2_intC {C : Int → Int → Prop} {g : Int → Int → V} {i j : Int} {d : D} (c : C i j) (h : Fla (g i j) d) (q : ψ (.d d)) : R2d K cp (rI C g) (.int i) (.int j) ψ := fun G H u v Q hu hv k =>
  ⟨i, j, dt_int hu, dt_int hv, c, k _ (.d d) H (rx_flat h) q⟩
/-- == of numbers, truths, texts, None -/
def flatD : D → Option V
  | .non => some .non
  | .bl b => some (.bl b)
  | .int i => some (.int i)
  | .str x => some (.str x)
  | _ => none
theorem dt_flat {G : Addr → Prop} {H : Hp} {v u : V} {d : D} (h : Dt K cp G H v d) (e : flatD d = some u) : v = u := by
  rcases h with h | ⟨a, _, u, _, h⟩
  · cases d <;> first | (cases e; cases h; rfl) | cases e
  · cases h <;> cases e
theorem r2_eq {x y : D} {u v : V} (hx : flatD x = some u) (hy : flatD y = some v) (hs : scal u v = true) (q : ψ (.d (.bl (decide (u = v))))) : R2d K cp rEq x y ψ := fun G H a b Q ha hb k => by
  rw [dt_flat ha hx, dt_flat hb hy]
  exact ⟨hs, k _ (.d (.bl (decide (u = v)))) H (rx_flat (.bl _)) q⟩
theorem r2_ne {x y : D} {u v : V} (hx : flatD x = some u) (hy : flatD y = some v) (hs : scal u v = true) (q : ψ (.d (.bl (!decide (u = v))))) : R2d K cp rNe x y ψ := fun G H a b Q ha hb k => by
  rw [dt_flat ha hx, dt_flat hb hy]
  exact ⟨hs, k _ (.d (.bl (!decide (u = v)))) H (rx_flat (.bl _)) q⟩
/-- l[i], t[i] -/
theorem r2_ixT {xs : List D} {i : Int} {d : D} (h : atI xs i = some d) (q : ψ (.d d)) : R2d K cp (rIxT K) (.tup xs) (.int i) ψ := fun G H a b Q ha hb k => by
  obtain ⟨p, vs, rfl, r, dv⟩ := dt_tup ha
  obtain ⟨j, hj, hd⟩ : ∃ j : Nat, ixN xs.length i = some j ∧ xs[j]? = some d := by
    unfold atI at h
    cases e : ixN xs.length i with
    | none => rw [e] at h; cases h
    | some j => rw [e] at h; exact ⟨j, rfl, h⟩
  obtain ⟨v, hv, dd⟩ := dv.get hd
  exact ⟨p, vs, i, v, rfl, dt_int hb, r, (by unfold atI; rw [dv.len, hj]; exact hv), k v (.d d) H ⟨Ex.rfl' H, dd⟩ q⟩
end
end DD

end
section
set_option Elab.async false
set_option linter.all false
set_option maxRecDepth 100000
set_option maxHeartbeats 1000000
namespace DD
open PySem PySem.Spec PyProof.Rows L2 GL
section
variable {K : PySem.W.Frag} {cp : Cb} {X : XC} {ψ : AV → Prop} {G : Addr → Prop} {H H' : Hp} {v : V} {ρ : List SV} {Φ : AV → List SV → Prop}
theorem rx_id {d : D} (h : Dv K cp G H v d) : Rx K cp G H v (.d d) H := ⟨Ex.rfl' H, h⟩
theorem rx_new {p : Addr} {vs : List V} {ds : List D} (hp : H p = none) (h : DvA K cp G H vs ds) : Rx K cp G H (.ref p) (.n (.lst ds)) (upd H p (.lst vs)) :=
  ⟨p, rfl, hp, Ex.nw hp, _, upd_same, .lst (DvA.mv ((Mv.nw hp).tr (Mv.ex (Ex.nw hp))) _ _ h)⟩
/-- a new tuple: what stands at p is nobody's own -/
theorem rx_tup {p : Addr} {vs : List V} {ds : List D} (hp : H p = none) (tr : ¬ G p) (h : DvA K cp G H vs ds) : Rx K cp G H (.ref p) (.d (.tup ds)) (upd H p (.tup vs)) :=
  ⟨Ex.nw hp, .tup upd_same tr (DvA.mv (Mv.ex (Ex.nw hp)) _ _ h)⟩
theorem atI_dv {xs : List D} {vs : List V} {i : Int} {d : D} (dv : DvA K cp G H vs xs) (h : atI xs i = some d) : ∃ v, atI vs i = some v ∧ Dv K cp G H v d := by
  unfold atI at h ⊢
  rw [dv.len]
  cases e : ixN xs.length i with
  | none => rw [e] at h; cases h
  | some j => rw [e] at h; exact dv.get h
theorem r2_ixL {xs : List D} {i : Int} {d : D} (h : atI xs i = some d) (q : ψ (.d d)) : R2d K cp (rIxL K) (.lst xs) (.int i) ψ := fun G H a b Q ha hb k => by
  obtain ⟨p, vs, rfl, r, dv⟩ := dt_lst ha
  obtain ⟨v, hv, dd⟩ := atI_dv dv h
  exact ⟨p, vs, i, v, rfl, dt_int hb, .inl (.inl r), hv, k v (.d d) H (rx_id dd) q⟩
theorem r2_ix {x : D} {xs : List D} {i : Int} {d : D} (hx : seqD x = some xs) (h : atI xs i = some d) (q : ψ (.d d)) : R2d K cp (rIx K) x (.int i) ψ := fun G H a b Q ha hb k => by
  obtain ⟨p, vs, rfl, r, dv⟩ := dt_seq ha hx
  obtain ⟨v, hv, dd⟩ := atI_dv dv h
  rcases r with r | r
  · exact .inl ⟨p, vs, i, v, rfl, dt_int hb, r, hv, k v (.d d) H (rx_id dd) q⟩
  · exact .inr (.inl ⟨p, vs, i, v, rfl, dt_int hb, r, hv, k v (.d d) H (rx_id dd) q⟩)
/-- a list and a list, in one new one -/
theorem r2_cat {xs ys : List D} (hl : xs.length + ys.length ≤ sizeLine) (q : ψ (.n (.lst (xs ++ ys)))) : R2d K cp rCat (.lst xs) (.lst ys) ψ := fun G H a b Q ha hb k => by
  obtain ⟨p, vs, rfl, r, dv⟩ := dt_lst ha
  obtain ⟨p2, vs2, rfl, r2, dv2⟩ := dt_lst hb
  exact ⟨p, p2, vs, vs2, rfl, rfl, r, r2, by rw [dv.len, dv2.len]; exact hl, fun p hp => k _ (.n (.lst (xs ++ ys))) _ (rx_new hp (dv.app dv2)) q⟩
/-- what is told of tuples wants that a new one is nobody's own -/
def R2t (K : PySem.W.Frag) (cp : Cb) (r : R2) (x y : D) (ψ : AV → Prop) : Prop :=
  ∀ G H u v (Q : VK), Trk G H → Dt K cp G H u x → Dt K cp G H v y → (∀ w a H', Rx K cp G H w a H' → ψ a → Q w H') → r u v H Q
theorem Trk.no (t : Trk G H) {p : Addr} (h : H p = none) : ¬ G p := fun g => by obtain ⟨o, q, _⟩ := t p g; rw [h] at q; cases q
theorem dt_tupv {ds : List D} (h : Dt K cp G H v (.tup ds)) : Dv K cp G H v (.tup ds) := by
  rcases h with h | ⟨a, _, u, _, h⟩
  · exact h
  · cases h
theorem r2_catT {xs ys : List D} (hl : xs.length + ys.length ≤ sizeLine) (q : ψ (.d (.tup (xs ++ ys)))) : R2t K cp (rCatA K) (.tup xs) (.tup ys) ψ := fun G H a b Q tr ha hb k => by
  have fa := dt_tupv ha
  have fb := dt_tupv hb
  obtain ⟨p, vs, rfl, r, dv⟩ := dt_tup ha
  obtain ⟨p2, vs2, rfl, r2, dv2⟩ := dt_tup hb
  refine ⟨p, p2, vs, vs2, rfl, rfl, r, r2, by rw [dv.len, dv2.len]; exact hl, fun e => ?_, fun e e2 => ?_, fun _ _ p hp => k _ (.d (.tup (xs ++ ys))) _ (rx_tup hp (tr.no hp) (dv.app dv2)) q⟩
  · subst e; cases dv; exact k _ (.d (.tup ys)) H (rx_id fb) q
  · subst e2; cases dv2; rw [List.append_nil] at q; exact k _ (.d (.tup xs)) H (rx_id fa) q
theorem DE.opT {r : R2} {ta tb : TE} (h : DEo K cp X ta ρ fun x ρ1 => DEo K cp X tb ρ1 fun y ρ2 => ∃ d e, x.at ρ2 = some d ∧ y.at ρ2 = some e ∧ R2t K cp r d e fun a => Φ a ρ2) :
    DE K cp X (tOp r ta tb) ρ Φ := fun F A H0 H σ e hx Q k =>
  h.go e hx fun v x ρ1 H1 e1 m1 o1 h1 => h1.go e1 hx fun w y ρ2 H2 e2 m2 o2 ⟨d, d', ex, ey, rd⟩ =>
    rd _ _ _ _ _ e2.trk ((o1.mv m2).dt e2 ex) (o2.dt e2 ey) fun u a H3 x3 φ => k u a ρ2 H3 ((x3.res e2).tr (m1.tr m2)) φ
/-- list * int -/
theorem r2_rep {xs : List D} {n : Int} (h0 : -(2 ^ 63) ≤ n) (h1 : n < 2 ^ 63) (hl : xs.length * n.toNat ≤ sizeLine) (q : ψ (.n (.lst (List.replicate n.toNat xs).flatten))) : R2d K cp rRep (.lst xs) (.int n) ψ := fun G H a b Q ha hb k => by
  obtain ⟨p, vs, rfl, r, dv⟩ := dt_lst ha
  have dr : ∀ m : Nat, DvA K cp G H (List.replicate m vs).flatten (List.replicate m xs).flatten := by
    intro m
    induction m with
    | zero => exact .nil
    | succ m ih => rw [List.replicate_succ, List.replicate_succ, List.flatten_cons, List.flatten_cons]; exact dv.app ih
  refine ⟨p, n, vs, rfl, dt_int hb, r, h0, h1, by rw [dv.len]; exact hl, ?_⟩
  intro p hp
  have := k _ (.n (.lst (List.replicate n.toNat xs).flatten)) _ (rx_new hp (dr n.toNat)) q
  simpa using this
/-- x in a list or tuple of plain items -/
def flatL : List D → Option (List V)
  | [] => some []
  | d :: ds => match flatD d, flatL ds with
    | some v, some vs => some (v :: vs)
    | _, _ => none
theorem dva_flat : ∀ {vs us : List V} {ds : List D}, DvA K cp G H vs ds → flatL ds = some us → vs = us
  | [], _, [], _, h => by cases h; rfl
  | v :: vs, us, d :: ds, .cons a b, h => by
    simp only [flatL] at h
    split at h
    · rename_i u us' h1 h2
      cases h
      rw [dt_flat (.inl a) h1, dva_flat b h2]
    · cases h
theorem flatV_of {d : D} {u : V} (h : flatD d = some u) : flatV u = true := by cases d <;> cases h <;> rfl
theorem flatV_all : ∀ {ds : List D} {us : List V}, flatL ds = some us → us.all flatV = true
  | [], us, h => by cases h; rfl
  | d :: ds, us, h => by
    simp only [flatL] at h
    split at h
    · rename_i u us' h1 h2
      cases h
      rw [List.all_cons, flatV_of h1, flatV_all h2]; rfl
    · cases h
theorem r2_in {neg : Bool} {x y : D} {ys : List D} {u : V} {us : List V} (hx : flatD x = some u) (hy : seqD y = some ys) (hu : flatL ys = some us) (q : ψ (.d (.bl (if neg then !inV u us else inV u us)))) : R2d K cp (rIn K neg) x y ψ := fun G H a b Q ha hb k => by
  obtain ⟨p, vs, rfl, r, dv⟩ := dt_seq hb hy
  rw [dt_flat ha hx]
  have e := dva_flat dv hu
  subst e
  exact ⟨p, _, rfl, r, flatV_of hx, flatV_all hu, k _ (.d (.bl _)) H (rx_flat (.bl _)) q⟩
/-- is None -/
theorem r2_isN {x : D} {b : Bool} (hb : match x with | .non => b = true | _ => b = false) (q : ψ (.d (.bl b))) : R2d K cp (fun x y H Q => y = V.non ∧ Q (.bl (decide (x = V.non))) H) x .non ψ := fun G H u w Q hu hw k => by
  refine ⟨dt_flat hw rfl, k _ (.d (.bl b)) H ?_ q⟩
  have : decide (u = V.non) = b := by
    rcases hu with hu | ⟨a, rfl, u, _, hu⟩
    · cases hu <;> simp_all
    · cases hu <;> simp_all
  rw [this]
  exact rx_flat (.bl b)
theorem r2_notN {x : D} {b : Bool} (hb : match x with | .non => b = false | _ => b = true) (q : ψ (.d (.bl b))) : R2d K cp (fun x y H Q => y = V.non ∧ Q (.bl (!decide (x = V.non))) H) x .non ψ := fun G H u w Q hu hw k => by
  refine ⟨dt_flat hw rfl, k _ (.d (.bl b)) H ?_ q⟩
  have : (!decide (u = V.non)) = b := by
    rcases hu with hu | ⟨a, rfl, u, _, hu⟩
    · cases hu <;> simp_all
    · cases hu <;> simp_all
  rw [this]
  exact rx_flat (.bl b)
/-! ### built-ins -/
theorem dta1 {us : List V} {d : D} (h : DtA K cp G H us [d]) : ∃ u, us = [u] ∧ Dt K cp G H u d := by
  cases h with | cons a b => cases b; exact ⟨_, rfl, a⟩
theorem dta2 {us : List V} {d e : D} (h : DtA K cp G H us [d, e]) : ∃ u w, us = [u, w] ∧ Dt K cp G H u d ∧ Dt K cp G H w e := by
  cases h with | cons a b => cases b with | cons b c => cases c; exact ⟨_, _, rfl, a, b⟩
theorem rl_len {x : D} {xs : List D} (hx : seqD x = some xs) (q : ψ (.d (.int xs.length))) : RLd K cp (fun zs H Q => ∃ p ys, zs = [V.ref p] ∧ (SqL K H p ys ∨ SqT K H p ys) ∧ Q (V.int ↑(List.length ys)) H) [x] ψ := fun G H us Q h k => by
  obtain ⟨u, rfl, hu⟩ := dta1 h
  obtain ⟨p, vs, rfl, r, dv⟩ := dt_seq hu hx
  exact ⟨p, vs, rfl, r, by rw [dv.len]; exact k _ (.d (.int xs.length)) H (rx_flat (.int _)) q⟩
theorem rl_lenV {x : D} {n : Nat} (hx : match x with | .str y => y.length ≤ sizeLine ∧ n = y.length | d => (seqD d).map List.length = some n) (q : ψ (.d (.int n))) : RLd K cp (fun zs H Q => ∃ x n, zs = [x] ∧ LenV K x H n ∧ Q (V.int ↑n) H) [x] ψ := fun G H us Q h k => by
  obtain ⟨u, rfl, hu⟩ := dta1 h
  refine ⟨u, n, rfl, ?_, k _ (.d (.int n)) H (rx_flat (.int _)) q⟩
  cases x with
  | str y => rw [dt_str hu]; exact hx
  | lst xs => obtain ⟨p, vs, rfl, r, dv⟩ := dt_lst hu; cases hx; exact .inl ⟨vs, .inl (.inl r), dv.len.symm⟩
  | tup xs => obtain ⟨p, vs, rfl, r, dv⟩ := dt_tup hu; cases hx; exact .inr ⟨vs, r, dv.len.symm⟩
  | _ => cases hx
theorem ints_of : ∀ {ns : List Int} {vs : List V}, DvA K cp G H vs (ns.map D.int) → vs = ns.map V.int
  | [], [], _ => rfl
  | n :: ns, v :: vs, .cons a b => by rw [dv_int a, ints_of b]; rfl
theorem bls_of : ∀ {ns : List Bool} {vs : List V}, DvA K cp G H vs (ns.map D.bl) → vs = ns.map V.bl
  | [], [], _ => rfl
  | n :: ns, v :: vs, .cons a b => by rw [dv_bl a, bls_of b]; rfl
theorem strs_of : ∀ {ns : List Str} {vs : List V}, DvA K cp G H vs (ns.map D.str) → vs = ns.map V.str
  | [], [], _ => rfl
  | n :: ns, v :: vs, .cons a b => by rw [dv_str a, strs_of b]; rfl
theorem ints_dva : ∀ ns : List Int, DvA K cp G H (ns.map V.int) (ns.map D.int)
  | [] => .nil
  | n :: ns => .cons (.int n) (ints_dva ns)
theorem rl_sum {ns : List Int} (q : ψ (.d (.int ns.sum))) : RLd K cp (rSum K) [.lst (ns.map D.int)] ψ := fun G H us Q h k => by
  obtain ⟨u, rfl, hu⟩ := dta1 h
  obtain ⟨p, vs, rfl, r, dv⟩ := dt_lst hu
  rw [ints_of dv] at r
  exact ⟨p, ns, rfl, .inl (.inl r), k _ (.d (.int ns.sum)) H (rx_flat (.int _)) q⟩
theorem rl_all {ns : List Bool} (q : ψ (.d (.bl (ns.all id)))) : RLd K cp (rAll K) [.lst (ns.map D.bl)] ψ := fun G H us Q h k => by
  obtain ⟨u, rfl, hu⟩ := dta1 h
  obtain ⟨p, vs, rfl, r, dv⟩ := dt_lst hu
  rw [bls_of dv] at r
  exact ⟨p, ns, rfl, .inl (.inl r), k _ (.d (.bl (ns.all id))) H (rx_flat (.bl _)) q⟩
theorem rl_any {ns : List Bool} (q : ψ (.d (.bl (ns.any id)))) : RLd K cp (rAny K) [.lst (ns.map D.bl)] ψ := fun G H us Q h k => by
  obtain ⟨u, rfl, hu⟩ := dta1 h
  obtain ⟨p, vs, rfl, r, dv⟩ := dt_lst hu
  rw [bls_of dv] at r
  exact ⟨p, ns, rfl, .inl (.inl r), k _ (.d (.bl (ns.any id))) H (rx_flat (.bl _)) q⟩
theorem rl_min {ns : List Int} (h0 : 0 < ns.length) (q : ∀ m, m ∈ ns → (∀ y, y ∈ ns → m ≤ y) → ψ (.d (.int m))) : RLd K cp (rMin K) [.lst (ns.map D.int)] ψ := fun G H us Q h k => by
  obtain ⟨u, rfl, hu⟩ := dta1 h
  obtain ⟨p, vs, rfl, r, dv⟩ := dt_lst hu
  rw [ints_of dv] at r
  exact ⟨p, ns, rfl, .inl (.inl r), h0, fun m m1 m2 => k _ (.d (.int m)) H (rx_flat (.int _)) (q m m1 m2)⟩
theorem rl_max {ns : List Int} (h0 : 0 < ns.length) (q : ∀ m, m ∈ ns → (∀ y, y ∈ ns → y ≤ m) → ψ (.d (.int m))) : RLd K cp (rMax K) [.lst (ns.map D.int)] ψ := fun G H us Q h k => by
  obtain ⟨u, rfl, hu⟩ := dta1 h
  obtain ⟨p, vs, rfl, r, dv⟩ := dt_lst hu
  rw [ints_of dv] at r
  exact ⟨p, ns, rfl, .inl (.inl r), h0, fun m m1 m2 => k _ (.d (.int m)) H (rx_flat (.int _)) (q m m1 m2)⟩
theorem rl_min2 {i j : Int} (q : ψ (.d (.int (if j < i then j else i)))) : RLd K cp (fun xs H Q => ∃ i j, xs = [V.int i, V.int j] ∧ Q (V.int (if j < i then j else i)) H) [.int i, .int j] ψ := fun G H us Q h k => by
  obtain ⟨u, w, rfl, hu, hw⟩ := dta2 h
  exact ⟨i, j, by rw [dt_int hu, dt_int hw], k _ (.d (.int _)) H (rx_flat (.int _)) q⟩
theorem rl_max2 {i j : Int} (q : ψ (.d (.int (if i < j then j else i)))) : RLd K cp (fun xs H Q => ∃ i j, xs = [V.int i, V.int j] ∧ Q (V.int (if i < j then j else i)) H) [.int i, .int j] ψ := fun G H us Q h k => by
  obtain ⟨u, w, rfl, hu, hw⟩ := dta2 h
  exact ⟨i, j, by rw [dt_int hu, dt_int hw], k _ (.d (.int _)) H (rx_flat (.int _)) q⟩
def intOf : D → Option Int
  | .int i => some i
  | .bl b => some (if b = true then 1 else 0)
  | _ => none
theorem rl_int {x : D} {i : Int} (hx : intOf x = some i) (q : ψ (.d (.int i))) : RLd K cp (fun xs H Q => (∃ i, xs = [V.int i] ∧ Q (V.int i) H) ∨ ∃ k, xs = [V.bl k] ∧ Q (V.int (if k = true then 1 else 0)) H) [x] ψ := fun G H us Q h k => by
  obtain ⟨u, rfl, hu⟩ := dta1 h
  cases x with
  | int j => cases hx; exact .inl ⟨_, by rw [dt_int hu], k _ (.d (.int _)) H (rx_flat (.int _)) q⟩
  | bl b => cases hx; exact .inr ⟨_, by rw [dt_bl hu], k _ (.d (.int _)) H (rx_flat (.int _)) q⟩
  | _ => cases hx
theorem rl_str {i : Int} (hi : Nat.log2 (Int.natAbs i) < 1920) (q : ψ (.d (.str (Str.ofString (toString i))))) : RLd K cp (fun xs H Q => ∃ i, xs = [V.int i] ∧ Nat.log2 (Int.natAbs i) < 1920 ∧ Q (V.str (Str.ofString (toString i))) H) [.int i] ψ := fun G H us Q h k => by
  obtain ⟨u, rfl, hu⟩ := dta1 h
  exact ⟨i, by rw [dt_int hu], hi, k _ (.d (.str _)) H (rx_flat (.str _)) q⟩
theorem rl_list {x : D} {xs : List D} (hx : seqD x = some xs) (q : ψ (.n (.lst xs))) : RLd K cp (fun zs H Q => ∃ p ys, zs = [V.ref p] ∧ (SqL K H p ys ∨ SqT K H p ys) ∧ ∀ (l : Addr), H l = none → Q (V.ref l) (upd H l (HO.lst ys))) [x] ψ := fun G H us Q h k => by
  obtain ⟨u, rfl, hu⟩ := dta1 h
  obtain ⟨p, vs, rfl, r, dv⟩ := dt_seq hu hx
  exact ⟨p, vs, rfl, r, fun l hl => k _ (.n (.lst xs)) _ (rx_new hl dv) q⟩
def RLt (K : PySem.W.Frag) (cp : Cb) (r : List V → Hp → VK → Prop) (xs : List D) (ψ : AV → Prop) : Prop :=
  ∀ G H us (Q : VK), Trk G H → DtA K cp G H us xs → (∀ w a H', Rx K cp G H w a H' → ψ a → Q w H') → r us H Q
theorem DE.cbT {r : List V → Hp → VK → Prop} {ta : TA} (h : DAo K cp X ta ρ fun ps ρ1 => ∃ ds, ats ρ1 ps = some ds ∧ RLt K cp r ds fun a => Φ a ρ1) : DE K cp X (tCB r ta) ρ Φ := fun F A H0 H σ e hx Q k =>
  h F A H0 H σ e hx _ fun vs ps ρ1 H1 e1 m1 o1 ⟨ds, hd, rd⟩ => rd _ _ _ _ e1.trk (ats_ok e1 o1 hd) fun u a H2 x2 φ => k u a ρ1 H2 ((x2.res e1).tr m1) φ
theorem rl_tuple {x : D} {xs : List D} (hx : seqD x = some xs) (q : ψ (.d (.tup xs))) : RLt K cp (fun zs H Q => ∃ p ys, zs = [V.ref p] ∧ ((SqL K H p ys ∧ ∀ (l : Addr), H l = none → Q (V.ref l) (upd H l (HO.tup ys))) ∨ SqT K H p ys ∧ Q (V.ref p) H)) [x] ψ := fun G H us Q tr h k => by
  obtain ⟨u, rfl, hu⟩ := dta1 h
  cases x with
  | lst ds =>
    cases hx
    obtain ⟨p, vs, rfl, r, dv⟩ := dt_lst hu
    exact ⟨p, vs, rfl, .inl ⟨.inl (.inl r), fun l hl => k _ (.d (.tup _)) _ (rx_tup hl (tr.no hl) dv) q⟩⟩
  | tup ds =>
    cases hx
    have f := dt_tupv hu
    obtain ⟨p, vs, rfl, r, dv⟩ := dt_tup hu
    exact ⟨p, vs, rfl, .inr ⟨r, k _ (.d (.tup _)) H (rx_id f) q⟩⟩
  | _ => cases hx
theorem rl_sorted {ns : List Int} (q : ∀ ns' : List Int, ns'.Perm ns → ns'.Pairwise (· ≤ ·) → ψ (.n (.lst (ns'.map D.int)))) : RLd K cp (rSortedI K) [.lst (ns.map D.int)] ψ := fun G H us Q h k => by
  obtain ⟨u, rfl, hu⟩ := dta1 h
  obtain ⟨p, vs, rfl, r, dv⟩ := dt_lst hu
  rw [ints_of dv] at r
  exact ⟨p, ns, rfl, .inl (.inl r), fun ns' l h1 h2 hl => k _ (.n (.lst (ns'.map D.int))) _ (rx_new hl (ints_dva ns')) (q ns' h1 h2)⟩
/-! ### types -/
def tyD : D → String
  | .non => "NoneType" | .bl _ => "bool" | .int _ => "int" | .str _ => "str" | .lst _ => "list" | .tup _ => "tuple" | .dk _ _ => "dict" | .ob _ _ _ => "" | .lk _ => "" | .dt _ _ => ""
/-- no instance, no mere place -/
def Nob : D → Prop
  | .ob _ _ _ => False
  | .lk _ => False
  | .dt _ _ => False
  | _ => True
theorem ty_dv {d : D} (h : Dt K cp G H v d) (n : Nob d) (kt : ∀ (a : Addr) (vs : List V), (∀ H', SqT K H' a vs) → ∃ o, K.lookup a = some o ∧ o.cls = .type "tuple") : TyX K H v (.type (tyD d)) := by
  rcases h with h | ⟨a, rfl, u, h1, h⟩
  · cases h with
    | non => exact .base .non
    | bl b => exact .base (.bl b)
    | int i => exact .base (.int i)
    | str z => exact .base (.str z)
    | lst e _ _ => exact .base (.lst e)
    | tup e _ _ => exact .base (.tup e)
    | kt e _ _ => obtain ⟨o, h1, h2⟩ := kt _ _ e; exact .kTuple h1 h2
    | dk e _ _ _ =>
      rcases e with e | ⟨o, e⟩
      · exact .base (.dK e)
      · exact .fDict e
    | ob _ _ _ _ => exact n.elim
    | lk _ => exact n.elim
    | dt _ _ _ _ => exact n.elim
  · cases h with
    | lst _ => exact .base (.lst h1)
    | dk _ _ => exact .base (.dK h1)
    | ob _ _ => exact n.elim
    | dt _ _ => exact n.elim
theorem kt_cls {a : Addr} {vs : List V} (h : ∀ H', SqT K H' a vs) : ∃ o, K.lookup a = some o ∧ o.cls = .type "tuple" := by
  rcases h (fun _ => none) with r | ⟨o, us, n, h1, h2, _⟩
  · rcases r with r | ⟨_, r⟩ <;> cases r
  · exact ⟨_, h1, h2⟩
theorem kinds_ty {d : D} (n : Nob d) : tyD d ∈ kinds := by
  cases d with
  | ob c ns ds => exact n.elim
  | lk a => exact n.elim
  | dt _ _ => exact n.elim
  | _ => simp [tyD, kinds]
/-- isinstance(x, C) -/
theorem rl_isi {x : D} {c : String} {b : Bool} (nx : Nob x) (hc : c ∈ ["int", "bool", "str", "list", "tuple", "dict"]) (hb : isT (tyD x) c = b) (q : ψ (.d (.bl b))) {te : TE} (hte : DEo K cp X te ρ fun p ρ1 => p.at ρ1 = some x ∧ Φ (.d (.bl b)) ρ1) :
    DE K cp X (tCB (rIsi K) (tCons te (tCons (tC (.ty c)) tNil))) ρ Φ := fun F A H0 H σ e hx Q k =>
  hte.go e hx fun v p ρ1 H1 e1 m1 o1 ⟨hp, φ⟩ => by
    refine ⟨v, .ty c, _, _, b, rfl, .ty c, ty_dv (o1.dt e1 hp) nx fun a vs h => kt_cls h, ?_, k _ (.d (.bl b)) ρ1 H1 ⟨e1, m1, .bl b⟩ φ⟩
    rw [← hb]
    exact kit_ty (kit_all _ (kinds_ty nx) c hc)
theorem DE.isi {x : D} {c : String} (hc : c ∈ ["int", "bool", "str", "list", "tuple", "dict"]) (nx : Nob x) {te : TE} (hte : DEo K cp X te ρ fun p ρ1 => p.at ρ1 = some x ∧ Φ (.d (.bl (isT (tyD x) c))) ρ1) :
    DE K cp X (tCB (rIsi K) (tCons te (tCons (tC (.ty c)) tNil))) ρ Φ := rl_isi (ψ := fun _ => True) nx hc rfl trivial hte
/-- isinstance(x, (C, D)) -/
theorem DE.isi2 {x : D} {c d : String} (hc : c ∈ ["int", "bool", "str", "list", "tuple", "dict"]) (hd : d ∈ ["int", "bool", "str", "list", "tuple", "dict"]) (nx : Nob x) {te : TE} (hte : DEo K cp X te ρ fun p ρ1 => p.at ρ1 = some x ∧ Φ (.d (.bl (isT (tyD x) c || isT (tyD x) d))) ρ1) :
    DE K cp X (tCB (rIsiT K) (tCons te (tCons (tTup (tCons (tC (.ty c)) (tCons (tC (.ty d)) tNil))) tNil))) ρ Φ := fun F A H0 H σ e hx Q k =>
  hte.go e hx fun v p ρ1 H1 e1 m1 o1 ⟨hp, φ⟩ => by
    refine ⟨(show 2 ≤ sizeLine by decide), fun t ht => ?_⟩
    have ex : Ex H1 (upd H1 t (.tup [.ty c, .ty d])) := Ex.nw ht
    refine ⟨v, t, [.ty c, .ty d], _, [.type c, .type d], isT (tyD x) c || isT (tyD x) d, rfl, upd_same, .cons (.ty c) (.cons (.ty d) .nil), ty_dv (OPv.dt (e1.ex ex) (o1.mv (Mv.ex ex)) hp) nx fun a vs h => kt_cls h, ?_, k _ (.d (.bl _)) ρ1 _ ⟨e1.ex ex, m1.tr (Mv.ex ex), .bl _⟩ φ⟩
    refine kitAny_cons (kit_ty (kit_all _ (kinds_ty nx) c hc)) (fun e => ?_) fun e => by rw [e]; rfl
    rw [e, Bool.false_or]
    refine kitAny_cons (kit_ty (kit_all _ (kinds_ty nx) d hd)) (fun e2 => ?_) fun e2 => e2
    rw [e2]; exact kitAny_nil
/-- x.bit_length() -/
theorem DE.bits {te : TE} (h : DEs K cp X te ρ fun d ρ1 => ∃ i : Int, d = .int i ∧ Φ (.d (.int (Builtin.Int.intBits i : Nat))) ρ1) : DE K cp X (tBits te) ρ Φ := fun F A H0 H σ e hx Q k =>
  h.go e hx fun v d ρ1 H1 e1 m1 dv ⟨i, hd, φ⟩ => by
    subst hd
    exact ⟨i, dv_int dv, k _ (.d (.int _)) ρ1 H1 ⟨e1, m1, .int _⟩ φ⟩
/-- x.f -/
def lookD (f : Str) : List Str → List D → Option D
  | n :: ns, d :: ds => if f == n then some d else lookD f ns ds
  | _, _ => none
theorem look_dva : ∀ {fs : List (Str × V)} {ds : List D} {f : Str} {d : D}, DvA K cp G H (fs.map (·.2)) ds → lookD f (fs.map (·.1)) ds = some d → ∃ v, fs.lookup f = some v ∧ Dv K cp G H v d
  | [], ds, f, d, _, h => by cases ds <;> cases h
  | (n, v) :: fs, d0 :: ds, f, d, .cons a b, h => by
    simp only [List.map_cons, lookD] at h
    simp only [List.lookup]
    cases e : f == n with
    | true => rw [e] at h; cases h; exact ⟨v, rfl, a⟩
    | false => rw [e] at h; exact look_dva (fs := fs) b h
theorem DE.fld {te : TE} {f : Str} (h : DEs K cp X te ρ fun d ρ1 => ∃ c ns ds x, d = .ob c ns ds ∧ Cls K (cp.c c) ∧ NoAttr K (cp.c c) f ∧ lookD f ns ds = some x ∧ Φ (.d x) ρ1) : DE K cp X (tFld K te f) ρ Φ := fun F A H0 H σ e hx Q k =>
  h.go e hx fun v d ρ1 H1 e1 m1 dv ⟨c, ns, ds, x, hd, hc, hn, hl, φ⟩ => by
    subst hd
    cases dv with
    | @ob a dx _ fs _ _ h1 n e2 h2 =>
      subst e2
      obtain ⟨w, hw, dw⟩ := look_dva h2 hl
      exact ⟨a, cp.c c, dx, fs, w, rfl, h1, hc, hn, hw, k _ (.d x) ρ1 H1 ⟨e1, m1, dw⟩ φ⟩
end
end DD

end
section
set_option Elab.async false
set_option linter.all false
set_option maxRecDepth 100000
set_option maxHeartbeats 1000000
namespace DD
open PySem PySem.Spec PyProof.Rows L2 GL
section
variable {K : PySem.W.Frag} {cp : Cb} {X : XC} {ψ : AV → Prop} {F : Addr → Prop} {A : Pass} {G : Addr → Prop} {H0 H H' H1 : Hp} {σ : L2.St} {v : V} {ρ ρ1 : List SV} {Φ : AV → List SV → Prop} {N : List SV → Prop} {R : AV → List SV → Prop} {B C : List SV → Prop}
theorem own_lst (e : En K cp F A H0 H σ ρ) {i : Nat} {b : Bool} {ds : List D} {a : Addr} (h : ρ[i]? = some (.ow b (.lst ds))) (ha : σ[i]? = some (some (.ref a))) : ∃ vs, H a = some (.lst vs) ∧ DvA K cp (Gv F σ ρ) H vs ds := by
  obtain ⟨a', q1, u, q2, q3⟩ := e.sl i _ h
  rw [ha] at q1; cases q1
  cases q3 with | lst q3 => exact ⟨_, q2, q3⟩
theorem own_dk (e : En K cp F A H0 H σ ρ) {i : Nat} {b : Bool} {ks : List Key} {ds : List D} {a : Addr} (h : ρ[i]? = some (.ow b (.dk ks ds))) (ha : σ[i]? = some (some (.ref a))) : ∃ kvs, H a = some (.dK kvs) ∧ kvs.map (·.1) = ks ∧ DvA K cp (Gv F σ ρ) H (kvs.map (·.2)) ds := by
  obtain ⟨a', q1, u, q2, q3⟩ := e.sl i _ h
  rw [ha] at q1; cases q1
  cases q3 with | dk q3 q4 => exact ⟨_, q2, q3, q4⟩
theorem own_ob (e : En K cp F A H0 H σ ρ) {i : Nat} {b : Bool} {c : Nat} {ns : List Str} {ds : List D} {a : Addr} (h : ρ[i]? = some (.ow b (.ob c ns ds))) (ha : σ[i]? = some (some (.ref a))) : ∃ dx fs, H a = some (.ins (cp.c c) dx fs) ∧ fs.map (·.1) = ns ∧ DvA K cp (Gv F σ ρ) H (fs.map (·.2)) ds := by
  obtain ⟨a', q1, u, q2, q3⟩ := e.sl i _ h
  rw [ha] at q1; cases q1
  cases q3 with | ob q3 q4 => exact ⟨_, _, q2, q3, q4⟩
/-- xs.append(e), xs a name's own list -/
theorem DE.append {i : Nat} {te : TE} (h : (∃ b ds, ρ[i]? = some (.ow b (.lst ds))) ∧ DEs K cp X te ρ fun y ρ2 => ∃ b ds, ρ2[i]? = some (.ow b (.lst ds)) ∧ ds.length < sizeLine ∧ Φ (.d .non) (ρ2.set i (.ow b (.lst (ds ++ [y]))))) :
    DE K cp X (tBM K "list" rAppend (tVar i) (tCons te tNil)) ρ Φ := fun F A H0 H σ e hx Q k => by
  obtain ⟨⟨b, ds, hb⟩, h⟩ := h
  obtain ⟨a, ha, _⟩ := e.sl i _ hb
  obtain ⟨vs, q1, q2⟩ := own_lst e hb ha
  refine ⟨_, ha, .inl ⟨rfl, vs, .inl (.inl q1)⟩, h.go e hx fun w y ρ2 H2 e2 m2 dy ⟨b, ds, hb, hl, φ⟩ => ?_⟩
  obtain ⟨vs, q1, q2⟩ := own_lst e2 hb ha
  obtain ⟨e3, m3⟩ := en_upd1 (o' := .lst (vs ++ [w])) e2 hb ha (.lst (q2.app (.cons dy .nil)))
  exact ⟨a, vs, w, rfl, rfl, q1, by rw [q2.len]; exact hl, k _ (.d .non) _ _ ⟨e3, m2.tr m3, .non⟩ φ⟩
/-- xs.extend(ys) -/
theorem DE.extend {i : Nat} {te : TE} (h : (∃ b ds, ρ[i]? = some (.ow b (.lst ds))) ∧ DEs K cp X te ρ fun y ρ2 => ∃ b ds es, y = .lst es ∧ ρ2[i]? = some (.ow b (.lst ds)) ∧ ds.length + es.length ≤ sizeLine ∧ Φ (.d .non) (ρ2.set i (.ow b (.lst (ds ++ es))))) :
    DE K cp X (tBM K "list" rExtend (tVar i) (tCons te tNil)) ρ Φ := fun F A H0 H σ e hx Q k => by
  obtain ⟨⟨b, ds, hb⟩, h⟩ := h
  obtain ⟨a, ha, _⟩ := e.sl i _ hb
  obtain ⟨vs, q1, q2⟩ := own_lst e hb ha
  refine ⟨_, ha, .inl ⟨rfl, vs, .inl (.inl q1)⟩, h.go e hx fun w y ρ2 H2 e2 m2 dy ⟨b, ds, es, hy, hb, hl, φ⟩ => ?_⟩
  subst hy
  obtain ⟨vs, q1, q2⟩ := own_lst e2 hb ha
  cases dy with
  | @lst a2 ws _ r1 r2 r3 =>
    obtain ⟨e3, m3⟩ := en_upd1 (o' := .lst (vs ++ ws)) e2 hb ha (.lst (q2.app r3))
    exact ⟨a, a2, vs, ws, rfl, rfl, q1, r1, by rw [q2.len, r3.len]; exact hl, k _ (.d .non) _ _ ⟨e3, m2.tr m3, .non⟩ φ⟩
/-- xs[n] = e -/
theorem DS.setL {i : Nat} {te ti : TE} (h : DEs K cp X te ρ fun y ρ1 => (∃ b c, ρ1[i]? = some (.ow b c)) ∧ DEs K cp X ti ρ1 fun z ρ2 => ∃ n b ds j, z = .int n ∧ ρ2[i]? = some (.ow b (.lst ds)) ∧ ixN ds.length n = some j ∧ N (ρ2.set i (.ow b (.lst (ds.set j y))))) :
    DS K cp X (tAsg te (gSub (tVar i) ti rSetL)) ρ N R B C := fun F A H0 H σ e hx Dd n r b c =>
  h.go e (hx _) fun v y ρ1 H1 e1 m1 dv ⟨⟨b, c, hb⟩, q⟩ => by
    obtain ⟨a, ha, _⟩ := e1.sl i _ hb
    refine ⟨_, ha, DEs.go (show DEs K cp X ti ρ1 _ from q) e1 (hx _) fun w z ρ2 H2 e2 m2 dz ⟨j, b, ds, t, hz, hb, hj, hn⟩ => ?_⟩
    subst hz
    obtain ⟨vs, q1, q2⟩ := own_lst e2 hb ha
    obtain ⟨e3, m3⟩ := en_upd1 (o' := .lst (vs.set t v)) e2 hb ha (.lst (q2.set (Dv.mv m2 _ _ dv) t))
    exact ⟨a, vs, j, t, rfl, dv_int dz, q1, by rw [q2.len]; exact hj, n _ _ _ e3 (m1.tr (m2.tr m3)) hn⟩
/-! ### dicts -/
def lookK {κ : Type} [DecidableEq κ] : List κ → List D → κ → Option D
  | k0 :: ks, d :: ds, k => if k0 = k then some d else lookK ks ds k
  | _, _, _ => none
theorem lookK_ok {κ : Type} [DecidableEq κ] : ∀ {kvs : List (κ × V)} {ds : List D} {k : κ}, DvA K cp G H (kvs.map (·.2)) ds → match lookK (kvs.map (·.1)) ds k with | some d => ∃ v, valV kvs k = some v ∧ Dv K cp G H v d | none => valV kvs k = none
  | [], ds, k, h => by cases ds <;> simp [lookK, valV]
  | (k0, v) :: kvs, [], k, h => by cases h
  | (k0, v) :: kvs, d :: ds, k, .cons a b => by
    have ih := lookK_ok (kvs := kvs) (k := k) b
    simp only [List.map_cons, lookK]
    by_cases e : k0 = k
    · rw [if_pos e]
      exact ⟨v, by simp [valV, e], a⟩
    · rw [if_neg e]
      have e2 : valV ((k0, v) :: kvs) k = valV kvs k := by simp [valV, e]
      rw [e2]
      exact ih
def putKs {κ : Type} [DecidableEq κ] (ks : List κ) (k : κ) : List κ := if (ks.any fun x => decide (x = k)) = true then ks else ks ++ [k]
theorem any_key {κ : Type} [DecidableEq κ] {ks : List κ} {k : κ} : (ks.any fun x => decide (x = k)) = true ↔ k ∈ ks := by
  rw [List.any_eq_true]
  exact ⟨fun ⟨x, hx, e⟩ => by rw [← of_decide_eq_true e]; exact hx, fun h => ⟨k, h, decide_eq_true rfl⟩⟩
def putDs {κ : Type} [DecidableEq κ] : List κ → List D → κ → D → List D
  | k0 :: ks, d0 :: ds, k, d => if k0 = k then d :: ds else d0 :: putDs ks ds k d
  | _, _, _, d => [d]
/-- behind d[k] = v: one place a key -/
theorem put_ok {κ : Type} [DecidableEq κ] {v : V} {d : D} (dv : Dv K cp G H v d) {kvs : List (κ × V)} {ds : List D} {k : κ} (hn : (kvs.map (·.1)).Nodup) (h : DvA K cp G H (kvs.map (·.2)) ds) :
    (putK kvs k v).map (·.1) = putKs (kvs.map (·.1)) k ∧ DvA K cp G H ((putK kvs k v).map (·.2)) (putDs (kvs.map (·.1)) ds k d) := by
  have hany : (kvs.any fun kv => decide (kv.1 = k)) = true ↔ k ∈ kvs.map (·.1) := by
    rw [List.any_eq_true]
    constructor
    · rintro ⟨p, hp, e⟩
      exact List.mem_map.mpr ⟨p, hp, of_decide_eq_true e⟩
    · intro h
      obtain ⟨p, hp, e⟩ := List.mem_map.mp h
      exact ⟨p, hp, decide_eq_true e⟩
  by_cases hm : k ∈ kvs.map (·.1)
  · have e1 : putK kvs k v = kvs.map (fun kv => if kv.1 = k then (kv.1, v) else kv) := by unfold putK; rw [if_pos (hany.mpr hm)]
    rw [e1]
    unfold putKs
    rw [if_pos (any_key.mpr hm)]
    refine ⟨?_, ?_⟩
    · rw [List.map_map]
      apply List.map_congr_left
      intro p _
      simp only [Function.comp]
      split <;> rfl
    · clear e1 hany
      induction kvs generalizing ds with
      | nil => simp at hm
      | cons p kvs ih =>
        obtain ⟨k0, v0⟩ := p
        cases h with
        | @cons _ _ d0 ds a b =>
          have hn' := List.nodup_cons.mp hn
          simp only [List.map_cons, putDs]
          by_cases e : k0 = k
          · subst e
            rw [if_pos rfl, if_pos rfl]
            refine .cons dv ?_
            have : ∀ p ∈ kvs, (if p.1 = k0 then (p.1, v) else p) = p := fun p hp => by
              rw [if_neg]
              intro z
              exact hn'.1 (by rw [← z]; exact List.mem_map.mpr ⟨p, hp, rfl⟩)
            rw [List.map_congr_left this, List.map_id']
            exact b
          · rw [if_neg e, if_neg e]
            exact .cons a (ih hn'.2 b (by
              rcases List.mem_cons.mp hm with h | h
              · exact absurd h.symm e
              · exact h))
  · have e1 : putK kvs k v = kvs ++ [(k, v)] := by
      unfold putK
      rw [if_neg (fun z => hm (hany.mp z))]
    rw [e1]
    unfold putKs
    rw [if_neg (fun z => hm (any_key.mp z))]
    refine ⟨by simp, ?_⟩
    clear e1 hany hn
    induction kvs generalizing ds with
    | nil => cases h; exact .cons dv .nil
    | cons p kvs ih =>
      obtain ⟨k0, v0⟩ := p
      cases h with
      | @cons _ _ d0 ds a b =>
        have e : k0 ≠ k := fun z => hm (by rw [z]; exact List.mem_cons_self)
        simp only [List.map_cons, putDs, List.cons_append]
        rw [if_neg e]
        exact .cons a (ih b fun z => hm (List.mem_cons_of_mem _ z))
theorem dt_dk {ks : List Key} {ds : List D} (h : Dt K cp G H v (.dk ks ds)) : ∃ a kvs, v = .ref a ∧ Rd H a (.dK kvs) ∧ kvs.map (·.1) = ks ∧ DvA K cp G H (kvs.map (·.2)) ds := by
  rcases h with h | ⟨a, rfl, u, h1, h⟩
  · cases h with | @dk a kvs _ _ h1 n e h2 => exact ⟨a, kvs, rfl, h1, e, h2⟩
  · cases h with | dk e h2 => exact ⟨a, _, rfl, .inl h1, e, h2⟩
/-- d.get(k, e) -/
def keyOf : D → Option Key
  | .int i => some (.inl i)
  | .str x => some (.inr x)
  | _ => none
theorem key_dv {k : Key} {d : D} (h : keyOf d = some k) (dv : Dv K cp G H v d) : v = kV k := by
  cases d <;> cases h <;> cases dv <;> rfl
theorem DE.get2 {td ty tx : TE} (h : DEo K cp X td ρ fun p ρ1 => (∃ ks ds, p.at ρ1 = some (.dk ks ds)) ∧ DEs K cp X ty ρ1 fun y ρ2 => DEs K cp X tx ρ2 fun z ρ3 => ∃ ks ds k, p.at ρ3 = some (.dk ks ds) ∧ keyOf y = some k ∧ Φ (.d ((lookK ks ds k).getD z)) ρ3) :
    DE K cp X (tDGet2 td ty tx) ρ Φ := fun F A H0 H σ e hx Q k =>
  h.go e hx fun v p ρ1 H1 e1 m1 o1 ⟨⟨ks, ds, hp⟩, q⟩ => by
    obtain ⟨a, kvs, rfl, r, _⟩ := dt_dk (o1.dt e1 hp)
    refine ⟨a, rfl, .inl ⟨kvs, r⟩, DEs.go (show DEs K cp X ty ρ1 _ from q) e1 hx fun w y ρ2 H2 e2 m2 dy q2 => DEs.go (show DEs K cp X tx ρ2 _ from q2) e2 hx fun u z ρ3 H3 e3 m3 dz ⟨ks, ds, kk, hp3, hk, φ⟩ => ?_⟩
    obtain ⟨a', kvs, q1, r, ek, dv⟩ := dt_dk (((o1.mv m2).mv m3).dt e3 hp3)
    cases q1
    have z := lookK_ok (k := kk) dv
    rw [ek] at z
    refine ⟨valV kvs kk, .inl ⟨kvs, kk, r, key_dv hk (Dv.mv m3 _ _ dy), rfl⟩, ?_⟩
    cases hl : lookK ks ds kk with
    | none =>
      rw [hl] at z φ
      rw [show valV kvs kk = none from z]
      exact k _ (.d _) ρ3 H3 ⟨e3, m1.tr (m2.tr m3), dz⟩ φ
    | some d =>
      rw [hl] at z φ
      obtain ⟨x, hx, dx⟩ := z
      rw [hx]
      exact k _ (.d d) ρ3 H3 ⟨e3, m1.tr (m2.tr m3), dx⟩ φ
/-- d[k], k there -/
theorem DE.dget {td ty : TE} (h : DEo K cp X td ρ fun p ρ1 => DEs K cp X ty ρ1 fun y ρ2 => ∃ ks ds k d, p.at ρ2 = some (.dk ks ds) ∧ keyOf y = some k ∧ lookK ks ds k = some d ∧ Φ (.d d) ρ2) :
    DE K cp X (tDGet td ty) ρ Φ := fun F A H0 H σ e hx Q k =>
  h.go e hx fun v p ρ1 H1 e1 m1 o1 q => DEs.go (show DEs K cp X ty ρ1 _ from q) e1 hx fun w y ρ2 H2 e2 m2 dy ⟨ks, ds, kk, d, hp, hk, hl, φ⟩ => by
    obtain ⟨a, kvs, rfl, r, ek, dv⟩ := dt_dk ((o1.mv m2).dt e2 hp)
    have z := lookK_ok (k := kk) dv
    rw [ek, hl] at z
    obtain ⟨x, hx, dx⟩ := z
    exact ⟨a, x, rfl, .inl ⟨kvs, kk, r, key_dv hk dy, hx.symm⟩, k _ (.d d) ρ2 H2 ⟨e2, m1.tr m2, dx⟩ φ⟩
/-- k in d -/
theorem DE.din {ty td : TE} (h : DEs K cp X ty ρ fun y ρ1 => DEo K cp X td ρ1 fun p ρ2 => ∃ ks ds k, p.at ρ2 = some (.dk ks ds) ∧ keyOf y = some k ∧ Φ (.d (.bl (lookK ks ds k).isSome)) ρ2) :
    DE K cp X (tDIn ty td) ρ Φ := fun F A H0 H σ e hx Q k =>
  h.go e hx fun w y ρ1 H1 e1 m1 dy q => DEo.go (show DEo K cp X td ρ1 _ from q) e1 hx fun v p ρ2 H2 e2 m2 o2 ⟨ks, ds, kk, hp, hk, φ⟩ => by
    obtain ⟨a, kvs, rfl, r, ek, dv⟩ := dt_dk (o2.dt e2 hp)
    have z := lookK_ok (k := kk) dv
    rw [ek] at z
    refine ⟨a, valV kvs kk, rfl, .inl ⟨kvs, kk, r, key_dv hk (Dv.mv m2 _ _ dy), rfl⟩, ?_⟩
    cases hl : lookK ks ds kk with
    | none =>
      rw [hl] at z φ
      rw [show valV kvs kk = none from z]
      exact k _ (.d (.bl false)) ρ2 H2 ⟨e2, m1.tr m2, .bl _⟩ φ
    | some d =>
      rw [hl] at z φ
      obtain ⟨x, hx, dx⟩ := z
      rw [hx]
      exact k _ (.d (.bl true)) ρ2 H2 ⟨e2, m1.tr m2, .bl _⟩ φ
/-! ### slots of ints, two or three names at once -/
theorem DS.aug {i : Nat} {te : TE} {f : Int → Int → Int} (h : ∃ a : Int, ρ[i]? = some (.sh (.int a)) ∧ DEs K cp X te ρ fun y ρ1 => ∃ b : Int, y = .int b ∧ free ρ1 i ∧ N (ρ1.set i (.sh (.int (f a b))))) : DS K cp X (tAug i te (ipI f)) ρ N R B C := fun F A H0 H σ e hx Dd n r b c => by
  obtain ⟨a, ha, h⟩ := h
  obtain ⟨v, hv, dv⟩ := e.sl i _ ha
  refine ⟨v, hv, h.go e (hx _) fun w y ρ1 H1 e1 m1 dy ⟨b, hy, hf, q⟩ => ?_⟩
  subst hy
  refine ⟨a, b, dv_int dv, dv_int dy, ?_⟩
  exact n _ _ H1 (e1.set hf (.inl ⟨_, _, rfl, rfl, .int _⟩)) (m1.tr (Mv.sub (gv_set (by rintro b ds z; cases z)))) q
theorem free_set {i j : Nat} {s : SV} (hi : i < ρ.length) (ns : ∀ b c, s ≠ .ow b c) (h : free ρ j) (nt : ∀ b t, s ≠ .dp b t := by intro _ _ z; cases z) : free (ρ.set i s) j := ⟨by rw [List.length_set]; exact h.1, fun ds z => (by
  by_cases w : i = j
  · subst w; rw [List.getElem?_set_self hi] at z; cases z; exact ns _ _ rfl
  · rw [List.getElem?_set_ne w] at z; exact h.2.1 ds z), fun t z => (by
  by_cases w : i = j
  · subst w; rw [List.getElem?_set_self hi] at z; cases z; exact nt _ _ rfl
  · rw [List.getElem?_set_ne w] at z; exact h.2.2 t z)⟩
theorem DS.par {i j : Nat} {ta : TA} (h : DAo K cp X ta ρ fun ps ρ1 => ∃ d e, oks ps = some [d, e] ∧ free ρ1 i ∧ free ρ1 j ∧ N ((ρ1.set i (.sh d)).set j (.sh e))) : DS K cp X (tPar i j ta) ρ N R B C := fun F A H0 H σ e hx Dd n r b c =>
  h F A H0 H σ e (hx _) _ fun vs ps ρ1 H1 e1 m1 o1 ⟨d, d', hp, fi, fj, q⟩ => by
    have z := oks_ok o1 hp
    cases z with
    | @cons v _ _ _ z1 z2 =>
      cases z2 with
      | @cons w _ _ _ z2 z3 =>
        cases z3
        refine ⟨v, w, rfl, ?_⟩
        have e2 := e1.set fi (.inl ⟨d, v, rfl, rfl, z1⟩)
        have s1 : ∀ a, Gv F (σ.set i (some v)) (ρ1.set i (.sh d)) a → Gv F σ ρ1 a := gv_set (by rintro b ds z; cases z)
        have fj2 : free (ρ1.set i (.sh d)) j := free_set fi.1 (by intro _ _ z; cases z) fj
        have e3 := e2.set fj2 (.inl ⟨d', w, rfl, rfl, Dv.mv (Mv.sub s1) _ _ z2⟩)
        have s2 : ∀ a, Gv F ((σ.set i (some v)).set j (some w)) ((ρ1.set i (.sh d)).set j (.sh d')) a → Gv F (σ.set i (some v)) (ρ1.set i (.sh d)) a := gv_set (by rintro b ds z; cases z)
        exact n _ _ H1 e3 (m1.tr (Mv.sub fun a g => s1 a (s2 a g))) q
theorem DS.par3 {i j l : Nat} {ta : TA} (h : DAo K cp X ta ρ fun ps ρ1 => ∃ d e f, oks ps = some [d, e, f] ∧ free ρ1 i ∧ free ρ1 j ∧ free ρ1 l ∧ N (((ρ1.set i (.sh d)).set j (.sh e)).set l (.sh f))) : DS K cp X (tPar3 i j l ta) ρ N R B C := fun F A H0 H σ e hx Dd n r b c =>
  h F A H0 H σ e (hx _) _ fun vs ps ρ1 H1 e1 m1 o1 ⟨d, d', d'', hp, fi, fj, fl, q⟩ => by
    have z := oks_ok o1 hp
    cases z with
    | @cons v _ _ _ z1 z2 =>
      cases z2 with
      | @cons w _ _ _ z2 z3 =>
        cases z3 with
        | @cons u _ _ _ z3 z4 =>
          cases z4
          refine ⟨v, w, u, rfl, ?_⟩
          have nsh : ∀ {d : D} (b : Bool) (c : D), SV.sh d ≠ .ow b c := by rintro d b c z; cases z
          have e2 := e1.set fi (.inl ⟨d, v, rfl, rfl, z1⟩)
          have s1 : ∀ a, Gv F (σ.set i (some v)) (ρ1.set i (.sh d)) a → Gv F σ ρ1 a := gv_set nsh
          have fj2 := free_set (s := .sh d) fi.1 nsh fj
          have e3 := e2.set fj2 (.inl ⟨d', w, rfl, rfl, Dv.mv (Mv.sub s1) _ _ z2⟩)
          have s2 : ∀ a, Gv F ((σ.set i (some v)).set j (some w)) ((ρ1.set i (.sh d)).set j (.sh d')) a → Gv F (σ.set i (some v)) (ρ1.set i (.sh d)) a := gv_set nsh
          have fl2 := free_set (s := .sh d') fj2.1 nsh (free_set (s := .sh d) fi.1 nsh fl)
          have e4 := e3.set fl2 (.inl ⟨d'', u, rfl, rfl, Dv.mv (Mv.sub fun a g => s1 a (s2 a g)) _ _ z3⟩)
          exact n _ _ H1 e4 (m1.tr (Mv.sub fun a g => s1 a (s2 a (gv_set (nt := by intro _ _ z; cases z) nsh a g)))) q
/-! ### slices -/
def DO (K : PySem.W.Frag) (cp : Cb) (X : XC) (t : TO) (ρ : List SV) (Φ : Option Int → List SV → Prop) : Prop :=
  ∀ F A H0 H σ, En K cp F A H0 H σ ρ → XOk K cp F A H0 X σ → ∀ Q : Option Int → Hp → Prop, (∀ b ρ' H', En K cp F A H0 H' σ ρ' → Mv (Gv F σ ρ) H (Gv F σ ρ') H' → Φ b ρ' → Q b H') → t σ H Q
theorem DO.nil {Φ : Option Int → List SV → Prop} (q : Φ none ρ) : DO K cp X tNoPart ρ Φ := fun F A H0 H σ e hx Q k => k none ρ H e (Mv.ex (Ex.rfl' H)) q
theorem DO.one {te : TE} {Φ : Option Int → List SV → Prop} (h : DEs K cp X te ρ fun d ρ1 => ∃ i : Int, d = .int i ∧ Φ (some i) ρ1) : DO K cp X (tPart te) ρ Φ := fun F A H0 H σ e hx Q k =>
  h.go e hx fun v d ρ1 H1 e1 m1 dv ⟨i, hd, φ⟩ => by subst hd; exact ⟨i, dv_int dv, k _ ρ1 H1 e1 m1 φ⟩
def cutD (xs : List D) (lo hi : Option Int) : List D := (xs.drop (HT.sIx xs.length 0 lo)).take (HT.sIx xs.length xs.length hi - HT.sIx xs.length 0 lo)
theorem cut_dva {vs : List V} {xs : List D} (h : DvA K cp G H vs xs) (lo hi : Option Int) : DvA K cp G H (cutV vs lo hi) (cutD xs lo hi) := by
  unfold cutV cutD
  rw [h.len]
  exact (h.drop _).take _
theorem DE.slL {te : TE} {tl th : TO} (h : DEo K cp X te ρ fun p ρ1 => DO K cp X tl ρ1 fun lo ρ2 => DO K cp X th ρ2 fun hi ρ3 => ∃ xs, p.at ρ3 = some (.lst xs) ∧ Φ (.n (.lst (cutD xs lo hi))) ρ3) : DE K cp X (tSl (rSlL K) te tl th) ρ Φ := fun F A H0 H σ e hx Q k =>
  h.go e hx fun v p ρ1 H1 e1 m1 o1 q => (show DO K cp X tl ρ1 _ from q) F A H0 H1 σ e1 hx _ fun lo ρ2 H2 e2 m2 q2 => (show DO K cp X th ρ2 _ from q2) F A H0 H2 σ e2 hx _ fun hi ρ3 H3 e3 m3 ⟨xs, hp, φ⟩ => by
    obtain ⟨a, vs, rfl, r, dv⟩ := dt_lst (((o1.mv m2).mv m3).dt e3 hp)
    exact ⟨a, vs, rfl, .inl (.inl r), fun p hp => k _ (.n (.lst (cutD xs lo hi))) ρ3 _ (((rx_new hp (cut_dva dv lo hi)).res e3).tr (m1.tr (m2.tr m3))) φ⟩
theorem DE.slT {te : TE} {tl th : TO} (h : DEs K cp X te ρ fun d ρ1 => DO K cp X tl ρ1 fun lo ρ2 => DO K cp X th ρ2 fun hi ρ3 => ∃ xs, d = .tup xs ∧ Φ (.d (.tup (cutD xs lo hi))) ρ3) : DE K cp X (tSl (rSlA K) te tl th) ρ Φ := fun F A H0 H σ e hx Q k =>
  h.go e hx fun v d ρ1 H1 e1 m1 dv q => (show DO K cp X tl ρ1 _ from q) F A H0 H1 σ e1 hx _ fun lo ρ2 H2 e2 m2 q2 => (show DO K cp X th ρ2 _ from q2) F A H0 H2 σ e2 hx _ fun hi ρ3 H3 e3 m3 ⟨xs, hd, φ⟩ => by
    subst hd
    have dv3 := Dv.mv (m2.tr m3) _ _ dv
    obtain ⟨a, vs, rfl, r, da⟩ := dt_tup (.inl dv3)
    refine ⟨a, vs, rfl, r, fun w => ?_, fun _ p hp => k _ (.d (.tup (cutD xs lo hi))) ρ3 _ (((rx_tup hp (e3.trk.no hp) (cut_dva da lo hi)).res e3).tr (m1.tr (m2.tr m3))) φ⟩
    have : cutD xs lo hi = xs := by
      unfold cutD
      rw [← da.len, w.1, w.2, List.drop_zero, da.len, Nat.sub_zero, List.take_length]
    rw [this] at φ
    exact k _ (.d (.tup xs)) ρ3 H3 ⟨e3, m1.tr (m2.tr m3), dv3⟩ φ
end
end DD

end
section
set_option Elab.async false
set_option linter.all false
set_option maxRecDepth 100000
set_option maxHeartbeats 1000000
namespace DD
open PySem PySem.Spec PyProof.Rows L2 GL
section
variable {K : PySem.W.Frag} {cp : Cb} {X : XC} {ψ : AV → Prop} {F : Addr → Prop} {A : Pass} {G : Addr → Prop} {H0 H H' H1 : Hp} {σ : L2.St} {v : V} {ρ ρ1 : List SV} {Φ : AV → List SV → Prop} {N : List SV → Prop} {R : AV → List SV → Prop} {B C : List SV → Prop}
theorem ifP {c : Prop} [Decidable c] {p q : Prop} (h : c) (hp : p) : if c then p else q := by rw [if_pos h]; exact hp
theorem ifN {c : Prop} [Decidable c] {p q : Prop} (h : ¬ c) (hp : q) : if c then p else q := by rw [if_neg h]; exact hp
theorem sh_d (x : D) : AV.sh (.d x) = some x := rfl
theorem sh_n (x : D) : AV.sh (.n x) = some x := rfl
theorem of_d (x : D) : OP.of (.d x) = .d x := rfl
theorem of_n (x : D) : OP.of (.n x) = .d x := rfl
theorem of_o (i : Nat) : OP.of (.o i) = .o i := rfl
theorem at_d (x : D) : OP.at ρ (.d x) = some x := rfl
theorem Nob.ne {x : D} (h : Nob x) : ∀ c ns ds, x ≠ .ob c ns ds := by rintro c ns ds rfl; exact h
theorem DE.isX {c : String} {te : TE} (hc : c ∈ ["int", "bool", "str", "list", "tuple", "dict"]) (hte : DEo K cp X te ρ fun p ρ1 => ∃ x, p.at ρ1 = some x ∧ Nob x ∧ Φ (.d (.bl (isT (tyD x) c))) ρ1) :
    DE K cp X (tCB (rIsi K) (tCons te (tCons (tC (.ty c)) tNil))) ρ Φ := fun F A H0 H σ e hx Q k =>
  hte.go e hx fun v p ρ1 H1 e1 m1 o1 ⟨x, hp, nx, φ⟩ => by
    refine ⟨v, .ty c, _, _, isT (tyD x) c, rfl, .ty c, ty_dv (o1.dt e1 hp) nx fun a vs h => kt_cls h, ?_, k _ (.d (.bl _)) ρ1 H1 ⟨e1, m1, .bl _⟩ φ⟩
    exact kit_ty (kit_all _ (kinds_ty nx) c hc)
theorem DE.isX2 {c d : String} {te : TE} (hc : c ∈ ["int", "bool", "str", "list", "tuple", "dict"]) (hd : d ∈ ["int", "bool", "str", "list", "tuple", "dict"]) (hte : DEo K cp X te ρ fun p ρ1 => ∃ x, p.at ρ1 = some x ∧ Nob x ∧ Φ (.d (.bl (isT (tyD x) c || isT (tyD x) d))) ρ1) :
    DE K cp X (tCB (rIsiT K) (tCons te (tCons (tTup (tCons (tC (.ty c)) (tCons (tC (.ty d)) tNil))) tNil))) ρ Φ := fun F A H0 H σ e hx Q k =>
  hte.go e hx fun v p ρ1 H1 e1 m1 o1 ⟨x, hp, nx, φ⟩ => by
    refine ⟨(show 2 ≤ sizeLine by decide), fun t ht => ?_⟩
    have ex : Ex H1 (upd H1 t (.tup [.ty c, .ty d])) := Ex.nw ht
    refine ⟨v, t, [.ty c, .ty d], _, [.type c, .type d], isT (tyD x) c || isT (tyD x) d, rfl, upd_same, .cons (.ty c) (.cons (.ty d) .nil), ty_dv (OPv.dt (e1.ex ex) (o1.mv (Mv.ex ex)) hp) nx fun a vs h => kt_cls h, ?_, k _ (.d (.bl _)) ρ1 _ ⟨e1.ex ex, m1.tr (Mv.ex ex), .bl _⟩ φ⟩
    refine kitAny_cons (kit_ty (kit_all _ (kinds_ty nx) c hc)) (fun e => ?_) fun e => by rw [e]; rfl
    rw [e, Bool.false_or]
    refine kitAny_cons (kit_ty (kit_all _ (kinds_ty nx) d hd)) (fun e2 => ?_) fun e2 => e2
    rw [e2]; exact kitAny_nil
theorem DT.yes {Φ : Bool → List SV → Prop} (h : Φ true ρ) : DT K cp X tYes ρ Φ := fun F A H0 H σ e hx Q k => k true ρ H e (Mv.ex (Ex.rfl' H)) h
def nownB (ρ : List SV) (vs : List Nat) : Bool := vs.all fun i => match ρ[i]? with
  | some (.ow _ _) => false
  | some (.dp _ _) => false
  | some _ => true
  | none => false
theorem nown_of {vs : List Nat} (h : nownB ρ vs = true) : nown ρ vs := fun i hi => by
  have q := List.all_eq_true.mp h i hi
  cases e : ρ[i]? with
  | none => simp [e] at q
  | some s => exact ⟨(List.getElem?_eq_some_iff.mp e).1, fun b ds z => (by cases z; simp [e] at q), fun b t z => (by cases z; simp [e] at q)⟩
def freeB (ρ : List SV) (i : Nat) : Bool := match ρ[i]? with
  | some (.ow true _) => false
  | some (.dp true _) => false
  | some _ => true
  | none => false
theorem free_of {i : Nat} (h : freeB ρ i = true) : free ρ i := by
  unfold freeB at h
  cases e : ρ[i]? with
  | none => simp [e] at h
  | some s => exact ⟨(List.getElem?_eq_some_iff.mp e).1, fun ds z => (by rw [e] at z; cases z; simp [e] at h), fun t z => (by rw [e] at z; cases z; simp [e] at h)⟩
theorem DI.seqV {i : Nat} {d : D} {xs : List D} {Ψ : List D → List SV → Prop} (h : ρ[i]? = some (.sh d)) (hd : seqD d = some xs) (q : Ψ xs ρ) : DI K cp X (iSeq K (tVar i) (tVar i)) ρ Ψ := by
  cases d with
  | lst ds => cases hd; exact DI.seqL (DI.list (DE.var h ⟨_, rfl, _, rfl, q⟩))
  | tup ds => cases hd; exact DI.seqT (DI.tup (DE.var h ⟨_, rfl, _, rfl, q⟩))
  | _ => cases hd
/-- a comprehension that changes no slot: what is left of xs, each by f -/
theorem DE.lcP {wi : TI} {g : TG} {tt : TT} {te : TE} {vs : List Nat} {T : Type} {ts : List Nat} (xs : List T) (enc : T → D) (pd : T → Bool) (f : T → D) (hz : xs.length ≤ 900000)
    (hi : DI K cp X wi ρ fun ds ρ1 => ρ1 = ρ ∧ ds = xs.map enc) (hn : nown ρ vs)
    (hs : ∀ x ∈ xs, DG K cp g ts (enc x) (wipeS ρ vs) fun ρ3 => DT K cp XC.q tt ρ3 fun b ρ4 => b = pd x ∧ if b = true then DEs K cp XC.q te ρ4 (fun y ρ5 => y = f x ∧ wipeS ρ5 vs = wipeS ρ vs ∧ nown ρ5 vs) else wipeS ρ4 vs = wipeS ρ vs ∧ nown ρ4 vs)
    (hts : (ts.all fun i => vs.contains i) = true) (q : Φ (.n (.lst ((xs.filter pd).map f))) ρ) : DE K cp X (tLc wi g tt te vs) ρ Φ := by
  have hts : ∀ i ∈ ts, i ∈ vs := fun i hi => by simpa using List.all_eq_true.mp hts i hi
  refine DE.lc (fun F A H0 H σ e hx Q k => hi F A H0 H σ e hx Q fun J ds ρ1 H1 e1 m1 wk ⟨e2, e3⟩ => k J ds ρ1 H1 e1 m1 wk ?_)
  subst e2 e3
  refine ⟨ts, fun i acc ρ2 => ρ2 = ρ1 ∧ acc = ((xs.take i).filter pd).map f, hts, ⟨rfl, rfl⟩, by rw [List.length_map]; exact hz, ?_, ?_⟩
  · rintro i d acc ρ2 hd ⟨rfl, rfl⟩
    refine ⟨hn, ?_⟩
    rw [List.getElem?_map] at hd
    cases hx : xs[i]? with
    | none => rw [hx] at hd; cases hd
    | some x =>
      rw [hx] at hd
      cases hd
      have ht : xs.take (i + 1) = xs.take i ++ [x] := by rw [List.take_add_one, hx]; rfl
      refine fun F A H0 H σ e v dv Q k => hs x (List.mem_of_getElem? hx) F A H0 H σ e v dv Q fun σ' ρ3 e3 g3 w3 h3 => k σ' ρ3 e3 g3 w3 ?_
      refine DT.mono h3 fun b ρ4 ⟨hb, h4⟩ => ?_
      cases b with
      | true =>
        rw [if_pos rfl] at h4 ⊢
        refine DE.mono h4 fun r ρ5 ⟨d, hd, hf, h5, h6⟩ => ⟨d, hd, ρ2, ⟨h6, h5.symm, fun _ _ => rfl, rfl⟩, rfl, ?_⟩
        rw [hf, ht, List.filter_append, List.map_append, List.filter_cons_of_pos hb.symm]
        rfl
      | false =>
        rw [if_neg (by decide)] at h4 ⊢
        refine ⟨ρ2, ⟨h4.2, h4.1.symm, fun _ _ => rfl, rfl⟩, rfl, ?_⟩
        rw [ht, List.filter_append, List.filter_cons_of_neg (by rw [← hb]; decide)]
        simp
  · rintro acc ρ2 ⟨rfl, rfl⟩
    rw [List.length_map, List.take_length]
    exact q
/-- without a test -/
theorem DE.lcM {wi : TI} {g : TG} {te : TE} {vs : List Nat} {T : Type} {ts : List Nat} (xs : List T) (enc : T → D) (f : T → D) (hz : xs.length ≤ 900000)
    (hi : DI K cp X wi ρ fun ds ρ1 => ρ1 = ρ ∧ ds = xs.map enc) (hn : nown ρ vs)
    (hs : ∀ x ∈ xs, DG K cp g ts (enc x) (wipeS ρ vs) fun ρ3 => DEs K cp XC.q te ρ3 (fun y ρ5 => y = f x ∧ wipeS ρ5 vs = wipeS ρ vs ∧ nown ρ5 vs))
    (hts : (ts.all fun i => vs.contains i) = true) (q : Φ (.n (.lst (xs.map f))) ρ) : DE K cp X (tLc wi g tYes te vs) ρ Φ := by
  refine DE.lcP xs enc (fun _ => true) f hz hi hn (fun x hx F A H0 H σ e v dv Q k => hs x hx F A H0 H σ e v dv Q fun σ' ρ3 e3 g3 w3 h3 => k σ' ρ3 e3 g3 w3 (DT.yes ⟨rfl, by rw [if_pos rfl]; exact h3⟩)) hts ?_
  rw [List.filter_eq_self.mpr fun _ _ => rfl]
  exact q
theorem rl_sumM {T : Type} {xs : List T} {g : T → Int} (q : ψ (.d (.int (xs.map g).sum))) : RLd K cp (rSum K) [.lst (xs.map fun t => .int (g t))] ψ := by
  rw [show (xs.map fun t => D.int (g t)) = (xs.map g).map D.int by rw [List.map_map]; rfl]
  exact rl_sum q
theorem rl_allM {T : Type} {xs : List T} {g : T → Bool} (q : ψ (.d (.bl (xs.all g)))) : RLd K cp (rAll K) [.lst (xs.map fun t => .bl (g t))] ψ := by
  rw [show (xs.map fun t => D.bl (g t)) = (xs.map g).map D.bl by rw [List.map_map]; rfl]
  refine rl_all ?_
  rw [List.all_map]; exact q
theorem rl_anyM {T : Type} {xs : List T} {g : T → Bool} (q : ψ (.d (.bl (xs.any g)))) : RLd K cp (rAny K) [.lst (xs.map fun t => .bl (g t))] ψ := by
  rw [show (xs.map fun t => D.bl (g t)) = (xs.map g).map D.bl by rw [List.map_map]; rfl]
  refine rl_any ?_
  rw [List.any_map]; exact q
theorem r2_fdiv {i j : Int} (h : CDiv i j) (q : ψ (.d (.int (i / j)))) : R2d K cp (rI CDiv fun i j => .int (i / j)) (.int i) (.int j) ψ := r2_intC h (.int _) q
theorem r2_shl {i j : Int} (h : CShl i j) (q : ψ (.d (.int (i * 2 ^ j.toNat)))) : R2d K cp (rI CShl fun i j => .int (i * 2 ^ j.toNat)) (.int i) (.int j) ψ := r2_intC h (.int _) q
theorem r2_mod {i j : Int} (h : 0 < j) (q : ψ (.d (.int (i % j)))) : R2d K cp (rI (fun _ j => 0 < j) fun i j => .int (i % j)) (.int i) (.int j) ψ := r2_intC h (.int _) q
theorem r2_mul {i j : Int} (h : CMul i j) (q : ψ (.d (.int (i * j)))) : R2d K cp (rI CMul fun i j => .int (i * j)) (.int i) (.int j) ψ := r2_intC h (.int _) q
theorem cshl {i j : Int} (hi : i.natAbs < 2 ^ 64) (h0 : 0 ≤ j) (h1 : j ≤ 100000) : CShl i j := by
  have b := PyProof.Rows.intBits_le hi
  refine ⟨h0, ?_⟩
  have e : (2 : Int) ^ 27 = 134217728 := by decide
  rw [e]
  omega
theorem r2_ixTx {x : D} {xs : List D} {i : Int} {d : D} (hx : x = .tup xs) (h : atI xs i = some d) (q : ψ (.d d)) : R2d K cp (rIxT K) x (.int i) ψ := by subst hx; exact r2_ixT h q
theorem r2_ixLx {x : D} {xs : List D} {i : Int} {d : D} (hx : x = .lst xs) (h : atI xs i = some d) (q : ψ (.d d)) : R2d K cp (rIxL K) x (.int i) ψ := by subst hx; exact r2_ixL h q
end
end DD

end
section
set_option Elab.async false
set_option linter.all false
set_option maxRecDepth 100000
set_option maxHeartbeats 1000000
/-! Comprehensions of two clauses. -/
namespace DD
open PySem PySem.Spec PyProof.Rows L2 GL
section
variable {K : PySem.W.Frag} {cp : Cb} {X : XC} {F : Addr → Prop} {A : Pass} {H0 H H' H1 : Hp} {σ : L2.St} {ρ : List SV} {Φ : AV → List SV → Prop}
theorem DE.lc2P {wi wi1 : TI} {g g1 : TG} {tt tt1 : TT} {te : TE} {vs vs1 : List Nat} {T U : Type} {ts ts1 : List Nat} (xs : List T) (enc : T → D) (pd : T → Bool) (ys : T → List U) (enc1 : U → D) (pd1 : T → U → Bool) (f : T → U → D)
    (hz : ∀ n, (((xs.take n).filter pd).flatMap fun x => ((ys x).filter (pd1 x)).map (f x)).length ≤ 900000 ∧ ∀ x ∈ xs, (ys x).length ≤ 900000)
    (hi : DI K cp X wi ρ fun ds ρ1 => ρ1 = ρ ∧ ds = xs.map enc) (hn : nown ρ vs)
    (hs : ∀ x ∈ xs, DG K cp g ts (enc x) (wipeS ρ vs) fun ρ3 => DT K cp XC.q tt ρ3 fun b ρ4 => b = pd x ∧ wipeS ρ4 vs = wipeS ρ vs ∧ nown ρ4 vs ∧ (b = true → nown ρ4 vs1 ∧ DI K cp XC.q wi1 ρ4 fun es ρ5 => ρ5 = ρ4 ∧ es = (ys x).map enc1 ∧
      ∀ y ∈ ys x, DG K cp g1 ts1 (enc1 y) (wipeS ρ4 vs1) fun ρ6 => DT K cp XC.q tt1 ρ6 fun b1 ρ7 => b1 = pd1 x y ∧ if b1 = true then DEs K cp XC.q te ρ7 (fun z ρ8 => z = f x y ∧ wipeS ρ8 vs1 = wipeS ρ4 vs1 ∧ nown ρ8 vs1) else wipeS ρ7 vs1 = wipeS ρ4 vs1 ∧ nown ρ7 vs1))
    (hts : (ts.all fun i => vs.contains i) = true) (hts1 : (ts1.all fun i => vs1.contains i) = true)
    (q : Φ (.n (.lst ((xs.filter pd).flatMap fun x => ((ys x).filter (pd1 x)).map (f x)))) ρ) : DE K cp X (tLc2 wi g tt wi1 g1 tt1 te vs vs1) ρ Φ := fun F A H0 H σ e hx Q k =>
  hi F A H0 H σ e hx _ fun J ds ρ1 H1 e1 m1 wk ⟨er, ed⟩ => by
    subst er
    subst ed
    have hts : ∀ i ∈ ts, i ∈ vs := fun i hi => by simpa using List.all_eq_true.mp hts i hi
    have hts1 : ∀ i ∈ ts1, i ∈ vs1 := fun i hi => by simpa using List.all_eq_true.mp hts1 i hi
    intro D hD
    have h0D := e1.none0 hD
    have nF : ¬ F D := fun f => e1.notF hD (.inl f)
    have hA : ∀ x ∈ A, F x.2 := fun x hx => (e1.io x hx).1
    have hAD : ∀ x ∈ A, D ≠ x.2 := fun x hx z => nF (z ▸ hA x hx)
    let inn : T → List U → List DD.D := fun x us => (us.filter (pd1 x)).map (f x)
    let out : List T → List DD.D := fun zs => (zs.filter pd).flatMap fun x => inn x (ys x)
    have outs : ∀ {i : Nat} {x : T}, xs[i]? = some x → out (xs.take (i + 1)) = out (xs.take i) ++ (if pd x = true then inn x (ys x) else []) := fun {i x} hx => by
      have ht : xs.take (i + 1) = xs.take i ++ [x] := by rw [List.take_add_one, hx]; rfl
      show (List.filter pd (xs.take (i + 1))).flatMap _ = _
      rw [ht, List.filter_append, List.flatMap_append]
      congr 1
      by_cases h : pd x = true
      · rw [List.filter_cons_of_pos h, if_pos h]; simp [inn]
      · rw [List.filter_cons_of_neg h, if_neg h]; rfl
    let Pv : Nat → Hp → Prop := fun i H => ∃ ws, H D = some (.lst ws) ∧ DvA K cp (Gv (plus F D) σ ρ1) H ws (out (xs.take i)) ∧ En K cp (plus F D) A H0 H σ ρ1 ∧ Mv (Gv F σ ρ1) H1 (Gv (plus F D) σ ρ1) H
    have wl : (xs.map enc).length = xs.length := List.length_map ..
    refine ⟨fun i m H => m = xs.length - i ∧ i ≤ xs.length ∧ Pv i H, ⟨_, rfl, Nat.zero_le _, [], upd_same, .nil, e1.plus hD (Ex.nw hD) upd_same, (Mv.nw hD).tr ((Mv.ex (Ex.nw hD)).tr (Mv.sub gv_plus))⟩, ?_⟩
    rintro i m H2 ⟨rfl, hi, ws, hw, dw, e2, m2⟩
    by_cases hlt : i < xs.length
    · refine .inr ⟨wk.goes i H2 (by rw [wl]; exact hlt) ⟨_, m2⟩, Pv (i + 1), fun H' p => ⟨_, by omega, rfl, hlt, p⟩, fun x H3 yy => ?_⟩
      obtain ⟨ex, y⟩ := wk.yields i H2 x H3 (by rw [wl]; exact hlt) ⟨_, m2⟩ yy
      obtain ⟨d, hx, dv⟩ := y _ m2 e2.trk
      rw [List.getElem?_map] at hx
      cases hxi : xs[i]? with
      | none => rw [hxi] at hx; cases hx
      | some t =>
        rw [hxi] at hx
        cases hx
        have htm := List.mem_of_getElem? hxi
        have e3 := e2.ex ex
        have hw3 := ex _ _ hw
        have dw3 := DvA.mv (Mv.ex ex) _ _ dw
        have ew := (e3.h0 (.inr rfl) hAD hw3 h0D).wipe hn
        have sb : Mv (Gv (plus F D) σ ρ1) H3 (Gv (plus F D) (wipe σ vs) (wipeS ρ1 vs)) H3 := Mv.sub fun a g => (gv_wipe hn a).mp g
        refine hs t htm (plus F D) A _ H3 (wipe σ vs) ew x (Dv.mv sb _ _ dv) _ fun σ4 ρ4 e4 g4 w4 q4 => ?_
        have wq : wipe σ4 vs = wipe σ vs := by rw [w4 vs hts]; exact wipe_wipe vs fun i h => h
        refine ⟨wq, ?_⟩
        have m4 : Mv (Gv (plus F D) (wipe σ vs) (wipeS ρ1 vs)) H3 (Gv (plus F D) σ4 ρ4) H3 := Mv.sub g4
        refine (show DT K cp XC.q tt ρ4 _ from q4) (plus F D) A _ H3 σ4 e4 xq _ fun b ρ5 H5 e5 m5 ⟨hb, w5, n5, q5⟩ => ?_
        -- from the slots within to those outside
        have gq : ∀ a, Gv (plus F D) σ4 ρ5 a ↔ Gv (plus F D) σ ρ1 a := fun a => by
          rw [← gv_wipe (σ := σ4) n5 a, wq, w5, gv_wipe hn a]
        have fin : ∀ {H6 : Hp} {ws' : List V} {acc : List DD.D}, En K cp (plus F D) A H0 H6 σ4 ρ5 → Mv (Gv (plus F D) σ4 ρ5) H5 (Gv (plus F D) σ4 ρ5) H6 → H6 D = some (.lst ws') → DvA K cp (Gv (plus F D) σ4 ρ5) H6 ws' acc → acc = out (xs.take (i + 1)) → Pv (i + 1) H6 := fun {H6 ws' acc} e6 m6 h6 d6 ea => by
          subst ea
          obtain ⟨e7, m7⟩ := e3.back hn wq e6 (m4.tr (m5.tr m6)) n5 w5.symm (fun _ _ => rfl) rfl
          exact ⟨ws', h6, DvA.mv (Mv.sub fun a g => (gq a).mpr g) _ _ d6, e7, m2.tr ((Mv.ex ex).tr m7)⟩
        have hD5 := e5.fr D _ hAD upd_same
        have dw5 : DvA K cp (Gv (plus F D) σ4 ρ5) H5 ws (out (xs.take i)) := DvA.mv (sb.tr (m4.tr m5)) _ _ dw3
        cases b with
        | false =>
          refine iteF (fin (e5.h0b (.inr rfl) h0D) (Mv.ex (Ex.rfl' _)) hD5 dw5 ?_)
          rw [outs hxi, ← hb, if_neg (by decide), List.append_nil]
        | true =>
          obtain ⟨n51, q5⟩ := q5 rfl
          refine iteT (q5 (plus F D) A _ H5 σ4 e5 xq _ fun J1 es ρ6 H6 e6 m6 wk1 ⟨er6, ees, q6⟩ => ?_)
          subst er6
          subst ees
          have hD6 := e6.fr D _ hAD upd_same
          have e60 := e6.h0b (.inr rfl) h0D
          have dw6 := DvA.mv m6 _ _ dw5
          let P1 : Nat → Hp → Prop := fun j H => ∃ ws, H D = some (.lst ws) ∧ DvA K cp (Gv (plus F D) σ4 ρ6) H ws (out (xs.take i) ++ inn t ((ys t).take j)) ∧ En K cp (plus F D) A H0 H σ4 ρ6 ∧ Mv (Gv (plus F D) σ4 ρ6) H6 (Gv (plus F D) σ4 ρ6) H
          have wl1 : ((ys t).map enc1).length = (ys t).length := List.length_map ..
          refine ⟨fun j m H => m = (ys t).length - j ∧ j ≤ (ys t).length ∧ P1 j H, ⟨_, rfl, Nat.zero_le _, ws, hD6, by simpa [inn] using dw6, e60, Mv.ex (Ex.rfl' _)⟩, ?_⟩
          rintro j m H7 ⟨rfl, hj, us, hu, du, e7, m7⟩
          by_cases hlt1 : j < (ys t).length
          · refine .inr ⟨wk1.goes j H7 (by rw [wl1]; exact hlt1) ⟨_, m7⟩, P1 (j + 1), fun H' p => ⟨_, by omega, rfl, hlt1, p⟩, fun x1 H8 yy1 => ?_⟩
            obtain ⟨ex1, y1⟩ := wk1.yields j H7 x1 H8 (by rw [wl1]; exact hlt1) ⟨_, m7⟩ yy1
            obtain ⟨d1, hx1, dv1⟩ := y1 _ m7 e7.trk
            rw [List.getElem?_map] at hx1
            cases hyj : (ys t)[j]? with
            | none => rw [hyj] at hx1; cases hx1
            | some u =>
              rw [hyj] at hx1
              cases hx1
              have hum := List.mem_of_getElem? hyj
              have ht1 : (ys t).take (j + 1) = (ys t).take j ++ [u] := by rw [List.take_add_one, hyj]; rfl
              have e8 := e7.ex ex1
              have hu8 := ex1 _ _ hu
              have du8 := DvA.mv (Mv.ex ex1) _ _ du
              have ew1 := (e8.h0 (.inr rfl) hAD hu8 h0D).wipe n51
              have sb1 : Mv (Gv (plus F D) σ4 ρ6) H8 (Gv (plus F D) (wipe σ4 vs1) (wipeS ρ6 vs1)) H8 := Mv.sub fun a g => (gv_wipe n51 a).mp g
              refine q6 u hum (plus F D) A _ H8 (wipe σ4 vs1) ew1 x1 (Dv.mv sb1 _ _ dv1) _ fun σ9 ρ9 e9 g9 w9 q9 => ?_
              have wq1 : wipe σ9 vs1 = wipe σ4 vs1 := by rw [w9 vs1 hts1]; exact wipe_wipe vs1 fun i h => h
              refine ⟨wq1, ?_⟩
              have m9 : Mv (Gv (plus F D) (wipe σ4 vs1) (wipeS ρ6 vs1)) H8 (Gv (plus F D) σ9 ρ9) H8 := Mv.sub g9
              have fin1 : ∀ {ρx : List SV} {Hx : Hp}, En K cp (plus F D) A (upd H0 D (.lst us)) Hx σ9 ρx → Mv (Gv (plus F D) σ9 ρ9) H8 (Gv (plus F D) σ9 ρx) Hx → wipeS ρx vs1 = wipeS ρ6 vs1 → nown ρx vs1 →
                  Hx D = some (.lst us) ∧ En K cp (plus F D) A H0 Hx σ4 ρ6 ∧ Mv (Gv (plus F D) σ4 ρ6) H6 (Gv (plus F D) σ4 ρ6) Hx ∧ DvA K cp (Gv (plus F D) σ4 ρ6) Hx us (out (xs.take i) ++ inn t ((ys t).take j)) ∧ (∀ a, Gv (plus F D) σ4 ρ6 a → Gv (plus F D) σ9 ρx a) := fun {ρx Hx} ex' mx wx nx => by
                obtain ⟨ea, ma⟩ := e8.back n51 wq1 (ex'.h0b (.inr rfl) h0D) (m9.tr mx) nx wx.symm (fun _ _ => rfl) rfl
                refine ⟨ex'.fr D _ hAD upd_same, ea, m7.tr ((Mv.ex ex1).tr ma), DvA.mv ma _ _ du8, fun a ga => ?_⟩
                rw [← gv_wipe (σ := σ9) nx a, wq1, wx, gv_wipe n51 a]
                exact ga
              refine (show DT K cp XC.q tt1 ρ9 _ from q9) (plus F D) A _ H8 σ9 e9 xq _ fun b1 ρ10 H10 e10 m10 ⟨hb1, q10⟩ => ?_
              cases b1 with
              | true =>
                rw [if_pos rfl] at q10
                refine iteT (DEs.go (show DEs K cp XC.q te ρ10 _ from q10) e10 xq fun z zd ρ11 H11 e11 m11 dz ⟨hzf, w11, n11⟩ => ?_)
                obtain ⟨f1, f2, f3, f4, f5⟩ := fin1 e11 (m10.tr m11) w11 n11
                obtain ⟨p1, p2⟩ := en_put f2 nF hA h0D f1 (.lst (us ++ [z]))
                have l1 := f4.len
                have lz : us.length < sizeLine := by
                  rw [l1, List.length_append]
                  have a1 := (hz i).1
                  have a2 := (hz i).2 t htm
                  have a3 : (inn t ((ys t).take j)).length ≤ (ys t).length := by
                    show (((List.take j (ys t)).filter (pd1 t)).map (f t)).length ≤ _
                    rw [List.length_map]
                    exact Nat.le_trans (List.length_filter_le _ _) (by rw [List.length_take]; omega)
                  have a4 : (out (xs.take i)).length ≤ 900000 := a1
                  exact Nat.lt_of_lt_of_le (show _ < 1800001 by omega) (by decide)
                refine ⟨us, f1, lz, us ++ [z], upd_same, ?_, p1, f3.tr p2⟩
                have e12 : out (xs.take i) ++ inn t ((ys t).take (j + 1)) = (out (xs.take i) ++ inn t ((ys t).take j)) ++ [zd] := by
                  rw [List.append_assoc]
                  congr 1
                  show (((ys t).take (j + 1)).filter (pd1 t)).map (f t) = (((ys t).take j).filter (pd1 t)).map (f t) ++ [zd]
                  rw [ht1, List.filter_append, List.map_append, List.filter_cons_of_pos hb1.symm, hzf]
                  rfl
                rw [e12]
                exact DvA.mv p2 _ _ (f4.app (.cons (Dv.mv (Mv.sub f5) _ _ dz) .nil))
              | false =>
                rw [if_neg (by decide)] at q10
                obtain ⟨f1, f2, f3, f4, f5⟩ := fin1 e10 m10 q10.1 q10.2
                refine iteF ⟨us, f1, ?_, f2, f3⟩
                have e12 : inn t ((ys t).take (j + 1)) = inn t ((ys t).take j) := by
                  show (((ys t).take (j + 1)).filter (pd1 t)).map (f t) = (((ys t).take j).filter (pd1 t)).map (f t)
                  rw [ht1, List.filter_append, List.filter_cons_of_neg (by rw [← hb1]; decide)]
                  simp
                rw [e12]
                exact f4
          · have ej : j = (ys t).length := by omega
            subst ej
            refine .inl ⟨by have := wk1.stops H7 ⟨_, m7⟩; rw [wl1] at this; exact this, fin e7 (m6.tr m7) hu du ?_⟩
            rw [outs hxi, ← hb, if_pos rfl, List.take_length]
    · have ei : i = xs.length := by omega
      subst ei
      refine .inl ⟨by have := wk.stops H2 ⟨_, m2⟩; rw [wl] at this; exact this, ?_⟩
      rw [List.take_length] at dw
      exact k _ (.n (.lst (out xs))) ρ1 H2 ⟨D, rfl, nF, h0D, e2, hA, m1.tr m2, _, hw, .lst dw⟩ q
end
end DD

end
section
set_option Elab.async false
set_option linter.all false
set_option maxRecDepth 100000
set_option maxHeartbeats 1000000
/-! ==, repr of data. -/
namespace DD
open PySem PySem.Spec PyProof.Rows L2 GL
mutual
def pyD : D → PyData
  | .non => .none | .bl b => .bool b | .int i => .int i | .str x => .str x
  | .lst ds => .list (pyA ds) | .tup ds => .tuple (pyA ds)
  | .dk _ _ => .none | .ob _ _ _ => .none | .lk _ => .none | .dt _ _ => .none
def pyA : List D → List PyData
  | [] => []
  | d :: ds => pyD d :: pyA ds
end
mutual
/-- no dict, no instance; texts are texts; no truth among numbers where b is true -/
def okD' (b : Bool) : D → Bool
  | .non => true | .bl _ => !b | .int _ => true | .str x => PyData.canLay0 (.str x)
  | .lst ds => okA' b ds | .tup ds => okA' b ds
  | .dk _ _ => false | .ob _ _ _ => false | .lk _ => false | .dt _ _ => false
def okA' (b : Bool) : List D → Bool
  | [] => true
  | d :: ds => okD' b d && okA' b ds
end
section
variable {K : PySem.W.Frag} {cp : Cb} {X : XC} {ψ : AV → Prop} {G : Addr → Prop} {H : Hp} {v : V}
mutual
theorem Dv.dp {b : Bool} : ∀ (d : D) (v : V), Dv K cp G H v d → okD' b d = true → Dp K H v (pyD d)
  | .non, _, h, _ => by cases h; exact .non
  | .bl b, _, h, _ => by cases h; exact .bl b
  | .int i, _, h, _ => by cases h; exact .int i
  | .str x, _, h, _ => by cases h; exact .str x
  | .lst ds, _, h, o => by
    cases h with | @lst a vs _ h1 n h2 => exact .lst (SqL.of h1) (DvA.dp ds vs h2 o)
  | .tup ds, _, h, o => by
    cases h with
    | @tup a vs _ h1 n h2 => exact .tup (SqT.of h1) (DvA.dp ds vs h2 o)
    | @kt a vs _ h1 h2 h3 => exact .tup (h1 H) (DvA.dp ds vs h2 o)
  | .dk _ _, _, _, o => by cases o
  | .ob _ _ _, _, _, o => by cases o
  | .lk _, _, _, o => by cases o
  | .dt _ _, _, _, o => by cases o
theorem DvA.dp {b : Bool} : ∀ (ds : List D) (vs : List V), DvA K cp G H vs ds → okA' b ds = true → DpAll K H vs (pyA ds)
  | [], _, h, _ => by cases h; exact .nil
  | d :: ds, _, h, o => by
    cases h with
    | cons h1 h2 =>
      have o : (okD' b d && okA' b ds) = true := o
      rw [Bool.and_eq_true] at o
      exact .cons (Dv.dp d _ h1 o.1) (DvA.dp ds _ h2 o.2)
end
theorem dt_dp {b : Bool} {d : D} (h : Dt K cp G H v d) (o : okD' b d = true) : Dp K H v (pyD d) := by
  rcases h with h | ⟨a, rfl, u, h1, h⟩
  · exact Dv.dp d v h o
  · cases h with
    | lst h2 => exact .lst (SqL.of h1) (DvA.dp _ _ h2 o)
    | dk _ _ => cases o
    | ob _ _ => cases o
    | dt _ _ => cases o
mutual
theorem ok_lay {b : Bool} : ∀ d : D, okD' b d = true → (pyD d).canLay0 = true
  | .non, _ => rfl
  | .bl _, _ => rfl
  | .int _, _ => rfl
  | .str x, h => h
  | .lst ds, h => by show PyData.canLay0 (.list _) = true; simp only [PyData.canLay0]; exact ok_layA ds h
  | .tup ds, h => by show PyData.canLay0 (.tuple _) = true; simp only [PyData.canLay0]; exact ok_layA ds h
  | .dk _ _, h => by cases h
  | .ob _ _ _, h => by cases h
  | .lk _, h => by cases h
  | .dt _ _, h => by cases h
theorem ok_layA {b : Bool} : ∀ ds : List D, okA' b ds = true → PyData.canLayAll0 (pyA ds) = true
  | [], _ => rfl
  | d :: ds, h => by
    have h : (okD' b d && okA' b ds) = true := h
    rw [Bool.and_eq_true] at h
    show PyData.canLayAll0 (_ :: _) = true
    simp only [PyData.canLayAll0, ok_lay d h.1, ok_layA ds h.2]; rfl
end
mutual
/-- == of data without truths tells the same data -/
theorem eqv_iff : ∀ x y : D, okD' true x = true → okD' true y = true → (PyData.eqv (pyD x) (pyD y) = true ↔ x = y)
  | .lst xs, y, hx, hy => by
    cases y with
    | lst ys => simp only [pyD, PyData.eqv, eqvA_iff xs ys hx hy, D.lst.injEq]
    | dk _ _ => cases hy
    | ob _ _ _ => cases hy
    | lk _ => cases hy
    | dt _ _ => cases hy
    | _ => simp [pyD, PyData.eqv]
  | .tup xs, y, hx, hy => by
    cases y with
    | tup ys => simp only [pyD, PyData.eqv, eqvA_iff xs ys hx hy, D.tup.injEq]
    | dk _ _ => cases hy
    | ob _ _ _ => cases hy
    | lk _ => cases hy
    | dt _ _ => cases hy
    | _ => simp [pyD, PyData.eqv]
  | .non, y, hx, hy => by
    cases y with
    | dk _ _ => cases hy
    | ob _ _ _ => cases hy
    | lk _ => cases hy
    | dt _ _ => cases hy
    | _ => simp [pyD, PyData.eqv]
  | .int i, y, hx, hy => by
    cases y with
    | dk _ _ => cases hy
    | ob _ _ _ => cases hy
    | lk _ => cases hy
    | dt _ _ => cases hy
    | bl _ => cases hy
    | _ => simp [pyD, PyData.eqv]
  | .str i, y, hx, hy => by
    cases y with
    | dk _ _ => cases hy
    | ob _ _ _ => cases hy
    | lk _ => cases hy
    | dt _ _ => cases hy
    | _ => simp [pyD, PyData.eqv]
  | .bl _, y, hx, hy => by cases hx
  | .dk _ _, y, hx, hy => by cases hx
  | .ob _ _ _, y, hx, hy => by cases hx
  | .lk _, y, hx, hy => by cases hx
  | .dt _ _, y, hx, hy => by cases hx
theorem eqvA_iff : ∀ xs ys : List D, okA' true xs = true → okA' true ys = true → (PyData.eqvAll (pyA xs) (pyA ys) = true ↔ xs = ys)
  | [], [], _, _ => by simp [pyA, PyData.eqvAll]
  | [], y :: ys, _, _ => by simp [pyA, PyData.eqvAll]
  | x :: xs, [], _, _ => by simp [pyA, PyData.eqvAll]
  | x :: xs, y :: ys, hx, hy => by
    have hx : (okD' true x && okA' true xs) = true := hx
    have hy : (okD' true y && okA' true ys) = true := hy
    rw [Bool.and_eq_true] at hx hy
    simp only [pyA, PyData.eqvAll, Bool.and_eq_true, eqv_iff x y hx.1 hy.1, eqvA_iff xs ys hx.2 hy.2, List.cons.injEq]
end
/-- data that == and repr serve: Z deep, of W's weight -/
structure Sz (b : Bool) (x : D) (Z W : Nat) : Prop where
  o : okD' b x = true
  s : (pyD x).showable = true
  l : (pyD x).leavesShort 100 = true
  z : (pyD x).depth ≤ Z
  w : (pyD x).weight ≤ W
structure SzA (b : Bool) (xs : List D) (Z W : Nat) : Prop where
  o : okA' b xs = true
  s : PyData.showableAll (pyA xs) = true
  l : PyData.leavesShortAll 100 (pyA xs) = true
  z : PyData.depthAll (pyA xs) ≤ Z
  w : PyData.weightAll (pyA xs) ≤ W
variable {b : Bool}
theorem Sz.le {x : D} {Z W Z' W' : Nat} (h : Sz b x Z W) (hZ : Z ≤ Z') (hW : W ≤ W') : Sz b x Z' W' := ⟨h.o, h.s, h.l, Nat.le_trans h.z hZ, Nat.le_trans h.w hW⟩
theorem SzA.le {x : List D} {Z W Z' W' : Nat} (h : SzA b x Z W) (hZ : Z ≤ Z') (hW : W ≤ W') : SzA b x Z' W' := ⟨h.o, h.s, h.l, Nat.le_trans h.z hZ, Nat.le_trans h.w hW⟩
theorem SzA.nil {Z W : Nat} : SzA b [] Z W := ⟨rfl, rfl, rfl, Nat.zero_le _, Nat.zero_le _⟩
theorem SzA.cons {x : D} {xs : List D} {Z W W' : Nat} (h : Sz b x Z W) (r : SzA b xs Z W') : SzA b (x :: xs) Z (W + 1 + W') :=
  ⟨by show (okD' b x && okA' b xs) = true; rw [h.o, r.o]; rfl, by show PyData.showableAll (_ :: _) = true; simp only [PyData.showableAll, h.s, r.s]; rfl, by show PyData.leavesShortAll 100 (_ :: _) = true; simp only [PyData.leavesShortAll, h.l, r.l]; rfl, by
    have h1 := h.z
    have h2 := r.z
    show PyData.depthAll (_ :: _) ≤ _
    simp only [PyData.depthAll]; omega, by
    have h1 := h.w
    have h2 := r.w
    show PyData.weightAll (_ :: _) ≤ _
    simp only [PyData.weightAll]; omega⟩
theorem Sz.lst {xs : List D} {Z W : Nat} (h : SzA b xs Z W) : Sz b (.lst xs) (Z + 1) W :=
  ⟨h.o, by simp only [pyD, PyData.showable]; exact h.s, by simp only [pyD, PyData.leavesShort]; exact h.l, by have := h.z; simp only [pyD, PyData.depth]; omega, by have := h.w; simp only [pyD, PyData.weight]; omega⟩
theorem Sz.tup {xs : List D} {Z W : Nat} (h : SzA b xs Z W) : Sz b (.tup xs) (Z + 1) W :=
  ⟨h.o, by simp only [pyD, PyData.showable]; exact h.s, by simp only [pyD, PyData.leavesShort]; exact h.l, by have := h.z; simp only [pyD, PyData.depth]; omega, by have := h.w; simp only [pyD, PyData.weight]; omega⟩
theorem Sz.non {Z W : Nat} : Sz b .non Z W := ⟨rfl, rfl, rfl, Nat.zero_le _, Nat.zero_le _⟩
theorem Sz.bl {c : Bool} {Z W : Nat} : Sz false (.bl c) Z W := ⟨rfl, rfl, rfl, by simp [pyD, PyData.depth], by simp [pyD, PyData.weight]⟩
theorem Sz.int {i : Int} {Z n : Nat} (h : i.natAbs < 2 ^ n) (hn : n ≤ 200) : Sz b (.int i) Z (n + 1) := by
  have h1 : i.natAbs < 10 ^ 65 := Nat.lt_of_lt_of_le h (Nat.le_trans (Nat.pow_le_pow_right (by decide) hn) (by decide))
  have h2 : i.natAbs = 0 ∨ i.natAbs.log2 < n := by
    by_cases h0 : i.natAbs = 0
    · exact .inl h0
    · exact .inr ((Nat.log2_lt h0).mpr h)
  refine ⟨rfl, ?_, ?_, by simp [pyD, PyData.depth], ?_⟩
  · simp only [pyD, PyData.showable, decide_eq_true_eq]
    rcases h2 with h2 | h2
    · rw [h2]; decide
    · omega
  · have e := int_text_length_le10 (k := 65) (by decide) h1
    simp only [pyD, PyData.leavesShort, decide_eq_true_eq]
    show (Str.ofString (toString i)).length ≤ 100
    rw [PySem.ofString_length]; omega
  · simp only [pyD, PyData.weight]
    split
    · omega
    · rename_i c
      rcases h2 with h2 | h2
      · exact absurd (by simp; omega) c
      · omega
theorem Sz.str {x : Str} {Z W : Nat} (h1 : PyData.canLay0 (.str x) = true) (h2 : PyData.leavesShort 100 (.str x) = true) (h3 : x.length ≤ W) : Sz b (.str x) Z W := ⟨h1, rfl, h2, by simp [pyD, PyData.depth], h3⟩
theorem pyA_map {T : Type} {f : T → D} {Z W : Nat} : ∀ {xs : List T}, (∀ x ∈ xs, Sz b (f x) Z W) → SzA b (xs.map f) Z (xs.length * (W + 1))
  | [], _ => SzA.nil
  | x :: xs, h => (SzA.cons (h x List.mem_cons_self) (pyA_map fun y hy => h y (List.mem_cons_of_mem _ hy))).le (Nat.le_refl _) (by rw [List.length_cons, Nat.succ_mul]; omega)
theorem Sz.shaped {x : D} {Z W : Nat} (h : Sz b x Z W) (hZ : Z ≤ 64) : SeqAt.shaped (pyD x) = true := by
  unfold SeqAt.shaped
  rw [ok_lay x h.o, Bool.true_and]
  exact decide_eq_true (Nat.le_trans h.z hZ)
/-- == of data without truths -/
theorem r2_eqD {x y : D} {Z W Z' W' : Nat} (hx : Sz true x Z W) (hy : Sz true y Z' W') (hZ : Z ≤ 64) (hZ' : Z' ≤ 64) (q : ∀ c : Bool, (c = true ↔ x = y) → ψ (.d (.bl c))) : R2d K cp (rEqX K) x y ψ := fun G H u w Q hu hw k =>
  .inr ⟨pyD x, pyD y, dt_dp hu hx.o, dt_dp hw hy.o, hx.shaped hZ, hy.shaped hZ', k _ (.d (.bl _)) H (rx_flat (.bl _)) (q _ (eqv_iff x y hx.o hy.o))⟩
/-- xs == [] -/
theorem r2_eqNil {xs : List D} (q : ψ (.d (.bl xs.isEmpty))) : R2d K cp (rEqX K) (.lst xs) (.lst []) ψ := fun G H u w Q hu hw k => by
  obtain ⟨a, vs, rfl, r, dv⟩ := dt_lst hu
  obtain ⟨a2, vs2, rfl, r2, dv2⟩ := dt_lst hw
  cases dv2
  refine .inl ⟨a, a2, vs, rfl, rfl, r, r2, ?_⟩
  have : vs.isEmpty = xs.isEmpty := by cases dv <;> rfl
  rw [this]
  exact k _ (.d (.bl _)) H (rx_flat (.bl _)) q
/-! repr(x) -/
mutual
theorem ok_nodict : ∀ d : D, okD' b d = true → (pyD d).hasDict = false
  | .non, _ => rfl
  | .bl _, _ => rfl
  | .int _, _ => rfl
  | .str x, h => rfl
  | .lst ds, h => by show PyData.hasDict (.list _) = false; simp only [PyData.hasDict]; exact ok_nodictA ds h
  | .tup ds, h => by show PyData.hasDict (.tuple _) = false; simp only [PyData.hasDict]; exact ok_nodictA ds h
  | .dk _ _, h => by cases h
  | .ob _ _ _, h => by cases h
  | .lk _, h => by cases h
  | .dt _ _, h => by cases h
theorem ok_nodictA : ∀ ds : List D, okA' b ds = true → PyData.hasDictAll (pyA ds) = false
  | [], _ => rfl
  | d :: ds, h => by
    have h : (okD' b d && okA' b ds) = true := h
    rw [Bool.and_eq_true] at h
    show PyData.hasDictAll (_ :: _) = false
    simp only [PyData.hasDictAll, ok_nodict d h.1, ok_nodictA ds h.2]; rfl
end
theorem rl_repr {x : D} {Z W : Nat} (hx : Sz b x Z W) (hZ : Z ≤ 60) (hW : W ≤ 100000) (q : ψ (.d (.str (pyD x).shown))) : RLd K cp (rReprX K) [x] ψ := fun G H us Q h k => by
  obtain ⟨u, rfl, hu⟩ := dta1 h
  refine .inr ⟨u, pyD x, rfl, dt_dp hu hx.o, hx.s, ok_nodict x hx.o, Nat.le_trans hx.z hZ, ?_, k _ (.d (.str _)) H (rx_flat (.str _)) q⟩
  have h1 := PyData.shown_le 100 (by decide) (pyD x) hx.l
  have h2 : (100 + 2) * (pyD x).weight ≤ 102 * 100000 := Nat.mul_le_mul (Nat.le_refl _) (Nat.le_trans hx.w hW)
  rw [sizeLine_eq]
  omega
end
end DD

end
section
set_option Elab.async false
set_option linter.all false
set_option maxRecDepth 100000
set_option maxHeartbeats 1000000
/-! Instances made, fields stored; pairs walked; dicts by comprehension. -/
namespace DD
open PySem PySem.Spec PyProof.Rows L2 GL
section
variable {K : PySem.W.Frag} {cp : Cb} {X : XC} {ψ : AV → Prop} {F : Addr → Prop} {A : Pass} {G : Addr → Prop} {H0 H H' H1 H2 : Hp} {σ : L2.St} {v : V} {ρ ρ1 : List SV} {Φ : AV → List SV → Prop} {N : List SV → Prop} {R : AV → List SV → Prop} {B C : List SV → Prop}
theorem argS_oks : ∀ {ps : List OP} {ds : List D}, oks ps = some ds → argS ρ ps = some (ds.map .sh)
  | [], ds, h => by cases h; rfl
  | .d d :: ps, ds, h => by
    obtain ⟨ds', h1, rfl⟩ := Option.map_eq_some_iff.mp (show (oks ps).map (d :: ·) = some ds from h)
    show (argS ρ ps).map (SV.sh d :: ·) = _
    rw [argS_oks h1]; rfl
  | .o i :: ps, ds, h => by cases h
/-- the new thing at D changes as it likes -/
theorem en_new {D : Addr} {o o' : HO} (e : En K cp (plus F D) A H0 H σ ρ) (nF : ¬ F D) (hA : ∀ x ∈ A, F x.2) (h0 : H0 D = none) (hD : H D = some o) (hD' : H' D = some o') (hm : ∀ a u, a ≠ D → H a = some u → Sm u H' a) (tb : LamX.Tabs cp.T H') (hk : OwK o) (hk2 : OwK o') : En K cp (plus F D) A H0 H' σ ρ ∧ Mv (Gv (plus F D) σ ρ) H (Gv (plus F D) σ ρ) H' := by
  have m : Mv (Gv (plus F D) σ ρ) H (Gv (plus F D) σ ρ) H' := ⟨fun a u n h => ⟨n, hm a u (fun z => n (.inl (.inr z))) h⟩⟩
  refine ⟨⟨e.len, fun a f => ?_, fun a u hx q => ?_, tb, e.io, e.dj, e.ow, e.dw, fun i s h => ?_⟩, m⟩
  · by_cases z : a = D
    · subst z; exact ⟨_, hD', hk2⟩
    · obtain ⟨u, hu, hk⟩ := e.tr a f; exact (hm a u z hu).isK hk
  · exact (e.fr a u hx q).tr fun w hw => hm a w (ne_of_none q h0) hw
  · refine (e.sl i s h).mv m fun a u q2 q3 hk => (hm a u ?_ q3).to fun qs z => by subst z; exact hk
    rintro rfl
    rcases e.mine ⟨s, h, q2⟩ with q | q
    · exact nF (hA _ q)
    · exact q.1 (.inr rfl)
/-- C(..): a new instance, as its __init__ leaves it -/
theorem make_ct {n c : Nat} {Ci : CtX} {E : XK} {ps : List OP} {vs : List V} {ds : List D} {Q : VK} {Φ : AV → Prop} {Ψ : Nat → List Str → List D → Prop} (e1 : En K cp F A H0 H1 σ ρ1) (o1 : Paired (OPv K cp F σ ρ1 H1) vs ps) (hd : oks ps = some ds) (hn : ps.length = n)
    (hc : Ci (.ow true (.ob c [] []) :: ds.map .sh) (fun r ρc => r = .d .non ∧ ∀ ob, ρc[0]? = some (.ow true ob) → Φ (.n ob)) fun i ns es _ => Ψ i ns es)
    (k : ∀ v r ρ' H', Res K cp F A H0 σ ρ1 H1 v r ρ' H' → ρ' = ρ1 → Φ r → Q v H')
    (kx : ∀ i es fs dd H', En K cp F A H0 H' σ ρ1 → H' dd = some (exd dd fs) → DvA K cp (Gv F σ ρ1) H' (fs.map (·.2)) es → Ψ i (fs.map (·.1)) es → E (.ref (cp.x i)) (some dd) H') :
    tMake (cp.c c) (spX K cp (n + 1) Ci) [] E (fun σ' H' Q' => σ' = σ ∧ H' = H1 ∧ Q' vs H1) σ H1 Q := by
    refine ⟨rfl, rfl, ?_⟩
    intro x dx hx hdx hne
    have hxdx : upd H1 dx (.own x) x = none := by rw [upd_ne (fun z => hne z.symm)]; exact hx
    have ex1 : Ex H1 (upd (upd H1 dx (.own x)) x (.ins (cp.c c) dx [])) := (Ex.nw hdx).tr (Ex.nw hxdx)
    have e2 := e1.plus hx ex1 (H' := upd (upd H1 dx (.own x)) x (.ins (cp.c c) dx [])) upd_same
    have dv := oks_ok o1 hd
    have m2 : Mv (Gv F σ ρ1) H1 (Gv (plus F x) σ ρ1) (upd (upd H1 dx (.own x)) x (.ins (cp.c c) dx [])) := (Mv.nw hx).tr ((Mv.ex ex1).tr (Mv.sub gv_plus))
    have dv2 := DvA.mv m2 _ _ dv
    have gx : Gv (plus F x) σ ρ1 x := .inl (.inr rfl)
    have pr : ∀ {us : List V} {es : List D}, DvA K cp (Gv (plus F x) σ ρ1) (upd (upd H1 dx (.own x)) x (.ins (cp.c c) dx [])) us es → Paired (PR K cp (Gv (plus F x) σ ρ1) (upd (upd H1 dx (.own x)) x (.ins (cp.c c) dx []))) us (es.map .sh) := by
      intro us
      induction us with
      | nil => intro es h; cases h; exact .nil
      | cons u us ih => intro es h; cases h with | cons a b => exact .cons a (ih b)
    have only : ∀ (i : Nat) (s : SV), (SV.ow true (.ob c [] []) :: ds.map SV.sh)[i]? = some s → s.isOw → i = 0 := fun i s z ho => by
      cases i with
      | zero => rfl
      | succ i =>
        rw [List.getElem?_cons_succ, List.getElem?_map] at z
        cases q : ds[i]? with
        | none => rw [q] at z; cases z
        | some y => rw [q] at z; cases z; exact ho.elim
    have nF : ¬ F x := fun f => e1.notF hx (.inl f)
    have back : ∀ {H' : Hp} {ρc : List SV} {F' : Addr → Prop}, Bk K cp (Gv (plus F x) σ ρ1) (.ow true (.ob c [] []) :: ds.map .sh) (.ref x :: (vs ++ [])) (upd (upd H1 dx (.own x)) x (.ins (cp.c c) dx [])) F' H' ρc →
        ∃ ob, ρc[0]? = some (.ow true ob) ∧ OwOk K cp (Gv (plus F x) σ ρ1) H' x ob ∧ En K cp (plus F x) A H0 H' σ ρ1 ∧ Mv (Gv (plus F x) σ ρ1) (upd (upd H1 dx (.own x)) x (.ins (cp.c c) dx [])) (Gv (plus F x) σ ρ1) H' := fun {H' ρc F'} bk => by
      obtain ⟨ob, hob, u, hu, how⟩ := bk.ho 0 true _ x rfl rfl
      have hm' : ∀ a u, a ≠ x → (upd (upd H1 dx (.own x)) x (.ins (cp.c c) dx [])) a = some u → Sm u H' a := fun a u na ha => bk.hm a u (fun i s v h1 h2 h3 => by
        have := only i s h1 (has_ow h3)
        subst this
        simp at h1 h2
        subst h1 h2
        have h3 : some (some (V.ref x)) = some (some (V.ref a)) := h3
        cases h3
        exact na rfl) ha
      obtain ⟨e3, m3⟩ := en_new e2 nF (fun y hy => (e1.io y hy).1) (e1.none0 hx) upd_same hu hm' bk.tb trivial how.kd
      exact ⟨ob, hob, ⟨u, hu, how.mv (Mv.sub fun a g => (bk.hF a g).1)⟩, e3, m3⟩
    refine ⟨Gv (plus F x) σ ρ1, _, _, _, by rw [List.length_cons, List.append_nil, dv.len, ← hn]; congr 1; exact (dv.len.symm.trans (Paired.len o1)), (.cons (show PR K cp (Gv (plus F x) σ ρ1) _ (.ref x) (.ow true (.ob c [] [])) from ⟨rfl, x, rfl, gx, _, upd_same, .ob rfl .nil⟩) (by rw [List.append_nil]; exact pr dv2)), e2.trk, fun i j a s t v w h1 h2 _ _ h5 h6 => (only i s h1 (has_ow h5)).trans (only j t h2 (has_ow h6)).symm, e2.tb, hc, fun w r ρc H' F' φ hr bk => ?_, fun i es fs dd ρc H' F' ψ h1 h2 bk => ?_⟩
    · obtain ⟨er, φ⟩ := φ
      subst er
      refine ⟨by cases hr; rfl, ?_⟩
      obtain ⟨ob, hob, how, e3, m3⟩ := back bk
      exact k _ (.n ob) ρ1 H' ⟨x, rfl, nF, e1.none0 hx, e3, fun y hy => (e1.io y hy).1, m2.tr m3, how⟩ rfl (φ ob hob)
    · obtain ⟨ob, hob, how, e3, m3⟩ := back bk
      exact kx i es fs dd H' (e3.minus fun y hy => (e1.io y hy).1) h1 (DvA.mv (Mv.sub fun a g => (bk.hF a (gv_sub x a g)).1) _ _ h2) ψ
theorem DE.make {n c : Nat} {Ci : Ct} {E : XK} {t : TA} (h : DAo K cp X t ρ fun ps ρ1 => ∃ ds, oks ps = some ds ∧ ps.length = n ∧ Ci (.ow true (.ob c [] []) :: ds.map .sh) fun r ρc => r = .d .non ∧ ∀ ob, ρc[0]? = some (.ow true ob) → Φ (.n ob) ρ1) : DE K cp X (tMake (cp.c c) (spC K cp (n + 1) Ci) [] E t) ρ Φ := fun F A H0 H σ e hx Q k =>
  h F A H0 H σ e hx _ fun vs ps ρ1 H1 e1 m1 o1 ⟨ds, hd, hn, hc⟩ =>
    (make_ct (Ci := fun ss Φ _ => Ci ss Φ) (Φ := fun r => Φ r ρ1) (Ψ := fun _ _ _ => False) e1 o1 hd hn hc (fun v r ρ' H' rs er φ => k v r ρ' H' (rs.tr m1) (er ▸ φ)) fun _ _ _ _ _ _ _ _ z => z.elim).2.2
/-- .. whose __init__ may raise -/
theorem DE.makeX {n c : Nat} {Ci : CtX} {t : TA} (h : DAo K cp X t ρ fun ps ρ1 => ∃ ds, oks ps = some ds ∧ ps.length = n ∧ Ci (.ow true (.ob c [] []) :: ds.map .sh) (fun r ρc => r = .d .non ∧ ∀ ob, ρc[0]? = some (.ow true ob) → Φ (.n ob) ρ1) fun i ns es _ => X.P i ns es ρ1) : DE K cp X (tMake (cp.c c) (spX K cp (n + 1) Ci) [] X.E t) ρ Φ := fun F A H0 H σ e hx Q k =>
  h F A H0 H σ e hx _ fun vs ps ρ1 H1 e1 m1 o1 ⟨ds, hd, hn, hc⟩ =>
    (make_ct (Φ := fun r => Φ r ρ1) (Ψ := fun i ns es => X.P i ns es ρ1) e1 o1 hd hn hc (fun v r ρ' H' rs er φ => k v r ρ' H' (rs.tr m1) (er ▸ φ)) fun i es fs dd H' e2 h1 h2 h3 => hx.x i es fs dd _ _ e2 h1 h2 h3).2.2
theorem putF_new : ∀ {fs : List (Str × V)} {f : Str} {v : V}, f ∉ fs.map (·.1) → putF f v fs = fs ++ [(f, v)]
  | [], f, v, _ => rfl
  | (g, x) :: r, f, v, h => by
    show (if g = f then (g, v) :: r else (g, x) :: putF f v r) = _
    rw [if_neg (fun z => h (by rw [← z]; exact List.mem_cons_self)), putF_new fun z => h (List.mem_cons_of_mem _ z)]
    rfl
/-- self.f = e, a field that it did not have -/
theorem DS.fldN {i : Nat} {tv : TE} {f : Str} (h : DEs K cp X tv ρ fun y ρ1 => ∃ b c ns ds, ρ1[i]? = some (.ow b (.ob c ns ds)) ∧ Cls K (cp.c c) ∧ NoAttr K (cp.c c) f ∧ f ∉ ns ∧ ns.length < 1000 ∧ N (ρ1.set i (.ow b (.ob c (ns ++ [f]) (ds ++ [y]))))) : DS K cp X (sFld K (tVar i) tv f) ρ N R B C := fun F A H0 H σ e hx Dd n r b c =>
  h.go e (hx _) fun v y ρ1 H1 e1 m1 dv ⟨b, c, ns, ds, hb, hc, hn, hf, hl, q⟩ => by
    obtain ⟨a, ha, _⟩ := e1.sl i _ hb
    obtain ⟨dx, fs, h1, h2, h3⟩ := own_ob e1 hb ha
    have pe : putF f v fs = fs ++ [(f, v)] := putF_new (by rw [h2]; exact hf)
    obtain ⟨e2, m2⟩ := en_upd1 (o' := .ins (cp.c c) dx (fs ++ [(f, v)])) (ds' := .ob c (ns ++ [f]) (ds ++ [y])) e1 hb ha (.ob (by rw [List.map_append, h2]; rfl) (by rw [List.map_append]; exact h3.app (.cons dv .nil)))
    refine ⟨_, ha, a, cp.c c, dx, fs, rfl, h1, hc, hn, by rw [← h2, List.length_map] at hl; exact hl, ?_⟩
    rw [pe]
    exact n _ _ _ e2 (m1.tr m2) q
/-! ### pairs -/
theorem wk_pair {J : It} {xs ys : Nat → Option V} {n : Nat} {ds : List D} (hn : n = ds.length) (w : Walk J n (fun H' => ∃ G', Mv G H G' H') (YPair xs ys))
    (h : ∀ i x y, xs i = some x → ys i = some y → ∃ d e, ds[i]? = some (.tup [d, e]) ∧ Dv K cp G H x d ∧ Dv K cp G H y e) : Wk K cp J ds G H := by
  subst hn
  refine w.mono (fun _ z => z) fun i H1 x H2 hi _ yy => ?_
  obtain ⟨T, x', y', rfl, hT, rfl, h1, h2⟩ := yy
  refine ⟨Ex.nw hT, fun G2 m tr => ?_⟩
  obtain ⟨d, e, h3, h4, h5⟩ := h i x' y' h1 h2
  exact ⟨_, h3, .tup upd_same (tr.no hT) (.cons (Dv.mv (m.tr (Mv.ex (Ex.nw hT))) _ _ h4) (.cons (Dv.mv (m.tr (Mv.ex (Ex.nw hT))) _ _ h5) .nil))⟩
theorem DI.zip {ta : TA} {Ψ : List D → List SV → Prop} (h : DAo K cp X ta ρ fun ps ρ1 => ∃ xs ys, ps = [.d (.lst xs), .d (.lst ys)] ∧ Ψ ((xs.zip ys).map fun p => .tup [p.1, p.2]) ρ1) : DI K cp X (iZip K ta) ρ Ψ := fun F A H0 H σ e hx Q k =>
  h F A H0 H σ e hx _ fun vs ps ρ1 H1 e1 m1 o1 ⟨xs, ys, hp, ψ⟩ => by
    subst hp
    cases o1 with
    | cons o1 o2 =>
      cases o2 with
      | cons o2 o3 =>
        cases o3
        cases o1 with
        | @lst a us _ h1 n1 d1 =>
          cases o2 with
          | @lst b ws _ h2 n2 d2 =>
            refine ⟨a, b, us, ws, rfl, .inl (.inl h1), .inl (.inl h2), k _ _ ρ1 H1 e1 m1 (wk_pair (n := min us.length ws.length) (by rw [List.length_map, List.length_zip, d1.len, d2.len]) ((walk_zip rfl).mono (fun H' ⟨G', m⟩ => ⟨.inl (.inl (m.k _ _ n1 h1).2), .inl (.inl (m.k _ _ n2 h2).2)⟩) fun _ _ _ _ _ _ y => y) fun i x y hx hy => ?_) ψ⟩
            obtain ⟨d, h3, h4⟩ := d1.at hx
            obtain ⟨d', h5, h6⟩ := d2.at hy
            refine ⟨d, d', ?_, h4, h6⟩
            have hz : (xs.zip ys)[i]? = some (d, d') := List.getElem?_zip_eq_some.mpr ⟨h3, h5⟩
            rw [List.getElem?_map, hz]
            rfl
def enumD (xs : List D) : List D := (List.range xs.length).map fun (i : Nat) => .tup [.int (i : Int), xs.getD i .non]
theorem DI.enum {ta : TA} {Ψ : List D → List SV → Prop} (h : DAo K cp X ta ρ fun ps ρ1 => ∃ xs, ps = [.d (.lst xs)] ∧ Ψ (enumD xs) ρ1) : DI K cp X (iEnum K ta) ρ Ψ := fun F A H0 H σ e hx Q k =>
  h F A H0 H σ e hx _ fun vs ps ρ1 H1 e1 m1 o1 ⟨xs, hp, ψ⟩ => by
    subst hp
    cases o1 with
    | cons o1 o2 =>
      cases o2
      cases o1 with
      | @lst a us _ h1 n1 d1 =>
        refine ⟨a, us, rfl, .inl (.inl h1), k _ _ ρ1 H1 e1 m1 (wk_pair (n := us.length) (by unfold enumD; rw [List.length_map, List.length_range, d1.len]) (walk_enum.mono (fun H' ⟨G', m⟩ => .inl (.inl (m.k _ _ n1 h1).2)) fun _ _ _ _ _ _ y => y) fun i x y hx hy => ?_) ψ⟩
        obtain ⟨d, h3, h4⟩ := d1.at hy
        cases hx
        refine ⟨.int i, d, ?_, .int _, h4⟩
        unfold enumD
        rw [List.getElem?_map, List.getElem?_range (List.getElem?_eq_some_iff.mp h3).1]
        simp [List.getD, h3]
end
end DD

end
section
set_option Elab.async false
set_option linter.all false
set_option maxRecDepth 100000
set_option maxHeartbeats 1000000
/-! sorted over data; tuples of the module. -/
namespace DD
open PySem PySem.Spec PyProof.Rows L2 GL
section
variable {X : Cx}
/-- sorted(xs): any data that are alike, by Python's order, stable -/
def rSortedD (K : PySem.W.Frag) : List V → Hp → VK → Prop := fun vs H Q => ∃ (a : Addr) (zs : List (V × PyData)), vs = [V.ref a] ∧ SqL K H a (zs.map (·.1)) ∧ (∀ z ∈ zs, Dp K H z.1 z.2) ∧ PySem.W.AllAlike (zs.map (·.2)) ∧ PySem.W.Sortable (zs.map (·.2)) ∧ (∀ z ∈ zs, z.2.depth ≤ 60) ∧
  ∀ p, H p = none → Q (.ref p) (upd H p (.lst ((zs.mergeSort (PySem.W.dataLe false (·.2))).map (·.1))))
theorem each_vals : ∀ {zs : List (V × PyData)} {us : List Value}, Vals (zs.map (·.1)) us → PySem.W.EachIs (fun (u : Value) (z : V × PyData) => RelV z.1 u) us zs
  | [], [], _ => .nil
  | z :: zs, u :: us, .cons a b => .cons a (each_vals b)
theorem vals_each : ∀ {zs : List (V × PyData)} {us : List Value}, PySem.W.EachIs (fun (u : Value) (z : V × PyData) => RelV z.1 u) us zs → Vals (zs.map (·.1)) us
  | [], [], _ => .nil
  | z :: zs, u :: us, .cons a b => .cons a (vals_each b)
theorem each_reads {pins : List (Addr × Obj)} {σ : L2.St} {H : Hp} {s : Shared} (I : Inv X pins σ H s) : ∀ {zs : List (V × PyData)} {us : List Value}, (∀ z ∈ zs, Dp X.K H z.1 z.2) → Vals (zs.map (·.1)) us → PySem.W.EachIs (fun (u : Value) (z : V × PyData) => ∃ as, Reads s.heap u z.2 as) us zs
  | [], [], _, _ => .nil
  | z :: zs, u :: us, h, .cons a b => .cons (Dp.reads I z.2 z.1 u (h z List.mem_cons_self) a) (each_reads I (fun y hy => h y (List.mem_cons_of_mem _ hy)) b)
theorem cr_sortedD {j : Nat} (rm : Room j X.A) : CallR X (.builtin "sorted") (rSortedD X.K) := by
  intro pins s σ H vs us Q I r h
  obtain ⟨a, zs, rfl, hs, hd, hal, hso, hz, q⟩ := h
  obtain ⟨its, rv, hl, hsz⟩ := I.list hs
  rw [Vals.ref1 r]
  have hu := rm.units
  refine PySem.W.sorted_data (R := fun (u : Value) (z : V × PyData) => RelV z.1 u) (enc := fun z : V × PyData => z.2) hl.isList (each_vals rv) (each_reads I hd rv) hal hso (by rw [List.length_map] at hsz; exact hsz) (fun b hb => by have := hz b hb; omega) fun out ho eo => ?_
  obtain ⟨ep, he'⟩ := PyProof.Rows.sortedAll_at s.heap its out.toArray
  have hlen : ((zs.mergeSort (PySem.W.dataLe false (·.2))).map (·.1)).length ≤ sizeLine := by
    rw [List.length_map, List.length_mergeSort]
    rw [List.length_map] at hsz
    exact hsz
  exact ⟨.ref _, upd H (s.heap.objs.size + 1) (.lst ((zs.mergeSort (PySem.W.dataLe false (·.2))).map (·.1))), I.laid (t' := s.toks) (fun _ _ => PyProof.Rows.sortedAll_old) (Nat.le_succ _) ⟨hlen, out, ep, vals_each eo, he'⟩, rfl, q _ (I.hok.fresh (Nat.le_succ _))⟩
end
section
variable {K : PySem.W.Frag} {cp : Cb} {X : XC} {ψ : AV → Prop} {G : Addr → Prop} {H : Hp} {v : V} {ρ : List SV} {Φ : AV → List SV → Prop}
def leD (x y : D) : Bool := PySem.W.dataLe false pyD x y
theorem dva_zip {b : Bool} : ∀ {vs : List V} {xs : List D}, DvA K cp G H vs xs → ∃ zs : List (V × D), zs.map (·.1) = vs ∧ zs.map (·.2) = xs ∧ ∀ z ∈ zs, Dv K cp G H z.1 z.2
  | [], [], _ => ⟨[], rfl, rfl, fun _ h => by cases h⟩
  | v :: vs, x :: xs, .cons a b' => by
    obtain ⟨zs, h1, h2, h3⟩ := dva_zip (b := b) b'
    exact ⟨(v, x) :: zs, by rw [List.map_cons, h1], by rw [List.map_cons, h2], fun z hz => by
      rcases List.mem_cons.mp hz with rfl | hz
      · exact a
      · exact h3 z hz⟩
theorem dva_of : ∀ {zs : List (V × D)}, (∀ z ∈ zs, Dv K cp G H z.1 z.2) → DvA K cp G H (zs.map (·.1)) (zs.map (·.2))
  | [], _ => .nil
  | z :: zs, h => .cons (h z List.mem_cons_self) (dva_of fun y hy => h y (List.mem_cons_of_mem _ hy))
theorem rl_sortedD {b : Bool} {xs : List D} (ho : ∀ x ∈ xs, okD' b x = true) (hd : ∀ x ∈ xs, (pyD x).depth ≤ 60) (hal : PySem.W.AllAlike (xs.map pyD)) (hso : PySem.W.Sortable (xs.map pyD)) (q : ψ (.n (.lst (xs.mergeSort leD)))) : RLd K cp (rSortedD K) [.lst xs] ψ := fun G H us Q h k => by
  obtain ⟨u, rfl, hu⟩ := dta1 h
  obtain ⟨p, vs, rfl, r, dv⟩ := dt_lst hu
  obtain ⟨zs, rfl, rfl, hz⟩ := dva_zip (b := b) dv
  have hm : ∀ z ∈ zs, z.2 ∈ zs.map (·.2) := fun z h => List.mem_map.mpr ⟨z, h, rfl⟩
  have e1 : (zs.map fun z => (z.1, pyD z.2)).map (·.1) = zs.map (·.1) := by rw [List.map_map]; rfl
  have e2 : (zs.map fun z => (z.1, pyD z.2)).map (·.2) = (zs.map (·.2)).map pyD := by rw [List.map_map, List.map_map]; rfl
  have e3 : ((zs.map fun z => (z.1, pyD z.2)).mergeSort (PySem.W.dataLe false (·.2))) = (zs.mergeSort fun a b => leD a.2 b.2).map fun z => (z.1, pyD z.2) :=
    (PySem.W.sort_maps (r := fun a b : V × D => leD a.2 b.2) (s := PySem.W.dataLe false (·.2)) (fun z : V × D => (z.1, pyD z.2)) (fun _ _ _ _ => rfl)).symm
  have e4 : (zs.mergeSort fun a b => leD a.2 b.2).map (·.2) = (zs.map (·.2)).mergeSort leD := PySem.W.sort_maps (r := fun a b : V × D => leD a.2 b.2) (s := leD) (·.2) fun _ _ _ _ => rfl
  refine ⟨p, zs.map fun z => (z.1, pyD z.2), rfl, by rw [e1]; exact .inl (.inl r), fun z h => ?_, by rw [e2]; exact hal, by rw [e2]; exact hso, fun z h => ?_, fun p hp => ?_⟩
  · obtain ⟨y, hy, rfl⟩ := List.mem_map.mp h
    exact Dv.dp y.2 y.1 (hz y hy) (ho _ (hm y hy))
  · obtain ⟨y, hy, rfl⟩ := List.mem_map.mp h
    exact hd _ (hm y hy)
  · have e5 : (((zs.mergeSort fun a b => leD a.2 b.2).map fun z => (z.1, pyD z.2)).map (·.1)) = (zs.mergeSort fun a b => leD a.2 b.2).map (·.1) := by rw [List.map_map]; rfl
    rw [e3, e5]
    have dvs : DvA K cp G H ((zs.mergeSort fun a b => leD a.2 b.2).map (·.1)) ((zs.map (·.2)).mergeSort leD) := by
      rw [← e4]
      exact dva_of fun z h => hz z (List.mem_mergeSort.mp h)
    exact k _ (.n (.lst ((zs.map (·.2)).mergeSort leD))) _ (rx_new hp dvs) q
/-- a tuple of texts that the module holds -/
theorem DE.kt {a : Addr} {zs : List Str} (h : ∀ H', SqT K H' a (zs.map V.str)) (q : Φ (.d (.tup (zs.map D.str))) ρ) : DE K cp X (tC (.ref a)) ρ Φ := fun F A H0 H σ e hx Q k => by
  have d : ∀ ys : List Str, DvA K cp (Gv F σ ρ) H (ys.map V.str) (ys.map D.str) := by
    intro ys
    induction ys with
    | nil => exact .nil
    | cons y ys ih => exact .cons (.str y) ih
  exact k _ (.d (.tup (zs.map D.str))) ρ H ⟨e, Mv.ex (Ex.rfl' H), .kt h (d zs) fun x hx => (List.mem_map.mp hx).elim fun y z => ⟨y, z.2.symm⟩⟩ q
end
end DD

end
section
set_option Elab.async false
set_option linter.all false
set_option maxRecDepth 100000
set_option maxHeartbeats 1000000
/-! len(set(ints)); dicts by comprehension. -/
namespace DD
open PySem PySem.Spec PyProof.Rows L2 GL
/-- how many there are, each once -/
def dist (ns : List Int) : Nat := (ns.foldl step_dedup []).length
theorem dd_len : ∀ (ns acc : List Int), (ns.foldl step_dedup acc).length ≤ acc.length + ns.length ∧ ((ns.foldl step_dedup acc).length = acc.length + ns.length ↔ ns.Nodup ∧ ∀ n ∈ ns, n ∉ acc)
  | [], acc => by simp
  | n :: ns, acc => by
    rw [List.foldl_cons, show step_dedup acc n = if (acc.any fun x => x == n) = true then acc else acc ++ [n] from rfl]
    by_cases h : (acc.any fun x => x == n) = true
    · have hm : n ∈ acc := by
        obtain ⟨x, hx, e⟩ := List.any_eq_true.mp h
        rw [← eq_of_beq e]; exact hx
      rw [if_pos h]
      obtain ⟨h1, h2⟩ := dd_len ns acc
      refine ⟨by rw [List.length_cons]; omega, ?_⟩
      rw [List.length_cons]
      constructor
      · intro e; omega
      · rintro ⟨_, q⟩
        exact absurd hm (q n List.mem_cons_self)
    · have hm : n ∉ acc := fun z => h (List.any_eq_true.mpr ⟨n, z, by simp⟩)
      rw [if_neg h]
      obtain ⟨h1, h2⟩ := dd_len ns (acc ++ [n])
      rw [List.length_append, List.length_singleton] at h1 h2
      refine ⟨by rw [List.length_cons]; omega, ?_⟩
      rw [List.length_cons, show acc.length + (ns.length + 1) = acc.length + 1 + ns.length by omega, h2, List.nodup_cons]
      constructor
      · rintro ⟨a, b⟩
        refine ⟨⟨fun z => b n z (by simp), a⟩, fun m hm' => ?_⟩
        rcases List.mem_cons.mp hm' with rfl | hm'
        · exact hm
        · exact fun z => b m hm' (by simp [z])
      · rintro ⟨⟨a, a2⟩, b⟩
        refine ⟨a2, fun m hm' z => ?_⟩
        rcases List.mem_append.mp z with z | z
        · exact b m (List.mem_cons_of_mem _ hm') z
        · exact a (by rw [← List.mem_singleton.mp z]; exact hm')
theorem dist_le (ns : List Int) : dist ns ≤ ns.length := by have := (dd_len ns []).1; simpa [dist] using this
theorem dist_iff (ns : List Int) : dist ns = ns.length ↔ ns.Nodup := by have := (dd_len ns []).2; simpa [dist] using this
theorem fm_eq (ns : List Int) : (firstMet (fun i => ns.getD i 0) ns.length).length = dist ns := by
  unfold firstMet dist
  congr 2
  apply List.ext_getElem?
  intro i
  rw [List.getElem?_map]
  by_cases h : i < ns.length
  · rw [List.getElem?_range h]
    simp [List.getD, List.getElem?_eq_getElem h]
  · rw [List.getElem?_eq_none (by rw [List.length_range]; omega), List.getElem?_eq_none (by omega)]
    rfl
section
variable {X : Cx}
def tLenSetI (K : PySem.W.Frag) (ta : TE) : TE := fun σ H Q => ta σ H fun x H1 => ∃ (l : Addr) (ns : List Int), x = .ref l ∧ SqL K H1 l (ns.map V.int) ∧ ns.length ≤ 4000 ∧ Q (.int (dist ns)) H1
theorem pe_lenSetI {a : Expr} {ta : TE} {p1 p2 p3 p4 : Pos} (hc : X.calm = true) (hg : Gl X "len") (hm : X.mg "len" = none) (hg2 : Gl X "set") (hm2 : X.mg "set" = none) (ha : PE X a ta)
    (na : starEach [a] X.env = (false, eval a X.env) :: starEach [] X.env := by rfl) : PE X (.Call (.Name "len" p1) [.Call (.Name "set" p2) [a] [] p3] [] p4) (tLenSetI X.K ta) := by
  refine ⟨fun pins s σ H Q I h => Call_ (ld_blt I hg hm boot_len (PyProof.Rows.callWith_builtin1 (PyProof.Rows.args_cons (Call_ (ld_blt I hg2 hm2 boot_set ?inner)) rfl) rfl rfl))⟩
  refine PyProof.Rows.callWith_type1 (PyProof.Rows.args_cons (thn (ha.run pins s σ H _ I h) fun v s1 ⟨x, H1, I1, r1, q1⟩ => PyProof.Rows.args_nil ?_) na) na rfl
  obtain ⟨l, ns, rfl, hq, hn, q1⟩ := q1
  cases r1
  obtain ⟨its, r, pl, hz⟩ := I1.list hq
  have hl : its.toArray.size = ns.length := by
    have := r.length
    rw [List.length_map] at this
    rw [List.size_toArray]; omega
  refine PySem.call_set_list (I1.ok.hd hc) pl.isList (ns := ns) (by simpa using r.ints) (by rw [hl]; show ns.length + 1 < 4096; omega) fun h' tk hS hk => PyProof.Rows.args_nil ?_
  rw [hl, fm_eq] at hS
  obtain ⟨o, es, ep, t, ho, hex, hd, _, _, _, hf, hnn⟩ := hS
  have I2 : Inv X pins σ H1 { s1 with heap := h', toks := tk } := I1.kept fun b u e => hk b u (Heap.lt_size e) e
  have dl := dist_le ns
  exact call_len_set ho hex hd hf (by rw [hnn] <;> omega) ⟨.int (dist ns), H1, I2.tok _, ⟨_, by rw [hnn]⟩, q1⟩
end
section
variable {K : PySem.W.Frag} {cp : Cb} {X : XC} {F : Addr → Prop} {A : Pass} {G : Addr → Prop} {H0 H H' H1 : Hp} {σ : L2.St} {v : V} {ρ : List SV} {Φ : AV → List SV → Prop}
theorem DE.lenSet {te : TE} (h : DEo K cp X te ρ fun p ρ1 => ∃ ns : List Int, p.at ρ1 = some (.lst (ns.map D.int)) ∧ ns.length ≤ 4000 ∧ Φ (.d (.int (dist ns))) ρ1) : DE K cp X (tLenSetI K te) ρ Φ := fun F A H0 H σ e hx Q k =>
  h.go e hx fun v p ρ1 H1 e1 m1 o1 ⟨ns, hp, hn, φ⟩ => by
    obtain ⟨a, vs, rfl, r, dv⟩ := dt_lst (o1.dt e1 hp)
    rw [ints_of dv] at r
    exact ⟨a, ns, rfl, .inl (.inl r), hn, k _ (.d (.int _)) ρ1 H1 ⟨e1, m1, .int _⟩ φ⟩
end
end DD

end
section
set_option Elab.async false
set_option linter.all false
set_option maxRecDepth 100000
set_option maxHeartbeats 1000000
/-! dicts by comprehension; d[k] = v. -/
namespace DD
open PySem PySem.Spec PyProof.Rows L2 GL
section
variable {K : PySem.W.Frag} {cp : Cb} {X : XC} {F : Addr → Prop} {A : Pass} {G : Addr → Prop} {H0 H H' H1 : Hp} {σ : L2.St} {v : V} {ρ : List SV} {Φ : AV → List SV → Prop} {N : List SV → Prop} {R : AV → List SV → Prop} {B C : List SV → Prop}
theorem putK_new {kvs : List (Key × V)} {k : Key} {v : V} (h : k ∉ kvs.map (·.1)) : putK kvs k v = kvs ++ [(k, v)] := by
  unfold putK
  rw [if_neg]
  intro z
  obtain ⟨p, hp, e⟩ := List.any_eq_true.mp z
  exact h (List.mem_map.mpr ⟨p, hp, of_decide_eq_true e⟩)
/-- {k : v for g in wi if tt}, the keys unlike -/
theorem DE.dcP {wi : TI} {g : TG} {tt : TT} {tk tv : TE} {vs : List Nat} {T : Type} {ts : List Nat} (xs : List T) (enc : T → D) (pd : T → Bool) (kf : T → Key) (f : T → D) (hz : xs.length ≤ 900000) (hk : ((xs.filter pd).map kf).Nodup)
    (hi : DI K cp X wi ρ fun ds ρ1 => ρ1 = ρ ∧ ds = xs.map enc) (hn : nown ρ vs)
    (hs : ∀ x ∈ xs, DG K cp g ts (enc x) (wipeS ρ vs) fun ρ3 => DT K cp XC.q tt ρ3 fun b ρ4 => b = pd x ∧ if b = true then DEs K cp XC.q tk ρ4 (fun y ρ5 => keyOf y = some (kf x) ∧ DEs K cp XC.q tv ρ5 fun z ρ6 => z = f x ∧ wipeS ρ6 vs = wipeS ρ vs ∧ nown ρ6 vs) else wipeS ρ4 vs = wipeS ρ vs ∧ nown ρ4 vs)
    (hts : (ts.all fun i => vs.contains i) = true) (q : Φ (.n (.dk ((xs.filter pd).map kf) ((xs.filter pd).map f))) ρ) : DE K cp X (tDc wi g tt tk tv vs) ρ Φ := fun F A H0 H σ e hx Q k =>
  hi F A H0 H σ e hx _ fun J ds ρ1 H1 e1 m1 wk ⟨er, ed⟩ => by
    subst er
    subst ed
    have hts : ∀ i ∈ ts, i ∈ vs := fun i hi => by simpa using List.all_eq_true.mp hts i hi
    intro D hD
    have h0D := e1.none0 hD
    have nF : ¬ F D := fun f => e1.notF hD (.inl f)
    have hA : ∀ x ∈ A, F x.2 := fun x hx => (e1.io x hx).1
    have hAD : ∀ x ∈ A, D ≠ x.2 := fun x hx z => nF (z ▸ hA x hx)
    let Pv : Nat → Hp → Prop := fun i H => ∃ kvs : List (Key × V), H D = some (.dK kvs) ∧ kvs.map (·.1) = ((xs.take i).filter pd).map kf ∧ DvA K cp (Gv (plus F D) σ ρ1) H (kvs.map (·.2)) (((xs.take i).filter pd).map f) ∧ En K cp (plus F D) A H0 H σ ρ1 ∧ Mv (Gv F σ ρ1) H1 (Gv (plus F D) σ ρ1) H
    have wl : (xs.map enc).length = xs.length := List.length_map ..
    refine ⟨fun i m H => m = xs.length - i ∧ i ≤ xs.length ∧ Pv i H, ⟨_, rfl, Nat.zero_le _, [], upd_same, rfl, .nil, e1.plus hD (Ex.nw hD) upd_same, (Mv.nw hD).tr ((Mv.ex (Ex.nw hD)).tr (Mv.sub gv_plus))⟩, ?_⟩
    rintro i m H2 ⟨rfl, hi, kvs, hw, hkv, dw, e2, m2⟩
    by_cases hlt : i < xs.length
    · refine .inr ⟨wk.goes i H2 (by rw [wl]; exact hlt) ⟨_, m2⟩, Pv (i + 1), fun H' p => ⟨_, by omega, rfl, hlt, p⟩, fun x H3 yy => ?_⟩
      obtain ⟨ex, y⟩ := wk.yields i H2 x H3 (by rw [wl]; exact hlt) ⟨_, m2⟩ yy
      obtain ⟨d, hx, dv⟩ := y _ m2 e2.trk
      rw [List.getElem?_map] at hx
      cases hxi : xs[i]? with
      | none => rw [hxi] at hx; cases hx
      | some t =>
        rw [hxi] at hx
        cases hx
        have ht : xs.take (i + 1) = xs.take i ++ [t] := by rw [List.take_add_one, hxi]; rfl
        have e3 := e2.ex ex
        have hw3 := ex _ _ hw
        have dw3 := DvA.mv (Mv.ex ex) _ _ dw
        have ew := (e3.h0 (.inr rfl) hAD hw3 h0D).wipe hn
        have sb : Mv (Gv (plus F D) σ ρ1) H3 (Gv (plus F D) (wipe σ vs) (wipeS ρ1 vs)) H3 := Mv.sub fun a g => (gv_wipe hn a).mp g
        refine hs t (List.mem_of_getElem? hxi) (plus F D) A _ H3 (wipe σ vs) ew x (Dv.mv sb _ _ dv) _ fun σ4 ρ4 e4 g4 w4 q4 => ?_
        have wq : wipe σ4 vs = wipe σ vs := by rw [w4 vs hts]; exact wipe_wipe vs fun i h => h
        refine ⟨wq, ?_⟩
        have m4 : Mv (Gv (plus F D) (wipe σ vs) (wipeS ρ1 vs)) H3 (Gv (plus F D) σ4 ρ4) H3 := Mv.sub g4
        have fin : ∀ {ρx : List SV} {Hx : Hp}, En K cp (plus F D) A (upd H0 D (.dK kvs)) Hx σ4 ρx → Mv (Gv (plus F D) σ4 ρ4) H3 (Gv (plus F D) σ4 ρx) Hx → wipeS ρx vs = wipeS ρ1 vs → nown ρx vs →
            Hx D = some (.dK kvs) ∧ En K cp (plus F D) A H0 Hx σ ρ1 ∧ Mv (Gv F σ ρ1) H1 (Gv (plus F D) σ ρ1) Hx ∧ DvA K cp (Gv (plus F D) σ ρ1) Hx (kvs.map (·.2)) (((xs.take i).filter pd).map f) ∧ ∀ a, Gv (plus F D) σ ρ1 a → Gv (plus F D) σ4 ρx a := fun {ρx Hx} ex' mx wx nx => by
          obtain ⟨ea, ma⟩ := e3.back hn wq (ex'.h0b (.inr rfl) h0D) (m4.tr mx) nx wx.symm (fun _ _ => rfl) rfl
          refine ⟨ex'.fr D _ hAD upd_same, ea, m2.tr ((Mv.ex ex).tr ma), DvA.mv ma _ _ dw3, fun a ga => ?_⟩
          rw [← gv_wipe (σ := σ4) nx a, wq, wx, gv_wipe hn a]
          exact ga
        refine (show DT K cp XC.q tt ρ4 _ from q4) (plus F D) A _ H3 σ4 e4 xq _ fun b ρ5 H5 e5 m5 ⟨hb, q5⟩ => ?_
        cases b with
        | false =>
          rw [if_neg (by decide)] at q5
          obtain ⟨f1, f2, f3, f4, f5⟩ := fin e5 m5 q5.1 q5.2
          have e12 : (xs.take (i + 1)).filter pd = (xs.take i).filter pd := by
            rw [ht, List.filter_append, List.filter_cons_of_neg (by rw [← hb]; decide)]
            simp
          exact iteF ⟨kvs, f1, by rw [e12]; exact hkv, by rw [e12]; exact f4, f2, f3⟩
        | true =>
          rw [if_pos rfl] at q5
          refine iteT (DEs.go (show DEs K cp XC.q tk ρ5 _ from q5) e5 xq fun y yd ρ6 H6 e6 m6 dy ⟨hy, q6⟩ => DEs.go (show DEs K cp XC.q tv ρ6 _ from q6) e6 xq fun z zd ρ7 H7 e7 m7 dz ⟨hz', w7, n7⟩ => ?_)
          obtain ⟨f1, f2, f3, f4, f5⟩ := fin e7 (m5.tr (m6.tr m7)) w7 n7
          have e12 : (xs.take (i + 1)).filter pd = (xs.take i).filter pd ++ [t] := by rw [ht, List.filter_append, List.filter_cons_of_pos hb.symm]; rfl
          have hnk : kf t ∉ kvs.map (·.1) := by
            rw [hkv]
            have hp : ((xs.take (i + 1)).filter pd).map kf <+: (xs.filter pd).map kf := by
              have hp0 : xs.take (i + 1) <+: xs := List.take_prefix _ _
              obtain ⟨r, hr⟩ := hp0
              refine ⟨(r.filter pd).map kf, ?_⟩
              rw [← List.map_append, ← List.filter_append, hr]
            have nd := List.Sublist.nodup hp.sublist hk
            rw [e12, List.map_append, List.nodup_append] at nd
            intro z
            exact nd.2.2 _ z _ (by simp) rfl
          obtain ⟨p1, p2⟩ := en_new (o' := .dK (kvs ++ [(kf t, z)])) (H' := upd H7 D (.dK (kvs ++ [(kf t, z)]))) f2 nF hA h0D f1 upd_same (fun a u na ha => .of (by rw [upd_ne na]; exact ha)) (tabs_upd f2.tb f1 trivial) trivial trivial
          have hlen : kvs.length < sizeLine := by
            have l1 : kvs.length = (((xs.take i).filter pd).map kf).length := by rw [← hkv, List.length_map]
            rw [List.length_map] at l1
            have l2 := List.length_filter_le pd (xs.take i)
            rw [List.length_take] at l2
            exact sz_ok (by omega)
          refine ⟨kvs, kf t, key_dv hy (Dv.mv m7 _ _ dy), f1, hlen, ?_⟩
          rw [putK_new hnk]
          refine ⟨kvs ++ [(kf t, z)], upd_same, by rw [e12, List.map_append, List.map_append, hkv]; rfl, ?_, p1, f3.tr p2⟩
          rw [e12, List.map_append, List.map_append]
          refine DvA.mv p2 _ _ (f4.app (.cons ?_ .nil))
          have := Dv.mv (Mv.sub f5) _ _ dz
          rw [hz'] at this
          exact this
    · have ei : i = xs.length := by omega
      subst ei
      refine .inl ⟨by have := wk.stops H2 ⟨_, m2⟩; rw [wl] at this; exact this, ?_⟩
      rw [List.take_length] at dw hkv
      exact k _ (.n (.dk ((xs.filter pd).map kf) ((xs.filter pd).map f))) ρ1 H2 ⟨D, rfl, nF, h0D, e2, hA, m1.tr m2, _, hw, .dk hkv dw⟩ q
end
end DD

end
section
set_option Elab.async false
set_option linter.all false
set_option maxRecDepth 100000
set_option maxHeartbeats 2000000
/-! enumerate(tuple). -/
namespace DD
open PySem PySem.Spec PyProof.Rows L2 GL
set_option maxHeartbeats 2000000 in
theorem enum_mk {v : Value} {o : Obj} {Hq : Heap → Prop} (B : Begins v o Hq) :
    Meets (Builtin.«enumerate.__new__» ⟨[.type "enumerate", v], []⟩) (fun _ R s => Hq s.heap ∧
      R (.ok (.ret (.ref (s.heap.push o).objs.size))) { s with heap := (s.heap.push o).push { cls := .type "enumerate", data := .fields #[.none, .bool false, .ref s.heap.objs.size, rawInt 0, .none, .none] } }) :=
  .of_wp fun prog w A R s h => by
    obtain ⟨hp, gs, dr, tks, os⟩ := s
    obtain ⟨hq, h⟩ := h
    have hsub := sub_enumerate
    have it : ∀ {A' : Around} {E : Value → Shared → Prop} {Q : Value → Shared → Prop}, Q (.ref hp.objs.size) ⟨hp.push o, gs, dr, tks, os⟩ → wpAny (model prog w) A' (pyIter v) Q E ⟨hp, gs, dr, tks, os⟩ :=
      fun q => B.iter prog w _ _ ⟨hp, gs, dr, tks, os⟩ _ hq q
    wp_walk using it
    refine wpAny_stack_any fun st => wpAny_pure ?_
    split
    · rename_i c _ _ _ _ _
      cases (c == Value.type "enumerate") <;> (wp_walk using it; exact ⟨_, rfl, h⟩)
    · wp_walk using it
      exact ⟨_, rfl, h⟩
theorem enum_call {prog : Program} {w : World} {A : Around} {E : Value → Shared → Prop} {s : Shared} {v : Value} {o : Obj} {Hq : Heap → Prop} {Q : Value → Shared → Prop} (B : Begins v o Hq) (hq : Hq s.heap)
    (k : ∀ h', IsEnum h' (s.heap.objs.size + 1) s.heap.objs.size 0 .none → h'.get? s.heap.objs.size = some o → (∀ b u, s.heap.get? b = some u → h'.get? b = some u) → Q (.ref (s.heap.objs.size + 1)) { s with heap := h' }) :
    wpAny (model prog w) A (call (.type "enumerate") [v]) Q E s := by
  refine callType_new F.called_enumerate (by decide) (F.typeCall_enumerate_1 _) (F.newCall_enumerate_1 _) (fun obj => F.args_object_init_2 obj _) F.entry_enumerate_new (enum_mk B) ⟨hq, ?_⟩
  have sz : (s.heap.push o).objs.size = s.heap.objs.size + 1 := Heap.size_push ..
  let en : Obj := { cls := .type "enumerate", data := .fields #[.none, .bool false, .ref s.heap.objs.size, rawInt 0, .none, .none] }
  have g : ((s.heap.push o).push en).get? (s.heap.objs.size + 1) = some en := by
    have := Heap.get?_push_size (s.heap.push o) (o := en) rfl
    rwa [sz] at this
  show _ ∧ _
  rw [sz]
  exact ⟨⟨_, g, rfl⟩, k _ g (Heap.get?_push_of_some _ (Heap.get?_push_size _ B.free)) fun b u x => Heap.get?_push_of_some _ (Heap.get?_push_of_some _ x)⟩
theorem enum_end {prog : Program} {w : World} {A : Around} {E : Value → Shared → Prop} {s : Shared} {e it t : Addr} {i : Nat} {c : Int} {items : Array Value} {old : Value} {Q : Option Value → Shared → Prop} (hh : A.handled = none) (he : IsEnum s.heap e it c old)
    (hit : s.heap.IsTupleIter it t i) (ht : s.heap.IsTuple t items) (hx : items[i]? = none) (k : ∀ h', Heap.ExtBut it s.heap h' → Q none { s with heap := h' }) : wpAny (model prog w) A (pyNext (.ref e)) Q E s := by
  have ty : s.TypeIs (.ref e) "enumerate" := ⟨_, he, rfl⟩
  unfold pyNext
  refine wpAny_bind (wpAny_attempt (wpAny_callSpecial?_slot (name := Str.ofString "__next__") ty F.slot_enumerate_next (wpAny_call_entry F.slot_enumerate_next ty F.entry_enumerate_next ?_ (F.args_enumerate_next_1 _))))
  refine wpAny_bind (m := field (.ref e) 2) (wpAny_field he rfl (x := .ref it) rfl (wpAny_bind (wpAny_nextOf_tuple_end hh hit ht hx fun h' x xe ⟨o, ho, hc⟩ => ?_)))
  exact wpAny_bind (wpAny_isInstance (T := "StopIteration") (b := true) ⟨o, ho, hc⟩ isSubtype_stop (wpAny_pure (k _ xe)))
/-- the tuple at a, each item in a new pair with its number -/
def Itu (K : PySem.W.Frag) (a : Addr) : It :=
  ⟨fun i H => ∃ (xs : List V) (x : V), SqT K H a xs ∧ xs[i]? = some x, fun i H v H' => ∃ T x, v = .ref T ∧ H T = none ∧ H' = upd H T (.tup [.int (i : Nat), x]) ∧ ∀ xs, SqT K H a xs → xs[i]? = some x, fun i H => ∃ xs : List V, SqT K H a xs ∧ xs.length ≤ i⟩
theorem turn_enumT {P : Program} {w : World} {K : PySem.W.Frag} {elts : List Expr} {kk : Nat} {tpos : Pos} (a e it : Addr) :
    Turn P w K (.Tuple elts kk tpos) (Itu K a) [e, it] e (fun i h => (∃ old, IsEnum h e it ((i : Nat) : Int) old) ∧ h.IsTupleIter it a i ∧ e ≠ it ∧ a ≠ it ∧ a ≠ e) where
  mem := by simp
  obj := fun i h st b hb => by
    obtain ⟨⟨old, he⟩, ⟨o, ho, hc, hd⟩, _⟩ := st
    have z : b = e ∨ b = it := by simpa using hb
    rcases z with rfl | rfl
    · exact ⟨_, he, fun v q => nomatch q⟩
    · exact ⟨o, ho, fun v q => by rw [hd] at q; cases q⟩
  keep := fun i h h' st k => by
    obtain ⟨⟨old, he⟩, hi, ns⟩ := st
    exact ⟨⟨old, k e (by simp) _ he⟩, hi.at fun o q => k it (by simp) o q, ns⟩
  item := by
    intro X hP hw hK hc i pins s σ H E I hf st hg
    subst hP hw hK
    obtain ⟨⟨old, he⟩, hit, n1, n2, n3⟩ := st
    obtain ⟨xs, x, hq, hx⟩ := hg
    obtain ⟨its, rv, p, hz⟩ := I.tuple hq
    obtain ⟨u, hu, ru⟩ := rv.get hx
    have le : e < s.heap.objs.size := Heap.lt_size he
    have li : it < s.heap.objs.size := by obtain ⟨_, q, _⟩ := hit; exact Heap.lt_size q
    have lt : i < its.toArray.size := by rw [List.size_toArray]; exact (List.getElem?_eq_some_iff.mp hu).1
    refine wpAny_pyNext_enum_itemD (Draws.tuple (show X.A.in1.handled = none from I.ok.hd hc) it a n2 its.toArray) he ⟨hit, p⟩ lt n1 (by simp [n1, n3.symm]) fun y h1 tks hy ho hst hT hsz hk => ?_
    have ey : y = u := by
      have hy : its.toArray[i]? = some y := hy
      have hy2 : its[i]? = some y := by simpa using hy
      rw [hu] at hy2; exact (Option.some.inj hy2).symm
    subst ey
    refine ⟨_, rfl, wpAny_letOwnedTupleGo_enum (s := { s with heap := h1, toks := tks + 1 }) ho fun h2 he2 sb => ?_⟩
    have hT2 : h2.get? s.heap.objs.size = some { cls := .type "tuple", data := .seq #[.int i tks, y] } := (sb.2 _ (Nat.ne_of_gt le)).trans hT
    have I1 : Inv X pins σ (upd H s.heap.objs.size (.tup [.int (i : Nat), x])) { s with heap := h2, toks := tks + 1 } := by
      refine I.turnedNew (ch := [e, it]) (fun b ob hb q => ?_) hf (Nat.le_refl _) ⟨by show 2 ≤ sizeLine; decide, [.int i tks, y], .cons ⟨_, rfl⟩ (.cons ru .nil), _, hT2, rfl, _, rfl⟩
      have b1 : b ≠ e := fun z => hb (by simp [z])
      have b2 : b ≠ it := fun z => hb (by simp [z])
      exact (sb.2 b b1).trans (hk b ob b1 b2 q)
    refine ⟨.ref s.heap.objs.size, _, I1, rfl, ⟨_, x, rfl, I.hok.fresh (Nat.le_refl _), rfl, fun ys hy => by rw [I.tuple_inj hy hq]; exact hx⟩, ⟨⟨y, ?_⟩, hst.1.at fun o q => (sb.2 it n1.symm).trans q, n1, n2, n3⟩, fun b hb => ?_⟩
    · rw [show ((i + 1 : Nat) : Int) = (i : Int) + 1 by omega]
      exact he2
    · have lb : b < s.heap.objs.size := by
        have z : b = e ∨ b = it := by simpa using hb
        rcases z with rfl | rfl
        · exact le
        · exact li
      have nb : b ≠ s.heap.objs.size := Nat.ne_of_lt lb
      rw [upd_ne nb]
      exact (hf b hb).1
  done := by
    intro X hP hw hK hc i pins s σ H E I hf st hg
    subst hP hw hK
    obtain ⟨⟨old, he⟩, hit, n1, n2, n3⟩ := st
    obtain ⟨xs, hq, hx⟩ := hg
    obtain ⟨its, rv, p, hz⟩ := I.tuple hq
    obtain ⟨f0, f1, f2, f3, f4, f5⟩ := hf it (by simp)
    have hl := rv.length
    have gone : its.toArray[i]? = none := by simp; omega
    exact enum_end (I.ok.hd hc) he hit p gone fun h1 eb => ⟨rfl, I.turned (t' := s.toks) (fun b o hb q => eb b o hb q) f0 f1 f3 f4 f5⟩
  self := fun A i s Q E st h => by
    obtain ⟨⟨_, he⟩, _⟩ := st
    exact wpAny_pyIter_enum he h
def iEnumT (K : PySem.W.Frag) (ta : TA) : TI := fun σ H R => ta σ H fun vs H1 => ∃ a xs, vs = [.ref a] ∧ SqT K H1 a xs ∧ R (Itu K a) H1
theorem pi_enumT {X : Cx} {e : Expr} {ta : TA} {p1 p2 p3 : Pos} {elts : List Expr} {kk : Nat} (hg : Gl X "enumerate") (hm : X.mg "enumerate" = none) (ha : PA X [e] ta) (hs : starEach [e] X.env = [(false, eval e X.env)] := by rfl) :
    PI X (.Tuple elts kk p3) (.Call (.Name "enumerate" p1) [e] [] p2) (iEnumT X.K ta) := by
  refine ⟨fun pins s σ H R I h => Call_ (ld_blt I hg hm boot_enumerate (PyProof.Rows.callWith_type1 (thn (ha.run p2 pins s σ H _ I h) fun us s1 ⟨vs, H1, I1, r1, a, xs, ev, hq, q⟩ => ?_) hs rfl))⟩
  subst ev
  cases r1 with
  | cons r rr =>
    cases rr
    cases r
    obtain ⟨its, rv, pt, hz⟩ := I1.tuple hq
    have la : a < s1.heap.objs.size := pt.lt
    refine enum_call (begins_tuple a its.toArray) pt fun h1 he hit hk => wpAny_pyIter_enum he ?_
    have I2 : Inv X pins σ H1 { s1 with heap := h1 } := I1.kept (t' := s1.toks) hk
    refine ⟨s1.heap.objs.size + 1, [s1.heap.objs.size + 1, s1.heap.objs.size], _, _, H1, rfl, I2, turn_enumT a (s1.heap.objs.size + 1) s1.heap.objs.size, ⟨⟨.none, he⟩, ⟨_, hit, rfl, rfl⟩, Nat.succ_ne_self _, Nat.ne_of_lt la, Nat.ne_of_lt (Nat.lt_succ_of_lt la)⟩, fun b hb => ?_, q⟩
    have hle : s1.heap.objs.size ≤ b := by
      have z : b = s1.heap.objs.size + 1 ∨ b = s1.heap.objs.size := by simpa using hb
      rcases z with rfl | rfl
      · exact Nat.le_succ _
      · exact Nat.le_refl _
    exact I1.fpOk hle (I1.hok.fresh hle)
section
variable {K : PySem.W.Frag} {cp : Cb} {X : XC} {G : Addr → Prop} {H : Hp} {ρ : List SV}
theorem walk_enumT {a : Addr} {xs : List V} : Walk (Itu K a) xs.length (fun H => SqT K H a xs) (YPair (fun i => some (.int (i : Nat))) (fun i => xs[i]?)) := by
  refine ⟨fun i H hi q => ⟨xs, xs[i], q, by simp [hi]⟩, fun H q => ⟨xs, q, Nat.le_refl _⟩, fun i H v H' hi q y => ?_⟩
  obtain ⟨T, x, h1, h2, h3, h4⟩ := y
  exact ⟨T, .int (i : Nat), x, h1, h2, h3, rfl, h4 xs q⟩
theorem DI.enumT {ta : TA} {Ψ : List D → List SV → Prop} (h : DAo K cp X ta ρ fun ps ρ1 => ∃ xs, ps = [.d (.tup xs)] ∧ Ψ (enumD xs) ρ1) : DI K cp X (iEnumT K ta) ρ Ψ := fun F A H0 H σ e hx Q k =>
  h F A H0 H σ e hx _ fun vs ps ρ1 H1 e1 m1 o1 ⟨xs, hp, ψ⟩ => by
    subst hp
    cases o1 with
    | cons o1 o2 =>
      cases o2
      have key : ∀ {a : Addr} {us : List V}, (∀ G2 H2, Mv (Gv F σ ρ1) H1 G2 H2 → SqT K H2 a us) → DvA K cp (Gv F σ ρ1) H1 us xs → SqT K H1 a us → ∃ a' xs', [V.ref a] = [V.ref a'] ∧ SqT K H1 a' xs' ∧ Q (Itu K a') H1 := fun {a us} st d1 h1 => by
        refine ⟨a, us, rfl, h1, k _ _ ρ1 H1 e1 m1 (wk_pair (n := us.length) (by unfold enumD; rw [List.length_map, List.length_range, d1.len]) (walk_enumT.mono (fun H' ⟨G', m⟩ => st G' H' m) fun _ _ _ _ _ _ y => y) fun i x y hx hy => ?_) ψ⟩
        obtain ⟨d, h3, h4⟩ := d1.at hy
        cases hx
        refine ⟨.int i, d, ?_, .int _, h4⟩
        unfold enumD
        rw [List.getElem?_map, List.getElem?_range (List.getElem?_eq_some_iff.mp h3).1]
        simp [List.getD, h3]
      cases o1 with
      | @tup a us _ h1 n1 d1 => exact key (fun G2 H2 m => .inl (.inl (m.k _ _ n1 h1).2)) d1 (.inl (.inl h1))
      | @kt a us _ h1 d1 h3 => exact key (fun G2 H2 m => h1 H2) d1 (h1 H1)
end
end DD

end
section
set_option Elab.async false
set_option linter.all false
set_option maxRecDepth 100000
set_option maxHeartbeats 1000000
/-! Loops over encoded lists, slots that may be empty, tuples joined. -/
namespace DD
open PySem PySem.Spec PyProof.Rows L2 GL
section
variable {K : PySem.W.Frag} {cp : Cb} {X : XC} {F : Addr → Prop} {A : Pass} {H0 H H' H1 : Hp} {σ : L2.St} {ρ : List SV} {Φ : AV → List SV → Prop} {N B C : List SV → Prop} {R : AV → List SV → Prop} {ψ : AV → Prop}
/-- a slot that is empty or holds a known datum -/
def so : Option D → SV
  | none => .no
  | some d => .sh d
theorem free_so {i : Nat} {o : Option D} (h : ρ[i]? = some (so o)) : free ρ i := by
  cases o with
  | none => exact free_of (by unfold freeB; rw [h]; rfl)
  | some d => exact free_of (by unfold freeB; rw [h]; rfl)
theorem r2_catTx {x y : D} {xs ys : List D} (hx : x = .tup xs) (hy : y = .tup ys) (hl : xs.length + ys.length ≤ sizeLine) (q : ψ (.d (.tup (xs ++ ys)))) : R2t K cp (rCatA K) x y ψ := by subst hx hy; exact r2_catT hl q
theorem DS.forM {wi : TI} {g : TG} {tb : TS} {T : Type} (xs : List T) (enc : T → D) (h : DI K cp X wi ρ fun ds ρ1 => ds = xs.map enc ∧ ∃ I : List T → List SV → Prop, I [] ρ1 ∧
    (∀ l x r ρ2, xs = l ++ x :: r → I l ρ2 → DGo K cp g (enc x) ρ2 fun ρ3 => DS K cp X tb ρ3 (I (l ++ [x])) R N (I (l ++ [x]))) ∧ ∀ ρ2, I xs ρ2 → N ρ2) : DS K cp X (tFor wi g tb) ρ N R B C := by
  refine DS.for fun F A H0 H σ e hx Q k => h F A H0 H σ e hx Q fun J ds ρ1 H1 e1 m1 wk ⟨ed, I, i0, hs, hd⟩ => ?_
  subst ed
  refine k J _ ρ1 H1 e1 m1 wk ⟨fun i ρ => I (xs.take i) ρ, (show I (xs.take 0) ρ1 by rw [List.take_zero]; exact i0), ?_, ?_⟩
  · intro i d ρ2 hi q
    rw [List.getElem?_map] at hi
    obtain ⟨x, hx, rfl⟩ := Option.map_eq_some_iff.mp hi
    have ht : xs.take (i + 1) = xs.take i ++ [x] := by rw [List.take_add_one, hx]; rfl
    show DGo K cp g (enc x) ρ2 fun ρ3 => DS K cp X tb ρ3 (I (xs.take (i + 1))) R N (I (xs.take (i + 1)))
    rw [ht]
    refine hs _ x (xs.drop (i + 1)) ρ2 ?_ q
    obtain ⟨hl, he⟩ := List.getElem?_eq_some_iff.mp hx
    rw [← he, ← List.drop_eq_getElem_cons hl, List.take_append_drop]
  · intro ρ2 q
    refine hd ρ2 ?_
    have : (xs.map enc).length = xs.length := List.length_map ..
    have q : I (xs.take (xs.map enc).length) ρ2 := q
    rw [this, List.take_length] at q
    exact q
theorem DE.tupOf {ta : TA} (h : DAo K cp X ta ρ fun ps ρ1 => ∃ x xs, ats ρ1 ps = some [x] ∧ seqD x = some xs ∧ Φ (.d (.tup xs)) ρ1) : DE K cp X (tCB (fun zs H Q => ∃ p ys, zs = [V.ref p] ∧ ((SqL K H p ys ∧ ∀ (l : Addr), H l = none → Q (V.ref l) (upd H l (HO.tup ys))) ∨ SqT K H p ys ∧ Q (V.ref p) H)) ta) ρ Φ :=
  DE.cbT fun F A H0 H σ e hx Q k => h F A H0 H σ e hx Q fun vs ps ρ1 H1 e1 m1 o1 ⟨x, xs, e2, es, q⟩ => k vs ps ρ1 H1 e1 m1 o1 ⟨_, e2, rl_tuple es q⟩
/-- an invariant that the walk leaves closed -/
inductive Keep (p : Prop) : Prop
  | a : p → Keep p
  | b : p → Keep p
theorem Keep.out {p : Prop} : Keep p → p
  | .a h => h
  | .b h => h
end
end DD

end
section
set_option Elab.async false
set_option linter.all false
set_option maxRecDepth 100000
set_option maxHeartbeats 1000000
/-! xs != [], abs, powers. -/
namespace DD
open PySem PySem.Spec PyProof.Rows L2 GL
section
variable {K : PySem.W.Frag} {cp : Cb} {X : XC} {F : Addr → Prop} {A : Pass} {H0 H H' H1 : Hp} {σ : L2.St} {ρ : List SV} {Φ : AV → List SV → Prop} {ψ : AV → Prop} {b : Bool}
theorem r2_neNil {xs : List D} (ho : okD' b (.lst xs) = true) (hs : SeqAt.shaped (pyD (.lst xs)) = true) (q : ψ (.d (.bl (!xs.isEmpty)))) : R2d K cp (rNeX K) (.lst xs) (.lst []) ψ := fun G H u w Q hu hw k =>
  .inr ⟨pyD (.lst xs), pyD (.lst []), dt_dp hu ho, dt_dp (b := b) hw rfl, hs, rfl, k _ (.d (.bl _)) H (rx_flat (.bl _)) (by
    have : PyData.eqv (pyD (.lst xs)) (pyD (.lst [])) = xs.isEmpty := by cases xs <;> rfl
    rw [this]; exact q)⟩
theorem pyA_ints : ∀ ns : List Int, pyA (ns.map D.int) = ns.map PyData.int
  | [] => rfl
  | n :: ns => by show _ :: pyA (ns.map D.int) = _; rw [pyA_ints ns]; rfl
theorem okA_ints : ∀ ns : List Int, okA' true (ns.map D.int) = true
  | [] => rfl
  | n :: ns => by show (_ && okA' true (ns.map D.int)) = true; rw [okA_ints ns]; rfl
theorem r2_neInts {ns : List Int} (q : ψ (.d (.bl (!ns.isEmpty)))) : R2d K cp (rNeX K) (.lst (ns.map .int)) (.lst []) ψ :=
  r2_neNil (b := true) (okA_ints ns) (by show SeqAt.shaped (.list (pyA (ns.map D.int))) = true; rw [pyA_ints]; exact shaped_ints ns) (by rw [List.isEmpty_map]; exact q)
theorem r2_pow {i j : Int} (h : CPow i j) (q : ψ (.d (.int (i ^ j.toNat)))) : R2d K cp (rI CPow fun i j => .int (i ^ j.toNat)) (.int i) (.int j) ψ := r2_intC h (.int _) q
theorem rl_abs {i : Int} (q : ψ (.d (.int (if i < 0 then -i else i)))) : RLd K cp (fun xs H Q => ∃ i, xs = [V.int i] ∧ Q (V.int (if i < 0 then -i else i)) H) [.int i] ψ := fun G H us Q h k => by
  obtain ⟨u, rfl, hu⟩ := dta1 h
  exact ⟨i, by rw [dt_int hu], k _ (.d (.int _)) H (rx_flat (.int _)) q⟩
/-- a rack of draws: cells, turn, left -/
def RkD (c : D) (n : Nat) : Prop := ∃ (ns : List Int) (t l : Int), c = .lst [.lst (ns.map .int), .int t, .int l] ∧ ns.length ≤ 63 ∧ 0 ≤ t ∧ t ≤ n ∧ 0 ≤ l
theorem RkD.more {c : D} {m n : Nat} (r : RkD c m) (h : m ≤ n) : RkD c n := by
  obtain ⟨ns, t, l, a, b, c, d, e⟩ := r
  exact ⟨ns, t, l, a, b, c, by omega, e⟩
def cDraw : Ct := fun ss Φ => ∃ c many n, ss = [.ow true c, .sh (.int many)] ∧ RkD c n ∧ n < 100000 ∧ 0 < many ∧ many < 1073741824 ∧ ∀ r c' s1, 0 ≤ r → r < many → RkD c' (n + 1) → Φ (.d (.int r)) (.ow true c' :: s1)
end
end DD

end
section
set_option Elab.async false
set_option linter.all false
set_option maxRecDepth 100000
set_option maxHeartbeats 1000000
/-! ==, in, of data without truths and of any numbers. -/
namespace DD
open PySem PySem.Spec PyProof.Rows L2 GL
section
variable {K : PySem.W.Frag} {cp : Cb} {X : XC} {ψ : AV → Prop}
theorem u65 {k : Nat} {A : Around} (hr : Room k A) : A.units + 65 < cLine := by have := hr.un; omega
structure okS (x : D) : Prop where
  o : okD' true x = true
  z : (pyD x).depth ≤ 64
theorem okS.shaped {x : D} (h : okS x) : SeqAt.shaped (pyD x) = true := by
  unfold SeqAt.shaped
  rw [ok_lay (b := true) x h.o, Bool.true_and]
  exact decide_eq_true h.z
theorem r2_eqS {x y : D} (hx : okS x) (hy : okS y) (q : ∀ c : Bool, (c = true ↔ x = y) → ψ (.d (.bl c))) : R2d K cp (rEqX K) x y ψ := fun G H u w Q hu hw k =>
  .inr ⟨pyD x, pyD y, dt_dp hu hx.o, dt_dp hw hy.o, hx.shaped, hy.shaped, k _ (.d (.bl _)) H (rx_flat (.bl _)) (q _ (eqv_iff x y hx.o hy.o))⟩
theorem any_iff {x : D} (hx : okD' true x = true) : ∀ ys : List D, okA' true ys = true → (((pyA ys).any fun z => PyData.eqv z (pyD x)) = true ↔ x ∈ ys)
  | [], _ => by simp [pyA]
  | y :: ys, h => by
    obtain ⟨h1, h2⟩ := Bool.and_eq_true_iff.mp (show (okD' true y && okA' true ys) = true from h)
    show (PyData.eqv (pyD y) (pyD x) || (pyA ys).any fun z => PyData.eqv z (pyD x)) = true ↔ _
    rw [Bool.or_eq_true, eqv_iff y x h1 hx, any_iff hx ys h2, List.mem_cons, eq_comm]
theorem r2_inD {x : D} {ys : List D} (hx : okS x) (hy : okS (.lst ys)) (q : ∀ c : Bool, (c = true ↔ x ∈ ys) → ψ (.d (.bl c))) : R2d K cp (rInD K) x (.lst ys) ψ := fun G H u w Q hu hw k =>
  ⟨pyD x, pyA ys, dt_dp hu hx.o, dt_dp hw hy.o, hx.shaped, hy.shaped, k _ (.d (.bl _)) H (rx_flat (.bl _)) (q _ (any_iff hx.o ys hy.o))⟩
theorem okS_pair {w : Str} {n : Int} (h : PyData.canLay0 (.str w) = true) : okS (.tup [.str w, .int n]) :=
  ⟨by show (PyData.canLay0 (.str w) && (true && true)) = true; rw [h]; rfl, by simp [pyD, pyA, PyData.depth, PyData.depthAll]⟩
theorem okS_all {T : Type} {f : T → D} {Z : Nat} (hZ : Z ≤ 63) : ∀ {xs : List T}, (∀ x ∈ xs, okD' true (f x) = true ∧ (pyD (f x)).depth ≤ Z) → okA' true (xs.map f) = true ∧ PyData.depthAll (pyA (xs.map f)) ≤ Z
  | [], _ => ⟨rfl, Nat.zero_le _⟩
  | x :: xs, h => by
    obtain ⟨a, b⟩ := okS_all hZ (xs := xs) fun y hy => h y (List.mem_cons_of_mem _ hy)
    obtain ⟨c, d⟩ := h x (List.mem_cons_self ..)
    refine ⟨by show (okD' true (f x) && okA' true (xs.map f)) = true; rw [c, a]; rfl, ?_⟩
    show Nat.max _ (PyData.depthAll (pyA (xs.map f))) ≤ Z
    exact Nat.max_le.mpr ⟨d, b⟩
theorem okS_lst {T : Type} {f : T → D} {Z : Nat} (hZ : Z ≤ 63) {xs : List T} (h : ∀ x ∈ xs, okD' true (f x) = true ∧ (pyD (f x)).depth ≤ Z) : okS (.lst (xs.map f)) := by
  obtain ⟨a, b⟩ := okS_all hZ h
  refine ⟨a, ?_⟩
  show PyData.depthAll (pyA (xs.map f)) + 1 ≤ 64
  omega
end
end DD

end
section
set_option Elab.async false
set_option linter.all false
set_option maxRecDepth 100000
set_option maxHeartbeats 1000000
/-! Own errors raised; lambdas handed to a def that asks them; great numbers. -/
namespace DD
open PySem PySem.Spec PyProof.Rows L2 GL LamX
/-- raise e: what is made is told -/
def tRz (Xc : Cx) (E : XK) (te : TE) : TS := fun _ σ H => te σ H fun x H1 => ∃ (a C : Addr) (d : Option Addr), x = .ref a ∧ H1 a = some (exo a C d) ∧ Xc.H_0 a = none ∧ Raises Xc (.ref C) ∧ E (.ref C) d (delH H1 a)
theorem ps_raiseD {X : Cx} {E : XK} {e : Expr} {te : TE} {pos : Pos} (hc : X.calm = true) (tk : Takes X fun cls d _ H => E cls d H) (hx : X.ex = []) (he : PE X e te) : PS X (.Raise (some e) none pos) (tRz X E te) := ps_raise hc tk (pmk_val hx he)
theorem ex_del {H H1 : Hp} {a : Addr} (e : Ex H H1) (ha : H a = none) : Ex H (delH H1 a) := fun b o h => by
  have n : b ≠ a := fun z => by rw [z, ha] at h; cases h
  rw [delH_ne n]; exact e b o h
section
variable {K : PySem.W.Frag} {cp : Cb} {X : XC} {F : Addr → Prop} {A : Pass} {H0 H H' H1 : Hp} {σ : L2.St} {v : V} {ρ ρ1 : List SV} {Φ : AV → List SV → Prop} {ψ : AV → Prop} {N : List SV → Prop} {R : AV → List SV → Prop} {B C : List SV → Prop}
theorem DS.raise1 {Xc : Cx} {i : Nat} {f : Str} {E : XK} {te : TE} (hE : X.E = E) (hH : Xc.H_0 = X.h) (cl : ClsX Xc.K (cp.x i)) (h : DEs K cp X te ρ fun d ρ1 => X.P i [f] [d] ρ1) :
    DS K cp X (tRz Xc E (tCall (spC1 (cp.x i) f) [] (fun _ _ _ => False) (tCons te tNil))) ρ N R B C := fun F A H0 H σ e hx Dd n r b c =>
  h.go e (hx _) fun v d ρ1 H1 e1 m1 dv q => ⟨v, rfl, fun a H2 na e2 eo => by
    obtain ⟨dd, hne, h1, h2⟩ := eo
    have ed := ex_del e2 na
    refine ⟨a, cp.x i, some dd, rfl, h1, by rw [hH]; exact (hx σ).h a (e1.none0 na), raises_own cl.ox.exC cl.ox.tyC, ?_⟩
    rw [← hE]
    exact (hx _).x i [d] [(f, v)] dd ρ1 _ (e1.ex ed) (by rw [delH_ne hne]; exact h2) (.cons (Dv.mv (Mv.ex ed) _ _ dv) .nil) q⟩
theorem DS.raise2 {Xc : Cx} {i : Nat} {f g : Str} {E : XK} {te tg : TE} (hE : X.E = E) (hH : Xc.H_0 = X.h) (cl : ClsX Xc.K (cp.x i)) (h : DEs K cp X te ρ fun d ρ1 => DEs K cp X tg ρ1 fun y ρ2 => X.P i [g, f] [y, d] ρ2) :
    DS K cp X (tRz Xc E (tCall (spC2 (cp.x i) f g) [] (fun _ _ _ => False) (tCons te (tCons tg tNil)))) ρ N R B C := fun F A H0 H σ e hx Dd n r b c =>
  h.go e (hx _) fun v d ρ1 H1 e1 m1 dv q => DEs.go (show DEs K cp X tg ρ1 _ from q) e1 (hx _) fun w y ρ2 H2 e2 m2 dy q2 => ⟨v, w, rfl, fun a H3 na e3 eo => by
    obtain ⟨dd, hne, h1, h2⟩ := eo
    have ed := ex_del e3 na
    refine ⟨a, cp.x i, some dd, rfl, h1, by rw [hH]; exact (hx σ).h a (e2.none0 na), raises_own cl.ox.exC cl.ox.tyC, ?_⟩
    rw [← hE]
    exact (hx _).x i [y, d] [(g, w), (f, v)] dd ρ2 _ (e2.ex ed) (by rw [delH_ne hne]; exact h2) (.cons (Dv.mv (Mv.ex ed) _ _ dy) (.cons (Dv.mv (m2.tr (Mv.ex ed)) _ _ dv) .nil)) q2⟩
/-- a call that may raise -/
theorem DE.callY {n : Nat} {Cc : CtX} {E : XK} {t : TA} (hE : X.E = E) (h : DAo K cp X t ρ fun ps ρ1 => ∃ ss, argS ρ1 ps = some ss ∧ ps.length = n ∧ (slots ps).Nodup ∧ Cc ss (fun r ρc => Φ r (upds ρc 0 ps ρ1)) fun i ns es ρc => X.P i ns es (upds ρc 0 ps ρ1)) : DE K cp X (tCall (spX K cp n Cc) [] E t) ρ Φ := by
  rw [← hE]; exact DE.callX h
theorem DE.makeY {n c : Nat} {Ci : CtX} {E : XK} {t : TA} (hE : X.E = E) (h : DAo K cp X t ρ fun ps ρ1 => ∃ ds, oks ps = some ds ∧ ps.length = n ∧ Ci (.ow true (.ob c [] []) :: ds.map .sh) (fun r ρc => r = .d .non ∧ ∀ ob, ρc[0]? = some (.ow true ob) → Φ (.n ob) ρ1) fun i ns es _ => X.P i ns es ρ1) : DE K cp X (tMake (cp.c c) (spX K cp (n + 1) Ci) [] E t) ρ Φ := by
  rw [← hE]; exact DE.makeX h
/-! ### a lambda is asked within a try -/
theorem En.exK (e : En K cp F A H0 H σ ρ) (x : ExtK H H1) (tb : Tabs cp.T H1) : En K cp F A H0 H1 σ ρ ∧ Mv (Gv F σ ρ) H (Gv F σ ρ) H1 := by
  have sm : ∀ a o, H a = some o → Sm o H1 a := fun a o h => by
    cases o <;> first | exact x.2 a _ h | exact x.1 a _ h (fun _ z => by cases z)
  have m : Mv (Gv F σ ρ) H (Gv F σ ρ) H1 := ⟨fun a o n h => ⟨n, sm a o h⟩⟩
  refine en_upd e Alike.rfl' (fun a o _ h => sm a o h) tb (fun i b ds a h1 h2 => ?_) fun i b t h1 a _ u hu hk => (sm a u hu).to fun qs z => by subst z; exact hk
  obtain ⟨a', q1, u, q2, q3⟩ := e.sl i _ h1
  rw [h2] at q1; cases q1
  exact ⟨u, (sm a u q2).to q3.nt, q3.mv m⟩
/-- what the def that asks hands back: None, or what res tells of the error -/
def TTd (K : PySem.W.Frag) (cp : Cb) (res : Nat → List Str → List D → Option D) : (XK → Hp → VK → Prop) → List V → Hp → VK → Prop := fun tl vs H Q => vs = [] ∧ ∀ (E : XK) (Qn : VK), (∀ v G, (∀ G', Ex G G' → Q .non G') → Qn v G) →
  (∀ (i : Nat) (es : List D) (fs : List (Str × V)) (dd : Addr) (G : Hp) (d : D) (F : Addr → Prop), G dd = some (exd dd fs) → Trk F G → DvA K cp F G (fs.map (·.2)) es → res i (fs.map (·.1)) es = some d → (∀ v G', Ex G G' → Dv K cp F G' v d → Q v G') → E (.ref (cp.x i)) (some dd) G) → tl E H Qn
mutual
/-- nothing in d is of the kinds that are told: lists, dicts, instances -/
def nolK (l k b : Bool) : D → Bool
  | .lst ds => !l && nolKA l k b ds
  | .dk _ ds => !k && nolKA l k b ds
  | .dt _ ds => !k && nolKA l k b ds
  | .ob _ _ ds => !b && nolKA l k b ds
  | .tup ds => nolKA l k b ds
  | _ => true
def nolKA (l k b : Bool) : List D → Bool
  | [] => true
  | d :: ds => nolK l k b d && nolKA l k b ds
end
def hk (l k b : Bool) : HO → Prop
  | .lst _ => l = true
  | .dK _ => k = true
  | .dT _ => k = true
  | .ins _ _ _ => b = true
  | _ => False
section
variable {G G' : Addr → Prop} {l k b : Bool}
mutual
theorem Dv.nol (hG : ∀ a, G a → G' a ∨ ∃ o, H a = some o ∧ hk l k b o) : ∀ (d : D) (v : V), nolK l k b d = true → Dv K cp G' H v d → Dv K cp G H v d
  | .non, _, _, h => by cases h; exact .non
  | .bl b, _, _, h => by cases h; exact .bl b
  | .int i, _, _, h => by cases h; exact .int i
  | .str x, _, _, h => by cases h; exact .str x
  | .lst ds, _, hn, h => by
    have hn : (!l && nolKA l k b ds) = true := hn
    simp only [Bool.and_eq_true, Bool.not_eq_true'] at hn
    cases h with
    | @lst a vs _ h1 n h2 => exact .lst h1 (fun g => (hG a g).elim n fun ⟨o, q1, q2⟩ => by rw [h1] at q1; cases q1; rw [hn.1] at q2; cases q2) (DvA.nol hG ds vs hn.2 h2)
  | .tup ds, _, hn, h => by
    have hn : nolKA l k b ds = true := hn
    cases h with
    | @tup a vs _ h1 n h2 => exact .tup h1 (fun g => (hG a g).elim n fun ⟨o, q1, q2⟩ => by rw [h1] at q1; cases q1; cases q2) (DvA.nol hG ds vs hn h2)
    | @kt a vs _ h1 h2 h3 => exact .kt h1 (DvA.nol hG ds vs hn h2) h3
  | .dk ks ds, _, hn, h => by
    have hn : (!k && nolKA l k b ds) = true := hn
    simp only [Bool.and_eq_true, Bool.not_eq_true'] at hn
    cases h with
    | @dk a kvs _ _ h1 n e h2 =>
      refine .dk h1 (fun g => (hG a g).elim n fun ⟨o, q1, q2⟩ => ?_) e (DvA.nol hG ds _ hn.2 h2)
      rcases h1 with h1 | ⟨o', h1⟩
      · rw [h1] at q1; cases q1; rw [hn.1] at q2; cases q2
      · rw [h1] at q1; cases q1; cases q2
  | .ob c ns ds, _, hn, h => by
    have hn : (!b && nolKA l k b ds) = true := hn
    simp only [Bool.and_eq_true, Bool.not_eq_true'] at hn
    cases h with
    | @ob a dx _ fs _ _ h1 n e h2 => exact .ob h1 (fun g => (hG a g).elim n fun ⟨o, q1, q2⟩ => by rw [h1] at q1; cases q1; rw [hn.1] at q2; cases q2) e (DvA.nol hG ds _ hn.2 h2)
  | .lk a, _, _, h => by cases h; exact .lk a
  | .dt ks ds, _, hn, h => by
    have hn : (!k && nolKA l k b ds) = true := hn
    simp only [Bool.and_eq_true, Bool.not_eq_true'] at hn
    cases h with
    | @dt a kvs _ _ h1 n e h2 =>
      refine .dt h1 (fun g => (hG a g).elim n fun ⟨o, q1, q2⟩ => ?_) e (DvA.nol hG ds _ hn.2 h2)
      rcases h1 with h1 | ⟨o', h1⟩
      · rw [h1] at q1; cases q1; rw [hn.1] at q2; cases q2
      · rw [h1] at q1; cases q1; cases q2
theorem DvA.nol (hG : ∀ a, G a → G' a ∨ ∃ o, H a = some o ∧ hk l k b o) : ∀ (ds : List D) (vs : List V), nolKA l k b ds = true → DvA K cp G' H vs ds → DvA K cp G H vs ds
  | [], _, _, h => by cases h; exact .nil
  | d :: ds, _, hn, h => by
    have hn : (nolK l k b d && nolKA l k b ds) = true := hn
    simp only [Bool.and_eq_true] at hn
    cases h with
    | cons h1 h2 => exact .cons (Dv.nol hG d _ hn.1 h1) (DvA.nol hG ds _ hn.2 h2)
end
end
/-- what is owned, as data for a while -/
def lend : SV → SV
  | .ow _ c => .sh c
  | .dp _ t => .sh t.toD
  | s => s
def kindOk (l k b : Bool) : SV → Bool
  | .ow _ (.lst _) => l
  | .ow _ (.dk _ _) => k
  | .ow _ (.dt _ _) => k
  | .ow _ (.ob _ _ _) => b
  | .ow _ _ => false
  | .dp _ _ => l && k && b
  | _ => true
theorem kind_hk {l k b c0 : Bool} {o : HO} {c : D} {G : Addr → Prop} (h : OwV K cp G H o c) (hk0 : kindOk l k b (.ow c0 c) = true) : hk l k b o := by
  cases h <;> exact hk0
theorem DE.lam {T : List (Addr × Str)} {n : Nat} {res : Nat → List Str → List D → Option D} {t : XK → TE} {l k b : Bool} {ρL : List SV} (hT : cp.T = T) (hn : n = 0) (hk0 : ρ.all (kindOk l k b) = true) (hL : ρ.map lend = ρL)
    (h : ∀ X' : XC, X'.P = (fun i ns es _ => ∃ d, res i ns es = some d ∧ nolK l k b d = true ∧ Φ (.d d) ρ) → DE K cp X' (t X'.E) ρL fun _ _ => Φ (.d .non) ρ) : DE K cp X (tLamG T n (TTd K cp res) t tNil) ρ Φ := fun F A H0 H σ e hx Q kk => by
  subst hT hn hL
  refine ⟨e.tb, fun H1 x1 t1 => ⟨Ex.rfl' _, rfl, rfl, fun E Qn hq hE => ?_⟩⟩
  obtain ⟨e1, m1⟩ := e.exK x1 t1
  let F' : Addr → Prop := fun a => F a ∧ ¬ ∃ i, DD.own σ ρ i a
  have noO : ∀ i a, ¬ DD.own σ (ρ.map lend) i a := fun i a ⟨s0, q1, q2⟩ => by
    rw [List.getElem?_map] at q1
    cases z : ρ[i]? with
    | none => rw [z] at q1; cases q1
    | some s => rw [z] at q1; cases s <;> cases q1 <;> exact q2
  have gF : ∀ a, Gv F' σ (ρ.map lend) a → F' a := fun a g => g.elim id fun ⟨i, o⟩ => (noO i a o).elim
  have gS : ∀ a, F' a → Gv F σ ρ a := fun a g => .inl g.1
  have eL : En K cp F' ⟨[], fun _ => false, fun _ => .non⟩ H1 H1 σ (ρ.map lend) := by
    refine ⟨by rw [List.length_map]; exact e1.len, fun a f => e1.tr a f.1, fun a o _ h => .of h, e1.tb, fun y hy => (by cases hy), fun i j a o1 _ => (noO i a o1).elim, fun i b0 c0 a q1 q2 => (noO i a (.w q1 q2)).elim, fun i b0 t0 a q1 q2 => (noO i a (.t q1 q2)).elim, fun i s hs => ?_⟩
    rw [List.getElem?_map] at hs
    cases z : ρ[i]? with
    | none => rw [z] at hs; cases hs
    | some s0 =>
      rw [z] at hs
      have q := e1.sl i s0 z
      cases s0 with
      | no => cases hs; trivial
      | sh d => cases hs; obtain ⟨v, q1, q2⟩ := q; exact ⟨v, q1, Dv.mv (Mv.sub fun a g => gS a (gF a g)) _ _ q2⟩
      | ow b0 c =>
        cases hs
        obtain ⟨a, q1, u, q2, q3⟩ := q
        exact ⟨_, q1, OwOk.sh ⟨u, q2, q3.mv (Mv.sub fun a g => gS a (gF a g))⟩ fun g => (gF a g).2 ⟨i, .w z q1⟩⟩
      | dp b0 t =>
        cases hs
        obtain ⟨v, q1, ok, q3⟩ := q
        exact ⟨v, q1, q3.toD (Mv.sub fun a g => gS a (gF a g)) fun a ha g => (gF a g).2 ⟨i, .t z ha⟩⟩
  have keep : ∀ {H2 : Hp}, (∀ a o, H1 a = some o → Sm o H2 a) → Tabs cp.T H2 → En K cp F A H0 H2 σ ρ ∧ Mv (Gv F σ ρ) H1 (Gv F σ ρ) H2 := fun {H2} sm tb => by
    have m : Mv (Gv F σ ρ) H1 (Gv F σ ρ) H2 := ⟨fun a o n h => ⟨n, sm a o h⟩⟩
    refine en_upd e1 Alike.rfl' (fun a o _ h => sm a o h) tb (fun i b ds a h1 h2 => ?_) fun i b t h1 a _ u hu hk => (sm a u hu).to fun qs z => by subst z; exact hk
    obtain ⟨a', q1, u, q2, q3⟩ := e1.sl i _ h1
    rw [h2] at q1; cases q1
    exact ⟨u, (sm a u q2).to q3.nt, q3.mv m⟩
  refine h ⟨E, _, fun _ => none⟩ rfl F' _ H1 H1 σ eL ⟨fun _ _ => rfl, fun i es fs dd ρ2 H2 e2 h1 h2 ⟨d, hd, hnl, φ⟩ => ?_⟩ Qn fun v r ρ1 H2 rs φ => ?_
  · obtain ⟨e3, m3⟩ := keep (fun a o h => e2.fr a o (fun x hx => by cases hx) h) e2.tb
    refine hE i es fs dd H2 d F' h1 (fun a f => e3.tr a f.1) (DvA.mv (Mv.sub fun a g => .inl g) _ _ h2) hd fun v G' ex dv => ?_
    have e4 := e3.ex ex
    refine kk v (.d d) ρ G' ⟨e4, m1.tr (m3.tr (Mv.ex ex)), Dv.nol (fun a g => ?_) _ _ hnl dv⟩ φ
    by_cases z : ∃ i, DD.own σ ρ i a
    · obtain ⟨i, z⟩ := z
      rcases z.is with ⟨b0, c, z1, z2⟩ | ⟨b0, t, z1, z2⟩
      · obtain ⟨a', q1, u, q2, q3⟩ := e4.sl i _ z1
        rw [z2] at q1; cases q1
        exact .inr ⟨u, q2, kind_hk (c0 := b0) q3 (List.all_eq_true.mp hk0 _ (List.mem_of_getElem? z1))⟩
      · obtain ⟨v, q1, ok, q3⟩ := e4.sl i _ z1
        obtain ⟨u, hu, hk⟩ := q3.there z2
        have w : (l && k && b) = true := List.all_eq_true.mp hk0 _ (List.mem_of_getElem? z1)
        simp only [Bool.and_eq_true] at w
        refine .inr ⟨u, hu, ?_⟩
        cases u with
        | lst _ => exact w.1.1
        | dK _ => exact w.1.2
        | dT _ => exact w.1.2
        | ins _ _ _ => exact w.2
        | _ => exact hk.elim
    · exact .inl ⟨g.elim id fun w => (z w).elim, z⟩
  · have fin : (∀ a o, H1 a = some o → Sm o H2 a) ∧ Tabs cp.T H2 := by
      cases r with
      | d d => exact ⟨fun a o h => rs.1.fr a o (fun x hx => by cases hx) h, rs.1.tb⟩
      | n c => obtain ⟨p, _, _, _, en, _⟩ := rs; exact ⟨fun a o h => en.fr a o (fun x hx => by cases hx) h, en.tb⟩
      | o i => exact ⟨fun a o h => rs.1.fr a o (fun x hx => by cases hx) h, rs.1.tb⟩
      | t t => obtain ⟨_, _, _, en, _⟩ := rs; exact ⟨fun a o h => en.fr a o (fun x hx => by cases hx) h, en.tb⟩
    obtain ⟨e3, m3⟩ := keep fin.1 fin.2
    exact hq v H2 fun G' ex => kk .non (.d .non) ρ G' ⟨e3.ex ex, m1.tr (m3.tr (Mv.ex ex)), .non⟩ φ
end
end DD

end
section
set_option Elab.async false
set_option linter.all false
set_option maxRecDepth 100000
set_option maxHeartbeats 1000000
/-! Chains, great numbers, keywords, dicts that grow, a pair whose first is owned; a def with lambdas by its contract. -/
namespace DD
open PySem PySem.Spec PyProof.Rows L2 GL LamX
section
variable {K : PySem.W.Frag} {cp : Cb} {X : XC} {F : Addr → Prop} {A : Pass} {H0 H H' H1 : Hp} {σ : L2.St} {v : V} {ρ ρ1 : List SV} {Φ : AV → List SV → Prop} {ψ : AV → Prop} {N : List SV → Prop} {R : AV → List SV → Prop} {B C : List SV → Prop}
theorem r2_fdivW {i j : Int} (h : CDivW i j) (q : ψ (.d (.int (i / j)))) : R2d K cp (rI CDivW fun i j => .int (i / j)) (.int i) (.int j) ψ := r2_intC h (.int _) q
theorem r2_mulW {i j : Int} (h : CMulW i j) (q : ψ (.d (.int (i * j)))) : R2d K cp (rI CMulW fun i j => .int (i * j)) (.int i) (.int j) ψ := r2_intC h (.int _) q
theorem cdivW {i j : Int} (h0 : 0 < j) (h1 : j < 2 ^ 100) : CDivW i j := wide_div h0 (b := 100) (by omega) (by decide) (by decide)
theorem cmulW {i j : Int} (a b : Nat) (ha : i.natAbs < 2 ^ a) (hb : j.natAbs < 2 ^ b) (h0 : 0 < a) (h1 : 0 < b) (h : a + b ≤ 1000000) : CMulW i j := wide_mul ha hb h0 h1 h
/-- a r b r' c -/
theorem DE.chain {r r' : R2} {ta tb tc : TE} (h : DEo K cp X ta ρ fun x ρ1 => DEo K cp X tb ρ1 fun y ρ2 => ∃ d e, x.at ρ2 = some d ∧ y.at ρ2 = some e ∧ R2d K cp r d e fun a => ∃ c, a = .d (.bl c) ∧ if c = true then DEo K cp X tc ρ2 (fun z ρ3 => ∃ e' f, y.at ρ3 = some e' ∧ z.at ρ3 = some f ∧ R2d K cp r' e' f fun a => Φ a ρ3) else Φ (.d (.bl false)) ρ2) :
    DE K cp X (tChain r r' ta tb tc) ρ Φ := fun F A H0 H σ e hx Q k =>
  h.go e hx fun v x ρ1 H1 e1 m1 o1 h1 => DEo.go h1 e1 hx fun w y ρ2 H2 e2 m2 o2 ⟨d, d', ex, ey, rd⟩ =>
    rd _ _ _ _ _ ((o1.mv m2).dt e2 ex) (o2.dt e2 ey) fun u a H3 x3 ⟨c, ea, φ⟩ => by
      subst ea
      obtain ⟨x4, x5⟩ := x3
      cases x5
      refine ⟨c, rfl, ?_⟩
      have e3 := e2.ex x4
      have m3 : Mv (Gv F σ ρ2) H2 (Gv F σ ρ2) H3 := Mv.ex x4
      cases c with
      | true =>
        rw [if_pos rfl] at φ
        exact iteT (DEo.go φ e3 hx fun z zz ρ3 H4 e4 m4 o4 ⟨e', f, ey', ez, rd'⟩ => rd' _ _ _ _ _ (((o2.mv m3).mv m4).dt e4 ey') (o4.dt e4 ez) fun u a H5 x5 φ => k u a ρ3 H5 ((x5.res e4).tr (m1.tr (m2.tr (m3.tr m4)))) φ)
      | false =>
        rw [if_neg (by decide)] at φ
        exact iteF (k _ (.d (.bl false)) ρ2 H3 ⟨e3, m1.tr (m2.tr m3), .bl _⟩ φ)
/-! ### keywords -/
theorem pd_imp {α β : Type} {P Q : α → β → Prop} (h : ∀ a b, P a b → Q a b) : ∀ {xs : List α} {ys : List β}, Paired P xs ys → Paired Q xs ys
  | [], [], _ => .nil
  | _ :: _, _ :: _, .cons a b => .cons (h _ _ a) (pd_imp h b)
def PGo (g : {α : Type} → List α → List α → List α) (ps qs : List OP) : Prop := ∀ (P : V → OP → Prop) (vs zs : List V), Paired P vs ps → Paired P zs qs → Paired P (g vs zs) (g ps qs)
theorem DE.kwX {n m c : Nat} {Cc : CtX} {E : XK} {g : {α : Type} → List α → List α → List α} {t tk : TA} (hE : X.E = E) (h : DAo K cp X t ρ fun ps ρ1 => DAo K cp X tk ρ1 fun qs ρ2 => ps.length = n ∧ qs.length = m ∧ PGo g ps qs ∧ ∃ ss, argS ρ2 (g ps qs) = some ss ∧ (g ps qs).length = c ∧ (slots (g ps qs)).Nodup ∧ Cc ss (fun r ρc => Φ r (upds ρc 0 (g ps qs) ρ2)) fun i ns es ρc => X.P i ns es (upds ρc 0 (g ps qs) ρ2)) :
    DE K cp X (tKw n m (spX K cp c Cc) g E t tk) ρ Φ := fun F A H0 H σ e hx Q k => by
  subst hE
  refine h F A H0 H σ e hx _ fun vs ps ρ1 H1 e1 m1 o1 h1 => (show DAo K cp X tk ρ1 _ from h1) F A H0 H1 σ e1 hx _ fun zs qs ρ2 H2 e2 m2 o2 ⟨l1, l2, pg, ss, hs, hn, hd, hc⟩ => ⟨(Paired.len o1).trans l1, (Paired.len o2).trans l2, ?_⟩
  have o1' : Paired (OPv K cp F σ ρ2 H2) vs ps := pd_imp (fun _ _ a => a.mv m2) o1
  exact call_ct (Ψ := X.P) e2 (pg _ _ _ o1' o2) hs hn hd hc (fun v r ρ3 H3 rs φ => k v r ρ3 H3 (rs.tr (m1.tr m2)) φ) fun i es fs dd ρ' H' e3 h1 h2 h3 => hx.x i es fs dd _ _ e3 h1 h2 h3
theorem DE.kwC {n m c : Nat} {Cc : Ct} {E : XK} {g : {α : Type} → List α → List α → List α} {t tk : TA} (h : DAo K cp X t ρ fun ps ρ1 => DAo K cp X tk ρ1 fun qs ρ2 => ps.length = n ∧ qs.length = m ∧ PGo g ps qs ∧ ∃ ss, argS ρ2 (g ps qs) = some ss ∧ (g ps qs).length = c ∧ (slots (g ps qs)).Nodup ∧ Cc ss fun r ρc => Φ r (upds ρc 0 (g ps qs) ρ2)) :
    DE K cp X (tKw n m (spC K cp c Cc) g E t tk) ρ Φ := fun F A H0 H σ e hx Q k => by
  refine h F A H0 H σ e hx _ fun vs ps ρ1 H1 e1 m1 o1 h1 => (show DAo K cp X tk ρ1 _ from h1) F A H0 H1 σ e1 hx _ fun zs qs ρ2 H2 e2 m2 o2 ⟨l1, l2, pg, ss, hs, hn, hd, hc⟩ => ⟨(Paired.len o1).trans l1, (Paired.len o2).trans l2, ?_⟩
  have o1' : Paired (OPv K cp F σ ρ2 H2) vs ps := pd_imp (fun _ _ a => a.mv m2) o1
  exact call_ct (Ψ := fun _ _ _ _ => False) (C := fun ss Φ _ => Cc ss Φ) e2 (pg _ _ _ o1' o2) hs hn hd hc (fun v r ρ3 H3 rs φ => k v r ρ3 H3 (rs.tr (m1.tr m2)) φ) fun _ _ _ _ _ _ _ _ _ z => z.elim
/-! ### dicts -/
theorem DE.dnew (q : Φ (.n (.dk [] [])) ρ) : DE K cp X tDNewK ρ Φ := fun F A H0 H σ e hx Q k p hp =>
  k _ (.n (.dk [] [])) ρ _ (Rx.res (r := .n (.dk [] [])) e ⟨p, rfl, hp, Ex.nw hp, _, upd_same, .dk rfl .nil⟩) q
/-- d[k] = e, d a name's own dict -/
theorem DS.dput {i : Nat} {ty tv : TE} (h : DEs K cp X tv ρ fun y ρ1 => (∃ b c, ρ1[i]? = some (.ow b c)) ∧ DEs K cp X ty ρ1 fun z ρ2 => ∃ b ks ds kk, keyOf z = some kk ∧ ρ2[i]? = some (.ow b (.dk ks ds)) ∧ ks.Nodup ∧ ks.length < sizeLine ∧ N (ρ2.set i (.ow b (.dk (putKs ks kk) (putDs ks ds kk y))))) :
    DS K cp X (sDPut (tVar i) ty tv) ρ N R B C := fun F A H0 H σ e hx Dd n r b c =>
  h.go e (hx _) fun v y ρ1 H1 e1 m1 dv ⟨⟨b, c, hb⟩, q⟩ => by
    obtain ⟨a, ha, _⟩ := e1.sl i _ hb
    refine ⟨_, ha, DEs.go (show DEs K cp X ty ρ1 _ from q) e1 (hx _) fun w z ρ2 H2 e2 m2 dz ⟨b, ks, ds, kk, hk, hb, hnd, hl, hn⟩ => ?_⟩
    obtain ⟨kvs, q1, q2, q3⟩ := own_dk e2 hb ha
    subst q2
    obtain ⟨p1, p2⟩ := put_ok (Dv.mv m2 _ _ dv) hnd q3
    obtain ⟨e3, m3⟩ := en_upd1 (o' := .dK (putK kvs kk v)) (ds' := .dk (putKs (kvs.map (·.1)) kk) (putDs (kvs.map (·.1)) ds kk y)) e2 hb ha (.dk p1 p2)
    exact ⟨a, _, rfl, .inl ⟨kvs, kk, q1, key_dv hk dz, by rw [List.length_map] at hl; exact hl, rfl⟩, n _ _ _ e3 (m1.tr (m2.tr m3)) hn⟩
/-- x, y = (e, c): x owns what e made, c a constant -/
theorem DS.ownTup {i j : Nat} {te : TE} {u : V} {d : D} (hu : Fla u d) (h : DE K cp X te ρ fun r ρ1 => ∃ ds, r = .n ds ∧ free ρ1 i ∧ i ≠ j ∧ free ρ1 j ∧ N ((ρ1.set i (.ow false ds)).set j (.sh d))) :
    DS K cp X (tAsg (tTup (tCons te (tCons (tC u) tNil))) (gTup K 2 (gCons (gName i) (gCons (gName j) gNil)))) ρ N R B C := fun F A H0 H σ e hx Dd n r b c =>
  h F A H0 H σ e (hx _) _ fun v a ρ1 H1 e1 ⟨ds, ea, hi, hij, hj, q⟩ => by
    subst ea
    obtain ⟨p, rfl, nf, h0, en, ha, mv, dv⟩ := e1
    refine ⟨(show 2 ≤ sizeLine by decide), fun t ht => ?_⟩
    have ex : Ex H1 (upd H1 t (.tup [.ref p, u])) := Ex.nw ht
    have en2 := en.ex ex
    have mv2 : Mv (Gv F σ ρ) H (Gv (plus F p) σ ρ1) (upd H1 t (.tup [.ref p, u])) := mv.tr (Mv.ex ex)
    obtain ⟨u0, hu0, dv0⟩ := dv
    obtain ⟨e2, g2⟩ := own_new en2 nf h0 ha hi ⟨u0, ex _ _ hu0, dv0.mv (Mv.ex ex)⟩
    have hj2 : free (ρ1.set i (.ow false ds)) j := ⟨by rw [List.length_set]; exact hj.1, fun es z => (by rw [List.getElem?_set_ne hij] at z; exact hj.2.1 es z), fun es z => (by rw [List.getElem?_set_ne hij] at z; exact hj.2.2 es z)⟩
    have e3 := e2.set hj2 (x := some u) (s := .sh d) (.inl ⟨d, u, rfl, rfl, hu.dv⟩)
    refine ⟨t, [.ref p, u], rfl, .inl (.inl upd_same), rfl, _, _, rfl, _, _, rfl, rfl, ?_⟩
    exact n _ _ _ e3 (mv2.tr (Mv.sub fun a g => g2 a (gv_set (nt := by intro _ _ z; cases z) (by rintro b ds z; cases z) a g))) q
end
section
variable {pg : Program} {w : World} {K : PySem.W.Frag} {mg : Str → Option Value} {bs : Heap} {cp : Cb} {X : XC}
/-- a def that makes lambdas, by its contract -/
theorem okXC {cx : CXT} {x q : Str} {st : Stmt} {f : Addr} {fd : FuncData} {N ps : List Str} {k : Nat} {C : CtX} {nos : List SV} (Fn : Fun K x q st f fd) (S : FnScope N ps (defScope st)) (hno : noS (N.length - ps.length) = nos)
    (hb : ∀ (cd : Value) (A : Around) (out : List Env) (s : Shared) (H : Hp) (E : XK), A.guards = some [] → CodeF K f cd → Room k (A.deeper (envOfC q (defScope st) s.heap.objs.size f cd)) → ∀ ss Φ Ψ, C ss Φ Ψ → ss.length = ps.length →
      ∃ t, PSs (cxOf cx pg w K mg bs N q (defScope st) f cd A out s H E) (defBody st) t ∧ DS K cp ⟨E, Ψ, H⟩ t (ss ++ nos) (Φ (.d .non)) Φ (fun _ => False) fun _ => False) :
    FnG pg w K mg bs cx (k + 1) f fd ps (spX K cp ps.length C) := by
  subst hno
  refine Fun.okGC Fn S (fun vs H Q E h => ?_) (fun cd A out s H vs Q E gd hcf hr h => ?_)
  · obtain ⟨_, _, _, _, h, _⟩ := h; exact h
  · obtain ⟨F, ss, Φ, Ψ, hl, pr, tr, dj, tb, hc, kk, kx⟩ := h
    obtain ⟨t, ht, hd⟩ := hb cd A out s H E gd hcf hr ss Φ Ψ hc (by rw [← Paired.len pr, hl])
    refine ⟨t, ht, ?_⟩
    exact body_ct hl pr tr dj tb kk kx hd
end
end DD

end
section
set_option Elab.async false
set_option linter.all false
set_option maxRecDepth 100000
set_option maxHeartbeats 1000000
/-! Dicts as maps; bits; numbers in lists. -/
namespace DD
open PySem PySem.Spec PyProof.Rows L2 GL
theorem putKs_nodup {ks : List Key} {k : Key} (h : ks.Nodup) : (putKs ks k).Nodup := by
  unfold putKs
  split
  · exact h
  · rename_i c
    refine List.nodup_append.mpr ⟨h, by simp, fun a ha b hb => ?_⟩
    rw [List.mem_singleton.mp hb]
    rintro rfl
    exact c (any_key.mpr ha)
theorem putKs_len {ks : List Key} {k : Key} : (putKs ks k).length ≤ ks.length + 1 := by
  unfold putKs; split <;> simp
theorem put_len : ∀ {ks : List Key} {ds : List D} {k : Key} {d : D}, ks.Nodup → ks.length = ds.length → (putDs ks ds k d).length = (putKs ks k).length
  | [], [], k, d, _, _ => by simp [putKs, putDs]
  | k0 :: ks, d0 :: ds, k, d, hn, h => by
    have hn' := List.nodup_cons.mp hn
    have ih := put_len (ks := ks) (ds := ds) (k := k) (d := d) hn'.2 (by simpa using h)
    simp only [putDs]
    by_cases e : k0 = k
    · subst e
      rw [if_pos rfl]
      unfold putKs
      rw [if_pos (any_key.mpr List.mem_cons_self)]
      simp only [List.length_cons] at h ⊢
      omega
    · rw [if_neg e, List.length_cons, ih]
      unfold putKs
      by_cases m : k ∈ ks
      · rw [if_pos (any_key.mpr m), if_pos (any_key.mpr (List.mem_cons_of_mem _ m))]; rfl
      · rw [if_neg (fun z => m (any_key.mp z)), if_neg (fun z => (List.mem_cons.mp (any_key.mp z)).elim (fun w => e w.symm) m)]
        simp
theorem look_put : ∀ {ks : List Key} {ds : List D} {k k' : Key} {d : D}, ks.length = ds.length → lookK (putKs ks k) (putDs ks ds k d) k' = if k = k' then some d else lookK ks ds k'
  | [], [], k, k', d, _ => by simp [putKs, putDs, lookK]
  | k0 :: ks, d0 :: ds, k, k', d, h => by
    have ih := look_put (ks := ks) (ds := ds) (k := k) (k' := k') (d := d) (by simpa using h)
    by_cases e : k0 = k
    · subst e
      have e1 : putKs (k0 :: ks) k0 = k0 :: ks := by unfold putKs; rw [if_pos (any_key.mpr List.mem_cons_self)]
      rw [e1]
      simp only [putDs, if_pos, lookK]
      by_cases z : k0 = k'
      · rw [if_pos z, if_pos z]
      · rw [if_neg z, if_neg z, if_neg z]
    · have e1 : putKs (k0 :: ks) k = k0 :: putKs ks k := by
        unfold putKs
        by_cases m : k ∈ ks
        · rw [if_pos (any_key.mpr m), if_pos (any_key.mpr (List.mem_cons_of_mem _ m))]
        · rw [if_neg (fun z => m (any_key.mp z)), if_neg (fun z => (List.mem_cons.mp (any_key.mp z)).elim (fun w => e w.symm) m)]
          rfl
      rw [e1]
      simp only [putDs]
      rw [if_neg e]
      simp only [lookK]
      rw [ih]
      by_cases z : k0 = k'
      · subst z
        rw [if_pos rfl, if_neg (fun w => e w.symm), if_pos rfl]
      · rw [if_neg z, if_neg z]
/-- the item of a list of ints -/
def nth (ns : List Int) (i : Nat) : Int := ns.getD (i - 1) 0
theorem nth_at {ns : List Int} {i : Nat} (h1 : 1 ≤ i) (h2 : i ≤ ns.length) : atI (ns.map D.int) ((i : Int) - 1) = some (.int (nth ns i)) := by
  obtain ⟨j, rfl⟩ : ∃ j, i = j + 1 := ⟨i - 1, by omega⟩
  have e : ((j + 1 : Nat) : Int) - 1 = (j : Int) := by omega
  have hj : j < ns.length := by omega
  rw [e]
  refine atI_nat ?_
  rw [List.getElem?_map, List.getElem?_eq_getElem hj]
  unfold nth
  simp [List.getD, hj]
theorem nth_mem {ns : List Int} {i : Nat} (h1 : 1 ≤ i) (h2 : i ≤ ns.length) : nth ns i ∈ ns := by
  have hj : i - 1 < ns.length := by omega
  unfold nth
  rw [List.getD_eq_getElem?_getD, List.getElem?_eq_getElem hj]
  exact List.getElem_mem hj
theorem bits_log {z : Nat} (h : 1 ≤ z) : Builtin.Int.intBits (z : Int) = z.log2 + 1 := by
  unfold Builtin.Int.intBits
  have : ((z : Int) == 0) = false := by simp; omega
  rw [this]; simp
/-- the least L with z up to 2^L -/
def dbl (z : Nat) : Nat := Builtin.Int.intBits ((z : Int) - 1)
theorem dbl_ok {z : Nat} (h : 1 ≤ z) : z ≤ 2 ^ dbl z ∧ (1 ≤ dbl z → 2 ^ (dbl z - 1) < z) := by
  unfold dbl
  by_cases h1 : z = 1
  · subst h1; exact ⟨by decide, fun h => absurd h (by decide)⟩
  · have e : ((z : Int) - 1) = ((z - 1 : Nat) : Int) := by omega
    rw [e, bits_log (by omega)]
    have a := (Nat.log2_lt (show z - 1 ≠ 0 by omega)).mp (Nat.lt_succ_self (z - 1).log2)
    have b := Nat.log2_self_le (show z - 1 ≠ 0 by omega)
    refine ⟨by omega, fun _ => ?_⟩
    rw [Nat.add_sub_cancel]
    omega
theorem dbl_by {z L : Nat} (h : 1 ≤ z) (h1 : z ≤ 2 ^ L) (h2 : 1 ≤ L → 2 ^ (L - 1) < z) : L = dbl z := by
  obtain ⟨a, b⟩ := dbl_ok h
  refine Nat.le_antisymm ?_ ?_
  · refine Nat.le_of_not_lt fun c => ?_
    have q := h2 (by omega)
    have := Nat.pow_le_pow_right (n := 2) (by decide) (show dbl z ≤ L - 1 by omega)
    omega
  · refine Nat.le_of_not_lt fun c => ?_
    have q := b (by omega)
    have := Nat.pow_le_pow_right (n := 2) (by decide) (show L ≤ dbl z - 1 by omega)
    omega
theorem dbl_mono {a b : Nat} (h : 1 ≤ a) (hab : a ≤ b) : dbl a ≤ dbl b := by
  refine Nat.le_of_not_lt fun c => ?_
  have p := (dbl_ok (z := b) (by omega)).1
  have q := (dbl_ok h).2 (by omega)
  have := Nat.pow_le_pow_right (n := 2) (by decide) (show dbl b ≤ dbl a - 1 by omega)
  omega
theorem dbl_le {z m : Nat} (h : 1 ≤ z) (hm : z ≤ 2 ^ m) : dbl z ≤ m := by
  refine Nat.le_of_not_lt fun c => ?_
  have q := (dbl_ok h).2 (by omega)
  have := Nat.pow_le_pow_right (n := 2) (by decide) (show m ≤ dbl z - 1 by omega)
  omega
/-- numbers, by what they are -/
def numD : D → Bool
  | .int i => decide (0 ≤ i)
  | _ => false
def areNum (d : D) : Bool := match seqD d with
  | some xs => decide (1 ≤ xs.length) && decide (xs.length ≤ 400) && xs.all numD
  | none => false
def AllNob (d : D) : Prop := match seqD d with
  | some xs => ∀ x ∈ xs, Nob x
  | none => True
theorem num_list : ∀ {xs : List D}, xs.all numD = true → ∃ ns : List Int, xs = ns.map D.int ∧ ∀ n ∈ ns, 0 ≤ n
  | [], _ => ⟨[], rfl, by simp⟩
  | x :: xs, h => by
    rw [List.all_cons, Bool.and_eq_true] at h
    obtain ⟨ns, rfl, hn⟩ := num_list h.2
    cases x with
    | int i => exact ⟨i :: ns, rfl, fun n m => (List.mem_cons.mp m).elim (fun e => by rw [e]; exact of_decide_eq_true h.1) (hn n)⟩
    | _ => cases h.1
theorem num_all {ns : List Int} (h : ∀ n ∈ ns, 0 ≤ n) : (ns.map D.int).all numD = true := by
  rw [List.all_map, List.all_eq_true]
  exact fun n hn => decide_eq_true (h n hn)
end DD
namespace DD
open PySem PySem.Spec PyProof.Rows L2 GL
theorem flatL_ints : ∀ ns : List Int, flatL (ns.map D.int) = some (ns.map V.int)
  | [] => rfl
  | n :: ns => by simp only [List.map_cons, flatL, flatD, flatL_ints ns]
theorem inV_ints (j : Int) : ∀ ns : List Int, inV (V.int j) (ns.map V.int) = ns.any fun i => decide (i = j)
  | [] => rfl
  | n :: ns => by
    have ih := inV_ints j ns
    unfold inV at ih ⊢
    rw [List.map_cons, List.any_cons, List.any_cons, ih]
    congr 1
section
variable {K : PySem.W.Frag} {cp : Cb} {ψ : AV → Prop}
theorem r2_inInts {d : D} {ns : List Int} {j : Int} (h : seqD d = some (ns.map D.int)) (q : ψ (.d (.bl (ns.any fun i => decide (i = j))))) : R2d K cp (rIn K false) (.int j) d ψ := by
  refine r2_in (u := V.int j) rfl h (flatL_ints ns) ?_
  rw [inV_ints]
  exact q
end
end DD
namespace DD
open PySem PySem.Spec PyProof.Rows L2 GL
section
variable {K : PySem.W.Frag} {cp : Cb} {X : XC} {ρ : List SV} {Φ : AV → List SV → Prop}
theorem DE.neg {te : TE} (h : DEs K cp X te ρ fun d ρ1 => ∃ i : Int, d = .int i ∧ Φ (.d (.int (-i))) ρ1) : DE K cp X (tUn (rU fun i => .int (-i)) te) ρ Φ := fun F A H0 H σ e hx Q k =>
  h.go e hx fun v d ρ1 H1 e1 m1 dv ⟨i, hd, φ⟩ => by
    subst hd
    exact ⟨i, dv_int dv, k _ (.d (.int (-i))) ρ1 H1 ⟨e1, m1, .int _⟩ φ⟩
end
end DD
namespace DD
open PySem PySem.Spec PyProof.Rows L2 GL
/-- a draw below a bound that may be great -/
def cDrawW : Ct := fun ss Φ => ∃ c many n, ss = [.ow true c, .sh (.int many)] ∧ RkD c n ∧ n < 100000 ∧ 0 < many ∧ many < 2 ^ 101 ∧ ∀ r c' s1, 0 ≤ r → r < many → RkD c' (n + 1) → Φ (.d (.int r)) (.ow true c' :: s1)
def cOneD : Ct := fun ss Φ => ∃ c x xs n, ss = [.ow true c, .sh x] ∧ seqD x = some xs ∧ xs ≠ [] ∧ xs.length < 1000000 ∧ RkD c n ∧ n < 100000 ∧ ∀ y c' s1, y ∈ xs → RkD c' (n + 1) → Φ (.d y) (.ow true c' :: s1)
theorem cdivW2 {i j : Int} (h0 : 0 < j) (h1 : j < 2 ^ 101) : CDivW i j := wide_div h0 (b := 101) (by omega) (by decide) (by decide)
/-- the rack that a law makes by itself, as an owner -/
theorem rk_own {K : PySem.W.Frag} {cp : Cb} {G : Addr → Prop} {H : Hp} {p c : Addr} {n : Nat} (r : Rk H p c n) (nc : ¬ G c) : ∃ d, RkD d n ∧ OwOk K cp G H p d := by
  obtain ⟨ns, t, l, h1, h2, h3, h4, h5, h6, h7⟩ := r.ex
  exact ⟨_, ⟨ns, t, l, rfl, h4, h5, h6, h7⟩, _, h1, .lst (.cons (.lst h2 nc (ints_dva ns)) (.cons (.int t) (.cons (.int l) .nil)))⟩
end DD

end
section
set_option Elab.async false
set_option linter.all false
set_option maxRecDepth 100000
set_option maxHeartbeats 1000000
namespace DD
open PySem PySem.Spec PyProof.Rows L2 GL
theorem cut_nat {xs : List D} {a b : Nat} (ha : a ≤ xs.length) : cutD xs (some (a : Int)) (some (b : Int)) = (xs.drop a).take (b - a) := by
  unfold cutD
  rw [HT.sIx_nat, HT.sIx_nat, Nat.min_eq_left ha]
  by_cases h : b ≤ xs.length
  · rw [Nat.min_eq_left h]
  · rw [Nat.min_eq_right (by omega), List.take_of_length_le (by rw [List.length_drop]; omega), List.take_of_length_le (by rw [List.length_drop]; omega)]
theorem cut_lo {xs : List D} {a : Nat} : cutD xs (some (a : Int)) none = xs.drop a := by
  unfold cutD
  rw [HT.sIx_nat, HT.sIx_none]
  by_cases h : a ≤ xs.length
  · rw [Nat.min_eq_left h, List.take_of_length_le (by rw [List.length_drop]; omega)]
  · rw [Nat.min_eq_right (by omega), List.drop_of_length_le (Nat.le_refl _), List.drop_of_length_le (by omega)]; simp
theorem cut_hi {xs : List D} {b : Nat} : cutD xs none (some (b : Int)) = xs.take b := by
  unfold cutD
  rw [HT.sIx_nat, HT.sIx_none, List.drop_zero]
  by_cases h : b ≤ xs.length
  · rw [Nat.min_eq_left h]; simp
  · rw [Nat.min_eq_right (by omega), List.take_of_length_le (by omega), List.take_of_length_le (by omega)]
theorem cut_ints {ns : List Int} {a b : Nat} (ha : a ≤ ns.length) : cutD (ns.map D.int) (some (a : Int)) (some (b : Int)) = ((ns.drop a).take (b - a)).map D.int := by
  rw [cut_nat (by rw [List.length_map]; exact ha), List.map_take, List.map_drop]
end DD

end
section
set_option Elab.async false
set_option linter.all false
set_option maxRecDepth 100000
set_option maxHeartbeats 1000000
/-! A comprehension over a range whose turns draw. -/
namespace DD
open PySem PySem.Spec PyProof.Rows L2 GL
section
variable {K : PySem.W.Frag} {cp : Cb} {X : XC} {ρ : List SV} {Φ : AV → List SV → Prop}
theorem DE.lcRk {wi : TI} {g : TG} {te : TE} {vs ts : List Nat} {c : D} {n : Nat} (m k : Nat) (R : D → List SV) (Pd : Nat → Int → Prop) (hm : m ≤ 900000) (hr : RkD c n)
    (hi : DI K cp X wi (R c) fun ds ρ1 => ρ1 = R c ∧ ds = intD 0 m) (hts : (ts.all fun i => vs.contains i) = true) (hn : ∀ c, nown (R c) vs)
    (hs : ∀ (i : Nat) (c : D) (n' : Nat), i < m → RkD c n' → n' ≤ n + k * i → DG K cp g ts (.int (0 + (i : Int))) (wipeS (R c) vs) fun ρ3 => DEs K cp XC.q te ρ3 fun y ρ5 => ∃ c' z, y = .int z ∧ Pd i z ∧ RkD c' (n' + k) ∧ Turned vs (R c) ρ5 (R c'))
    (q : ∀ (ns : List Int) (c' : D), ns.length = m → (∀ x ∈ ns, ∃ i, i < m ∧ Pd i x) → RkD c' (n + k * m) → Φ (.n (.lst (ns.map .int))) (R c')) : DE K cp X (tLc wi g tYes te vs) (R c) Φ := by
  have hts : ∀ i ∈ ts, i ∈ vs := fun i hi => by simpa using List.all_eq_true.mp hts i hi
  refine DE.lc (fun F A H0 H σ e hx Q kk => hi F A H0 H σ e hx Q fun J ds ρ1 H1 e1 m1 wk ⟨e2, e3⟩ => kk J ds ρ1 H1 e1 m1 wk ?_)
  subst e2 e3
  refine ⟨ts, fun i acc ρ => ∃ (ns : List Int) (c' : D) (n' : Nat), ρ = R c' ∧ acc = ns.map .int ∧ ns.length = i ∧ (∀ x ∈ ns, ∃ j, j < m ∧ Pd j x) ∧ RkD c' n' ∧ n' ≤ n + k * i, hts, ⟨[], c, n, rfl, rfl, rfl, by simp, hr, by simp⟩, by rw [intD_len]; exact hm, ?_, ?_⟩
  · rintro i d acc ρ2 hd ⟨ns, c', n', rfl, rfl, hl, hp, hk, hle⟩
    have hi2 : i < m := by
      obtain ⟨h, _⟩ := List.getElem?_eq_some_iff.mp hd
      rw [intD_len] at h; exact h
    rw [intD_get hi2] at hd
    cases hd
    refine ⟨hn c', fun F A H0 H σ e v dv Q kk => hs i c' n' hi2 hk hle F A H0 H σ e v dv Q fun σ' ρ3 e3 g3 w3 h3 => kk σ' ρ3 e3 g3 w3 (DT.yes ?_)⟩
    rw [if_pos rfl]
    refine DE.mono h3 fun r ρ5 ⟨y, hy, c2, z, ez, pz, hk2, tn⟩ => ⟨y, hy, R c2, tn, ns ++ [z], c2, n' + k, rfl, by rw [ez]; simp, by rw [List.length_append, hl]; rfl, fun x hx => ?_, hk2, by rw [Nat.mul_succ]; omega⟩
    rcases List.mem_append.mp hx with h | h
    · exact hp x h
    · rw [List.mem_singleton.mp h]; exact ⟨i, hi2, pz⟩
  · rintro acc ρ2 ⟨ns, c', n', rfl, rfl, hl, hp, hk, hle⟩
    rw [intD_len] at hl hle
    exact q ns c' hl hp (hk.more hle)
end
end DD

end
section
set_option Elab.async false
set_option linter.all false
set_option maxRecDepth 100000
set_option maxHeartbeats 1000000
/-! The law's own body, from its rack on, over data. -/
namespace DD
open PySem PySem.Spec PyProof.Rows L2 GL LamX
theorem rep_get {α : Type} {k i : Nat} {x s : α} (h : (List.replicate k x)[i]? = some s) : s = x := by
  rw [List.getElem?_replicate] at h
  split at h
  · cases h; rfl
  · cases h
theorem en_law {K : PySem.W.Frag} {cp : Cb} {H1 : Hp} {p d : Addr} {m k : Nat} {a : V} (r : Rk H1 p d m) (tb : Tabs cp.T H1) : ∃ c, RkD c m ∧ En K cp (fun _ => False) ⟨[], fun _ => false, fun _ => .non⟩ (fun _ => none) H1 (some a :: some (.ref p) :: List.replicate k none) (.no :: .ow false c :: List.replicate k .no) := by
  have np : d ≠ p := by obtain ⟨ns, t, l, h1, h2, h3, _⟩ := r.ex; exact h3
  have only : ∀ {c : D} {i : Nat} {x : Addr}, own (some a :: some (V.ref p) :: List.replicate k none) (SV.no :: SV.ow false c :: List.replicate k SV.no) i x → i = 1 ∧ x = p := fun {c i x} ⟨s, h1, h2⟩ => by
    rcases i with _ | _ | i
    · cases h1; exact h2.elim
    · cases h1
      have h2 : some (some (V.ref p)) = some (some (V.ref x)) := h2
      cases h2; exact ⟨rfl, rfl⟩
    · have := rep_get (show (List.replicate k SV.no)[i]? = some s by simpa using h1)
      subst this; exact h2.elim
  obtain ⟨c, hc, ho⟩ := rk_own (K := K) (cp := cp) (G := fun x => x = p) r np
  refine ⟨c, hc, ⟨by simp, fun _ f => f.elim, fun _ _ _ h => by simp at h, tb, fun y hy => (by cases hy), fun i j x h1 h2 => (only h1).1.trans (only h2).1.symm, fun i b e x h1 h2 => ?_, fun i b t x h1 h2 => ?_, fun i s h => ?_⟩⟩
  · obtain ⟨rfl, rfl⟩ := only (.w h1 h2)
    cases h1
    exact ⟨fun f => f, rfl⟩
  · exact .inr ⟨fun f => f, rfl⟩
  · rcases i with _ | _ | i
    · cases h; trivial
    · cases h
      obtain ⟨u, hu, hv⟩ := ho
      exact ⟨p, rfl, u, hu, hv.mv (Mv.sub fun x g => g.elim False.elim fun ⟨i, o⟩ => (only o).2)⟩
    · have := rep_get (show (List.replicate k SV.no)[i]? = some s by simpa using h)
      subst this; trivial
theorem law_go {K : PySem.W.Frag} {cp : Cb} {H1 : Hp} {p d : Addr} {m k : Nat} {a : V} {t : TS} {Q : VK} {σ : L2.St} (r : Rk H1 p d m) (tb : Tabs cp.T H1) (hσ : σ = some a :: some (.ref p) :: List.replicate k none) (q : ∀ H', Q (.bl true) H')
    (h : ∀ c, RkD c m → DS K cp XC.q t (.no :: .ow false c :: List.replicate k .no) (fun _ => False) (fun r _ => r = .d (.bl true)) (fun _ => False) fun _ => False) : t { nx := fun _ H' => Q .non H', rt := Q } σ H1 := by
  subst hσ
  obtain ⟨c, hc, e⟩ := en_law (K := K) (k := k) (a := a) r tb
  refine h c hc _ _ _ _ _ e (fun _ => xq) _ (fun _ _ _ _ _ z => z.elim) (fun v r σ' ρ' H' fi hr => ?_) (fun _ _ _ _ _ z => z.elim) fun _ _ _ _ _ z => z.elim
  subst hr
  rw [dv_bl fi.2]
  exact q H'
end DD

end
section
set_option Elab.async false
set_option linter.all false
set_option maxRecDepth 100000
set_option maxHeartbeats 4000000
/-! try with a clause that is meant ahead of others. -/
namespace GL
open PySem PySem.Spec PyProof.Rows L2
section
variable {X : Cx} {x n : Str} {c : Value} {i : Nat} {body suite : List Stmt} {b₀ : Stmt} {np pos pos' : Pos} {tb : WX → TS} {ts : TS}
/-- a clause that is meant, whatever stands behind it -/
theorem catch_mid {post : List ExceptHandler} {pins : List (Addr × Obj)} {σ : L2.St} {H : Hp} {sI s' : Shared} {B : Heap} {a : Addr} {cls : Value} {d : Option Addr} {D : Ends} (hN : X.N.Nodup) (hi : X.N[i]? = some n) (hln : X.env.kindOf n = some .local) (hc : Names X x c)
    (hsu : ∀ (a : Addr) (pn : List (Addr × Obj)), PSs (X.suite a pn) (b₀ :: suite) ts) (J : Inv X pins σ H sI) (nb : ∀ b o, sI.heap.get? b = some o → b ∉ frs X.stack → B.get? b = some o) (up : sI.heap.UpToSlots s'.heap) (fl : HandSPX.FlyingZ B X.stack a (Zc cls d) s'.heap)
    (na : H a = none) (os : s'.os = sI.os) (ag : AllBare s'.gens) (nL : a ≠ X.env.locals) (nF : a ∉ X.fs) (nS : a ∉ frs X.stack) (w : wLast X.K c i ts D cls d σ H) :
    wpAny (model X.prog X.w) X.A (handleBy (.ref a) X.env (.ExceptHandler (some (.Name x np)) (some n) (b₀ :: suite) pos' :: post)) (SP X pins D) X.xe s' := by
  have ok := J.ok
  have nB : B.get? a = none := fl.2.1
  have nI : sI.heap.get? a = none := by
    cases e : sI.heap.get? a with
    | none => rfl
    | some o => rw [nb a o e nS] at nB; cases nB
  have K3 : Inv X pins σ H s' := J.landed nb fl.1 up os ag
  obtain ⟨oe, vs, he, hz, hd⟩ := fl.there
  have S3 := K3.suite he hd na nL nF
  obtain ⟨hb1, hw⟩ := w
  refine wpAny_handleBy_cons (codeAny_handlers_test ?_) (by intro z; cases z)
  have LT : PySem.W.Looks (model X.prog X.w) s'.heap (typeOf (.ref a)) cls := fun A Q E s k q => wpAny_typeOf_ref (k _ _ he) (by rw [hz.1]; exact q)
  have LM := PySem.W.exm_one (M := model X.prog X.w) K3.kIn LT hb1
  have tst : ∀ {Q : Value → Shared → Prop} {E : Value → Shared → Prop}, Q c s' → wpAny (model X.prog X.w) (X.A.mark (some (.ref a))) (eval (.Name x np) X.env) Q E s' := fun {Q E} q => by
    obtain ⟨hg, hdb, hm | ⟨hm, hv, hnn⟩⟩ := hc
    · exact ld_glob (X := X.suite a ((a, oe) :: (X.pn ++ pins))) S3 hg hm q hdb
    · exact ld_blt (X := X.suite a ((a, oe) :: (X.pn ++ pins))) S3 hg hm hv q hnn hdb
  refine tst (LM.here ?_)
  refine codeAny_handlers_suite_as ?_
  refine HandSPX.lands_againZ fl fun h4 fl4 up4 => ?_
  have K4 : Inv X pins σ H { s' with heap := h4 } := J.landed nb fl4.1 (up.trans up4) os ag
  obtain ⟨oe4, vs4, he4, hz4, hd4⟩ := fl4.there
  have S4 := K4.suite he4 hd4 na nL nF
  refine store_ok (X := X.suite a ((a, oe4) :: (X.pn ++ pins))) (v := .ref a) S4 hN hi (.inl hln) rfl (fun s5 S5 => ?_) (.inr hln)
  have T5 := Inv.track (φ := fun h => h.get? a = some oe4) ok S5 hd4 (S5.pin (a, oe4) (List.mem_append_left _ List.mem_cons_self)).1 (fun h1 h2 z k => k _ z)
    (fun o z n hx => by have q := J.base.keep a o z n nF hx; rw [nI] at q; cases q) (fun q hq e => by
      have z := (J.pin q hq).1
      rw [e, nI] at z; cases z)
  refine wpAny_mono ((hsu a (X.pn ++ pins)).run [] s5 _ _ (back i D) T5 (hw a _ na ⟨_, rfl, fun h z => ⟨oe4, vs4, z, hz4, hd4⟩⟩)) (fun f s6 hsp => ?_) (fun _ _ z => False.elim z)
  have fin : ∀ {τ : L2.St} {G : Hp} {Q : Shared → Prop}, Inv (X.suite a (X.pn ++ pins)) [] τ G s6 → (∀ s7, Inv X pins (τ.set i none) G s7 → Q s7) →
      wpAny (model X.prog X.w) X.A (do bindName X.env n .none; unbindBehindTheSuite X.env n pos') (fun _ s7 => Q s7) X.xe s6 := fun {τ G Q} S6 hq =>
    gone_ok (X := X) (pins := pins) ⟨ok, S6.os, S6.bare, S6.base, S6.loc, S6.cell, S6.free, S6.freeC, fun p hp => S6.pin p (List.mem_append_left _ hp), S6.hok, S6.len⟩ hN hi hln hq
  cases f with
  | next =>
    obtain ⟨τ, G, S6, q6⟩ := hsp
    exact fin S6 fun s7 J7 => ⟨_, G, J7, q6⟩
  | brk =>
    obtain ⟨τ, G, S6, q6⟩ := hsp
    exact fin S6 fun s7 J7 => ⟨_, G, J7, q6⟩
  | cont =>
    obtain ⟨τ, G, S6, q6⟩ := hsp
    exact fin S6 fun s7 J7 => ⟨_, G, J7, q6⟩
  | ret u =>
    obtain ⟨v6, τ, G, S6, r6, q6⟩ := hsp
    exact fin S6 fun s7 J7 => ⟨v6, _, G, J7, r6, q6⟩
/-- try: body; except x as n: suite; whatever stands behind -/
theorem ps_tryM {post : List ExceptHandler} (hs : X.stack = X.env :: X.outer) (hf : X.env.frame = some X.env.locals) (hN : X.N.Nodup) (hi : X.N[i]? = some n) (hln : X.env.kindOf n = some .local) (hc : Names X x c)
    (hb : ∀ (W : WX) (pn : List (Addr × Obj)) (xe : Value → Shared → Prop), Takes (X.tr pn xe) W → PassesOwn (model X.prog X.w) X.A X.env xe → PSs (X.tr pn xe) body (tb W))
    (hsu : ∀ (a : Addr) (pn : List (Addr × Obj)), PSs (X.suite a pn) (b₀ :: suite) ts) :
    PS X (.Try body (.ExceptHandler (some (.Name x np)) (some n) (b₀ :: suite) pos' :: post) [] [] pos)
      (fun D σ H => tb (fun cls d τ G => wLast X.K c i ts D cls d τ G) D σ H) := by
  refine ⟨fun pins s σ H D I h => ?_⟩
  have ok := I.ok
  have hfr : X.A.frames = some (X.env :: X.outer) := by rw [ok.frames, hs]
  refine wpAny_Try_except ?_
  refine wpAny_mono ((hb (fun cls d τ G => wLast X.K c i ts D cls d τ G) (X.pn ++ pins) (fun e s₁ => wpAny (model X.prog X.w) X.A (noteFrame e X.env) (fun _ s₂ =>
    wpAny (model X.prog X.w) X.A (setFlight e none) (fun _ s₃ => wpAny (model X.prog X.w) X.A (handleBy e X.env (.ExceptHandler (some (.Name x np)) (some n) (b₀ :: suite) pos' :: post)) (SP X pins D) X.xe s₃) X.xe s₂) X.xe s₁) (fun u s' xx => ?_) PassesOwn.looking).run [] s σ H D (I.toTry _) h) (fun f s1 hsp => ?_) (fun e s1 he => he)
  · obtain ⟨a, B, sI, pins', σ', H', cls, d, rfl, J', nb, up, sky, na, os, ag, w⟩ := xx
    have J : Inv X pins σ' H' sI := J'.ofTry ok
    have sky2 : Sky B (X.env :: X.outer) a (Zc cls d) X.env.locals s'.heap := by rw [← hs]; exact sky
    show wpAny (model X.prog X.w) X.A (noteFrame (.ref a) X.env) _ _ _
    refine Sky.land Zc.steady hfr hf sky2 fun h3 fl3 up3 => ?_
    rw [← hs] at fl3
    obtain ⟨oe3, vs3, he3, hz3, hd3⟩ := fl3.there
    have nS : a ∉ frs X.stack := fun hm => by
      obtain ⟨_, o', e', hnf⟩ := fl3.2.2.1.mem hm
      rw [he3] at e'; cases e'
      exact hnf _ hd3
    have nL : a ≠ X.env.locals := fun z => nS (List.mem_filterMap.mpr ⟨X.env, by rw [hs]; exact List.mem_cons_self, by rw [hf, z]⟩)
    have nF : a ∉ X.fs := fun hm => by
      obtain ⟨e, hx, q⟩ := List.mem_filterMap.mp hm
      exact nS (List.mem_filterMap.mpr ⟨e, by rw [hs]; exact List.mem_cons_of_mem _ hx, q⟩)
    exact catch_mid (s' := { s' with heap := h3 }) hN hi hln hc hsu J nb (up.trans up3) fl3 na os ag nL nF nS w
  · cases f with
    | next =>
      obtain ⟨τ, G, J, q⟩ := hsp
      exact wpAny_execs_nil ⟨τ, G, J.ofTry ok, q⟩
    | brk =>
      obtain ⟨τ, G, J, q⟩ := hsp
      exact ⟨τ, G, J.ofTry ok, q⟩
    | cont =>
      obtain ⟨τ, G, J, q⟩ := hsp
      exact ⟨τ, G, J.ofTry ok, q⟩
    | ret u =>
      obtain ⟨v, τ, G, J, r, q⟩ := hsp
      exact ⟨v, τ, G, J.ofTry ok, r, q⟩
end
end GL

end
section
set_option Elab.async false
set_option linter.all false
set_option maxRecDepth 100000
set_option maxHeartbeats 1000000
/-! !=; instances that are no list; tuples made of lists, deep. -/
namespace DD
open PySem PySem.Spec PyProof.Rows L2 GL
section
variable {K : PySem.W.Frag} {cp : Cb} {X : XC} {ψ : AV → Prop} {F : Addr → Prop} {A : Pass} {G : Addr → Prop} {H0 H H' H1 : Hp} {σ : L2.St} {v : V} {ρ ρ1 : List SV} {Φ : AV → List SV → Prop} {N : List SV → Prop} {R : AV → List SV → Prop} {B C : List SV → Prop}
theorem r2_neS {x y : D} (hx : okS x) (hy : okS y) (q : ∀ c : Bool, (c = true ↔ x = y) → ψ (.d (.bl (!c)))) : R2d K cp (rNeX K) x y ψ := fun G H u w Q hu hw k =>
  .inr ⟨pyD x, pyD y, dt_dp hu hx.o, dt_dp hw hy.o, hx.shaped, hy.shaped, k _ (.d (.bl _)) H (rx_flat (.bl _)) (q _ (eqv_iff x y hx.o hy.o))⟩
theorem r2_neSame {x : D} (hx : okS x) (q : ψ (.d (.bl false))) : R2d K cp (rNeX K) x x ψ := r2_neS hx hx fun c h => by
  rw [h.mpr rfl]; exact q
theorem okS_ints (ns : List Int) : okS (.lst (ns.map .int)) := okS_lst (Z := 0) (by decide) fun n _ => ⟨rfl, by simp [pyD, PyData.depth]⟩
theorem okS_intsT (ns : List Int) : okS (.tup (ns.map .int)) := by
  obtain ⟨a, b⟩ := okS_all (Z := 1) (f := D.int) (by decide) (xs := ns) fun n _ => ⟨rfl, by simp [pyD, PyData.depth]⟩
  refine ⟨a, ?_⟩
  show PyData.depth (.tuple (pyA (ns.map .int))) ≤ 64
  simp only [PyData.depth]
  omega
theorem okS_int2 (i j : Int) : okS (.tup [.int i, .int j]) := okS_intsT [i, j]
theorem ob_ty {c : Nat} {ns : List Str} {ds : List D} (h : Dt K cp G H v (.ob c ns ds)) (t : InsC K (cp.c c)) : TyX K H v (.ref (cp.c c)) := by
  rcases h with h | ⟨a, rfl, u, h1, h⟩
  · cases h with
    | ob e _ _ _ => exact t.ty e
  · cases h with
    | ob _ _ => exact t.ty h1
theorem DE.isX2o {c d : String} {te : TE} (hte : DEo K cp X te ρ fun p ρ1 => ∃ i ns ds, p.at ρ1 = some (.ob i ns ds) ∧ InsC K (cp.c i) ∧ PySem.W.kitOne K (.ref (cp.c i)) (.type c) = some false ∧ PySem.W.kitOne K (.ref (cp.c i)) (.type d) = some false ∧ Φ (.d (.bl false)) ρ1) :
    DE K cp X (tCB (rIsiT K) (tCons te (tCons (tTup (tCons (tC (.ty c)) (tCons (tC (.ty d)) tNil))) tNil))) ρ Φ := fun F A H0 H σ e hx Q k =>
  hte.go e hx fun v p ρ1 H1 e1 m1 o1 ⟨i, ns, ds, hp, ti, k1, k2, φ⟩ => by
    refine ⟨(show 2 ≤ sizeLine by decide), fun t ht => ?_⟩
    have ex : Ex H1 (upd H1 t (.tup [.ty c, .ty d])) := Ex.nw ht
    refine ⟨v, t, [.ty c, .ty d], _, [.type c, .type d], false, rfl, upd_same, .cons (.ty c) (.cons (.ty d) .nil), ob_ty (OPv.dt (e1.ex ex) (o1.mv (Mv.ex ex)) hp) ti, ?_, k _ (.d (.bl _)) ρ1 _ ⟨e1.ex ex, m1.tr (Mv.ex ex), .bl _⟩ φ⟩
    exact kitAny_cons k1 (fun _ => kitAny_cons k2 (fun _ => kitAny_nil) fun e2 => by cases e2) fun e2 => by cases e2
/-- isinstance(x, C), C an own class -/
theorem DE.isO {i j : Nat} {b : Bool} {te : TE} (hk : PySem.W.kitOne K (.ref (cp.c i)) (.ref (cp.c j)) = some b) (hte : DEo K cp X te ρ fun p ρ1 => ∃ ns ds, p.at ρ1 = some (.ob i ns ds) ∧ InsC K (cp.c i) ∧ Φ (.d (.bl b)) ρ1) :
    DE K cp X (tCB (rIsi K) (tCons te (tCons (tC (.ref (cp.c j))) tNil))) ρ Φ := fun F A H0 H σ e hx Q k =>
  hte.go e hx fun v p ρ1 H1 e1 m1 o1 ⟨ns, ds, hp, ti, φ⟩ => by
    exact ⟨v, .ref (cp.c j), _, _, b, rfl, .own _, ob_ty (o1.dt e1 hp) ti, hk, k _ (.d (.bl _)) ρ1 H1 ⟨e1, m1, .bl _⟩ φ⟩
/-- what a list or tuple, n deep, is when it is made fixed -/
def fixN : Nat → D → D
  | 0, d => d
  | n + 1, d => match seqD d with
    | some xs => .tup (xs.map (fixN n))
    | none => d
def okF : Nat → D → Prop
  | 0, d => seqD d = none ∧ Nob d
  | n + 1, d => match seqD d with
    | some xs => xs.length ≤ 900000 ∧ ∀ x ∈ xs, okF n x
    | none => Nob d
def cFix (n : Nat) : Ct := fun ss Φ => ∃ d, ss = [.sh d] ∧ okF n d ∧ ∀ ss', Φ (.d (fixN n d)) ss'
theorem okF_ints {d : D} {ns : List Int} (h : seqD d = some (ns.map .int)) (hl : ns.length ≤ 900000) : okF 1 d := by
  unfold okF
  rw [h]
  refine ⟨by rw [List.length_map]; exact hl, fun x hx => ?_⟩
  obtain ⟨n, _, rfl⟩ := List.mem_map.mp hx
  exact ⟨rfl, trivial⟩
theorem fixN_ints {d : D} {ns : List Int} (h : seqD d = some (ns.map .int)) : fixN 1 d = .tup (ns.map .int) := by
  unfold fixN
  rw [h]
  show D.tup ((ns.map D.int).map (fixN 0)) = _
  congr 1
  rw [List.map_map]; rfl
end
end DD
namespace DD
open PySem PySem.Spec PyProof.Rows L2 GL
section
variable {K : PySem.W.Frag} {cp : Cb} {X : XC} {ρ : List SV} {N : List SV → Prop} {R : AV → List SV → Prop} {B C : List SV → Prop}
/-- what follows, hidden behind a name for a while -/
theorem DS.seqH {t1 t2 : TS} (h : ∀ t, t2 = t → DS K cp X t1 ρ (fun ρ1 => DS K cp X t ρ1 N R B C) R B C) : DS K cp X (tSeq t1 t2) ρ N R B C := DS.seq (h t2 rfl)
end
end DD

end
section
set_option Elab.async false
set_option linter.all false
set_option maxRecDepth 100000
set_option maxHeartbeats 1000000
/-! == and != by an own __eq__; is True; a tuple so many times. -/
namespace DD
open PySem PySem.Spec PyProof.Rows L2 GL
section
variable {K : PySem.W.Frag} {cp : Cb} {X : XC} {ψ : AV → Prop} {F : Addr → Prop} {A : Pass} {G : Addr → Prop} {H0 H H' H1 : Hp} {σ : L2.St} {v : V} {ρ ρ1 : List SV} {Φ : AV → List SV → Prop}
theorem DE.opO {c : Nat} {neg : Bool} {Cc : Ct} {E : XK} {ta tb : TE} (h : DEs K cp X ta ρ fun x ρ1 => DEs K cp X tb ρ1 fun y ρ2 => ∃ ns ds ns' ds', x = .ob c ns ds ∧ y = .ob c ns' ds' ∧ Cc [.sh x, .sh y] fun r _ => ∃ b, r = .d (.bl b) ∧ Φ (.d (.bl (b != neg))) ρ2) :
    DE K cp X (tOp (rOwn (cp.c c) (spC K cp 2 Cc) E neg) ta tb) ρ Φ := fun F A H0 H σ e hx Q k =>
  h.go e hx fun v x ρ1 H1 e1 m1 dv q => DEs.go (show DEs K cp X tb ρ1 _ from q) e1 hx fun w y ρ2 H2 e2 m2 dw ⟨ns, ds, ns', ds', ex, ey, hc⟩ => by
    have dv2 := Dv.mv m2 _ _ dv
    have o : Paired (OPv K cp F σ ρ2 H2) [v, w] [.d x, .d y] := .cons dv2 (.cons dw .nil)
    subst ex ey
    have dv3 := dv2
    have dw3 := dw
    cases dv3 with
    | ob g1 _ _ _ =>
      cases dw3 with
      | ob g2 _ _ _ =>
        refine ⟨_, _, _, _, _, _, rfl, rfl, g1, g2, ?_⟩
        refine call_ct (C := fun ss Φ _ => Cc ss Φ) (Φ := fun r ρ' => ∃ b, r = .d (.bl b) ∧ Φ (.d (.bl (b != neg))) ρ') (Ψ := fun _ _ _ _ => False) e2 o rfl rfl (by simp [slots]) hc (fun u r ρ' H' rs φ => ?_) fun _ _ _ _ _ _ _ _ _ z => z.elim
        obtain ⟨b, rfl, φ⟩ := φ
        exact ⟨b, by cases rs.2.2; rfl, k _ (.d (.bl _)) ρ' H' ⟨rs.1, (m1.tr m2).tr rs.2.1, .bl _⟩ φ⟩
theorem r2_isBl {a b : Bool} (q : ψ (.d (.bl (decide (a = b))))) : R2d K cp rIsB (.bl a) (.bl b) ψ := fun G H u w Q hu hw k => by
  exact ⟨a, b, dt_bl hu, dt_bl hw, k _ (.d (.bl _)) H (rx_flat (.bl _)) q⟩
/-- tuple * int -/
theorem r2_repT {xs : List D} {n : Int} (h0 : 2 ≤ n) (h1 : n ≤ 1000) (hx : xs ≠ []) (hl : xs.length ≤ 1000) (q : ψ (.d (.tup (List.replicate n.toNat xs).flatten))) : R2t K cp (rRepT K) (.tup xs) (.int n) ψ := fun G H a b Q tr ha hb k => by
  obtain ⟨p, vs, rfl, r, dv⟩ := dt_tup ha
  have dr : ∀ m : Nat, DvA K cp G H (List.replicate m vs).flatten (List.replicate m xs).flatten := by
    intro m
    induction m with
    | zero => exact .nil
    | succ m ih => rw [List.replicate_succ, List.replicate_succ, List.flatten_cons, List.flatten_cons]; exact dv.app ih
  refine ⟨p, n, vs, rfl, dt_int hb, r, fun e => hx (by subst e; cases dv; rfl), h0, h1, by rw [dv.len]; exact hl, fun p hp => ?_⟩
  exact k _ (.d (.tup (List.replicate n.toNat xs).flatten)) _ (rx_tup hp (tr.no hp) (dr n.toNat)) q
end
end DD

end
section
set_option Elab.async false
set_option linter.all false
set_option maxRecDepth 100000
set_option maxHeartbeats 1000000
/-! Texts: of ints, joined, of parts; str by an own __str__; a lambda asked with a word beside it. -/
namespace DD
open PySem PySem.Spec PyProof.Rows L2 GL LamX
section
variable {K : PySem.W.Frag} {cp : Cb} {X : XC} {ψ : AV → Prop} {F : Addr → Prop} {A : Pass} {G : Addr → Prop} {H0 H H' H1 : Hp} {σ : L2.St} {v : V} {ρ ρ1 : List SV} {Φ : AV → List SV → Prop}
theorem rl_strI {i : Int} (h : i.natAbs.log2 < 1920) (q : ψ (.d (.str (toString i)))) : RLd K cp (fun xs H Q => ∃ i : Int, xs = [V.int i] ∧ i.natAbs.log2 < 1920 ∧ Q (V.str (toString i)) H) [.int i] ψ := fun G H us Q h2 k => by
  obtain ⟨u, rfl, hu⟩ := dta1 h2
  exact ⟨i, by rw [dt_int hu], h, k _ (.d (.str (toString i))) H (rx_flat (.str _)) q⟩
theorem strs_of2 {G : Addr → Prop} {H : Hp} : ∀ {vs : List V} {ys : List Str}, DvA K cp G H vs (ys.map .str) → vs = ys.map V.str
  | _, [], .nil => rfl
  | _, _ :: _, .cons h r => by rw [dv_str h, strs_of2 r]; rfl
theorem DE.join {to te : TE} (h : DEs K cp X to ρ fun d ρ1 => ∃ a, d = .str a ∧ DEs K cp X te ρ1 fun e ρ2 => ∃ ys : List Str, seqD e = some (ys.map .str) ∧ (ys.map (·.length)).sum + ys.length * a.length ≤ 16777216 ∧ Φ (.d (.str (Txt.join a ys))) ρ2) :
    DE K cp X (tM1 (fun x xs H Q => ∃ a p, ∃ ys : List Str, x = .str a ∧ xs = [.ref p] ∧ (SqL K H p (ys.map V.str) ∨ SqT K H p (ys.map V.str)) ∧ (ys.map (·.length)).sum + ys.length * a.length ≤ 16777216 ∧ Q (.str (Txt.join a ys)) H) to te) ρ Φ := fun F A H0 H σ e hx Q k =>
  h.go e hx fun v x ρ1 H1 e1 m1 dv ⟨a, hx', q⟩ => by
    subst hx'
    have := dv_str dv
    subst this
    refine ⟨⟨a, rfl⟩, DEs.go (show DEs K cp X te ρ1 _ from q) e1 hx fun w y ρ2 H2 e2 m2 dw ⟨ys, hs, hl, φ⟩ => ?_⟩
    obtain ⟨p, vs, rfl, hq, dva⟩ := dt_seq (.inl dw) hs
    rw [strs_of2 dva] at hq
    exact ⟨a, p, ys, rfl, rfl, hq, hl, k _ (.d (.str _)) ρ2 H2 ⟨e2, m1.tr m2, .str _⟩ φ⟩
/-- the parts of an f-string -/
def DJ (K : PySem.W.Frag) (cp : Cb) (X : XC) (ts : List TE) (acc : Str) (ρ : List SV) (Ψ : Str → List SV → Prop) : Prop :=
  ∀ F A H0 H σ, En K cp F A H0 H σ ρ → XOk K cp F A H0 X σ → ∀ Q : Str → Hp → Prop, (∀ out ρ' H', En K cp F A H0 H' σ ρ' → Mv (Gv F σ ρ) H (Gv F σ ρ') H' → Ψ out ρ' → Q out H') → tJs ts acc σ H Q
theorem DJ.nil {acc : Str} {Ψ : Str → List SV → Prop} (q : Ψ acc ρ) : DJ K cp X [] acc ρ Ψ := fun F A H0 H σ e hx Q k => k acc ρ H e (Mv.ex (Ex.rfl' H)) q
theorem DJ.cons {t : TE} {ts : List TE} {acc : Str} {Ψ : Str → List SV → Prop} (h : DEs K cp X t ρ fun d ρ1 => ∃ y, d = .str y ∧ (acc ++ y).length ≤ sizeLine ∧ DJ K cp X ts (acc ++ y) ρ1 Ψ) : DJ K cp X (t :: ts) acc ρ Ψ := fun F A H0 H σ e hx Q k =>
  h.go e hx fun v x ρ1 H1 e1 m1 dv ⟨y, hx', hl, q⟩ => by
    subst hx'
    exact ⟨y, dv_str dv, hl, q F A H0 H1 σ e1 hx Q fun out ρ' H' e2 m2 φ => k out ρ' H' e2 (m1.tr m2) φ⟩
theorem DE.joined {ts : List TE} (h : DJ K cp X ts Str.empty ρ fun out ρ1 => Φ (.d (.str out)) ρ1) : DE K cp X (fun σ H Q => tJs ts Str.empty σ H fun out H1 => Q (.str out) H1) ρ Φ := fun F A H0 H σ e hx Q k =>
  h F A H0 H σ e hx _ fun out ρ' H' e1 m1 φ => k _ (.d (.str out)) ρ' H' ⟨e1, m1, .str _⟩ φ
theorem DE.fmtI {te : TE} (h : DEs K cp X te ρ fun d ρ1 => ∃ i : Int, d = .int i ∧ i.natAbs.log2 < 1920 ∧ Φ (.d (.str (toString i))) ρ1) : DE K cp X (tFmt te) ρ Φ := fun F A H0 H σ e hx Q k =>
  h.go e hx fun v x ρ1 H1 e1 m1 dv ⟨i, hx', hl, φ⟩ => by
    subst hx'
    exact .inr ⟨i, dv_int dv, hl, k _ (.d (.str _)) ρ1 H1 ⟨e1, m1, .str _⟩ φ⟩
theorem DE.fmtS {te : TE} (h : DEs K cp X te ρ fun d ρ1 => ∃ y : Str, d = .str y ∧ y.length ≤ sizeLine ∧ Φ (.d (.str y)) ρ1) : DE K cp X (tFmt te) ρ Φ := fun F A H0 H σ e hx Q k =>
  h.go e hx fun v x ρ1 H1 e1 m1 dv ⟨y, hx', hl, φ⟩ => by
    subst hx'
    exact .inl ⟨y, dv_str dv, hl, k _ (.d (.str _)) ρ1 H1 ⟨e1, m1, .str _⟩ φ⟩
/-- str(x) by the own __str__ -/
theorem DE.strO {c : Nat} {Cc : Ct} {E : XK} {ta : TE} (h : DEs K cp X ta ρ fun x ρ1 => ∃ ns ds, x = .ob c ns ds ∧ Cc [.sh x] fun r _ => ∃ z, r = .d (.str z) ∧ Φ (.d (.str z)) ρ1) :
    DE K cp X (tCB (rStrO (cp.c c) (spC K cp 1 Cc) E) (tCons ta tNil)) ρ Φ := fun F A H0 H σ e hx Q k =>
  h.go e hx fun v x ρ1 H1 e1 m1 dv ⟨ns, ds, ex, hc⟩ => by
    have o : Paired (OPv K cp F σ ρ1 H1) [v] [.d x] := .cons dv .nil
    subst ex
    have dv3 := dv
    cases dv3 with
    | ob g1 _ _ _ =>
      refine ⟨_, _, _, rfl, g1, ?_⟩
      refine call_ct (C := fun ss Φ _ => Cc ss Φ) (Φ := fun r ρ' => ∃ z, r = .d (.str z) ∧ Φ (.d (.str z)) ρ') (Ψ := fun _ _ _ _ => False) e1 o rfl rfl (by simp [slots]) hc (fun u r ρ' H' rs φ => ?_) fun _ _ _ _ _ _ _ _ _ z => z.elim
      obtain ⟨z, rfl, φ⟩ := φ
      exact ⟨z, dv_str rs.2.2, k _ (.d (.str z)) ρ' H' ⟨rs.1, m1.tr rs.2.1, rs.2.2⟩ φ⟩
/-- what the def that asks hands back, a word beside: nv, or what res tells of the error -/
def TTs (K : PySem.W.Frag) (cp : Cb) (res : Str → Nat → List Str → List D → Option D) (nv : V) : (XK → Hp → VK → Prop) → List V → Hp → VK → Prop := fun tl vs H Q => ∃ y, vs = [.str y] ∧ ∀ (E : XK) (Qn : VK), (∀ v G, (∀ G', Ex G G' → Q nv G') → Qn v G) →
  (∀ (i : Nat) (es : List D) (fs : List (Str × V)) (dd : Addr) (G : Hp) (d : D) (F : Addr → Prop), G dd = some (exd dd fs) → Trk F G → DvA K cp F G (fs.map (·.2)) es → res y i (fs.map (·.1)) es = some d → (∀ v G', Ex G G' → Dv K cp F G' v d → Q v G') → E (.ref (cp.x i)) (some dd) G) → tl E H Qn
theorem DE.lam1 {nd : D} {nv : V} {y : Str} {T : List (Addr × Str)} {n : Nat} {res : Str → Nat → List Str → List D → Option D} {t : XK → TE} {l k b : Bool} {ρL : List SV} (hT : cp.T = T) (hn : n = 1) (hnv : Fla nv nd) (hk0 : ρ.all (kindOk l k b) = true) (hL : ρ.map lend = ρL)
    (h : ∀ X' : XC, X'.P = (fun i ns es _ => ∃ d, res y i ns es = some d ∧ nolK l k b d = true ∧ Φ (.d d) ρ) → DE K cp X' (t X'.E) ρL fun _ _ => Φ (.d nd) ρ) : DE K cp X (tLamG T n (TTs K cp res nv) t (tCons (tC (.str y)) tNil)) ρ Φ := fun F A H0 H σ e hx Q kk => by
  subst hT hn hL
  refine ⟨e.tb, fun H1 x1 t1 => ⟨Ex.rfl' _, rfl, y, rfl, fun E Qn hq hE => ?_⟩⟩
  obtain ⟨e1, m1⟩ := e.exK x1 t1
  let F' : Addr → Prop := fun a => F a ∧ ¬ ∃ i, DD.own σ ρ i a
  have noO : ∀ i a, ¬ DD.own σ (ρ.map lend) i a := fun i a ⟨s0, q1, q2⟩ => by
    rw [List.getElem?_map] at q1
    cases z : ρ[i]? with
    | none => rw [z] at q1; cases q1
    | some s => rw [z] at q1; cases s <;> cases q1 <;> exact q2
  have gF : ∀ a, Gv F' σ (ρ.map lend) a → F' a := fun a g => g.elim id fun ⟨i, o⟩ => (noO i a o).elim
  have gS : ∀ a, F' a → Gv F σ ρ a := fun a g => .inl g.1
  have eL : En K cp F' ⟨[], fun _ => false, fun _ => .non⟩ H1 H1 σ (ρ.map lend) := by
    refine ⟨by rw [List.length_map]; exact e1.len, fun a f => e1.tr a f.1, fun a o _ h => .of h, e1.tb, fun y hy => (by cases hy), fun i j a o1 _ => (noO i a o1).elim, fun i b0 c0 a q1 q2 => (noO i a (.w q1 q2)).elim, fun i b0 t0 a q1 q2 => (noO i a (.t q1 q2)).elim, fun i s hs => ?_⟩
    rw [List.getElem?_map] at hs
    cases z : ρ[i]? with
    | none => rw [z] at hs; cases hs
    | some s0 =>
      rw [z] at hs
      have q := e1.sl i s0 z
      cases s0 with
      | no => cases hs; trivial
      | sh d => cases hs; obtain ⟨v, q1, q2⟩ := q; exact ⟨v, q1, Dv.mv (Mv.sub fun a g => gS a (gF a g)) _ _ q2⟩
      | ow b0 c =>
        cases hs
        obtain ⟨a, q1, u, q2, q3⟩ := q
        exact ⟨_, q1, OwOk.sh ⟨u, q2, q3.mv (Mv.sub fun a g => gS a (gF a g))⟩ fun g => (gF a g).2 ⟨i, .w z q1⟩⟩
      | dp b0 t =>
        cases hs
        obtain ⟨v, q1, ok, q3⟩ := q
        exact ⟨v, q1, q3.toD (Mv.sub fun a g => gS a (gF a g)) fun a ha g => (gF a g).2 ⟨i, .t z ha⟩⟩
  have keep : ∀ {H2 : Hp}, (∀ a o, H1 a = some o → Sm o H2 a) → Tabs cp.T H2 → En K cp F A H0 H2 σ ρ ∧ Mv (Gv F σ ρ) H1 (Gv F σ ρ) H2 := fun {H2} sm tb => by
    have m : Mv (Gv F σ ρ) H1 (Gv F σ ρ) H2 := ⟨fun a o n h => ⟨n, sm a o h⟩⟩
    refine en_upd e1 Alike.rfl' (fun a o _ h => sm a o h) tb (fun i b ds a h1 h2 => ?_) fun i b t h1 a _ u hu hk => (sm a u hu).to fun qs z => by subst z; exact hk
    obtain ⟨a', q1, u, q2, q3⟩ := e1.sl i _ h1
    rw [h2] at q1; cases q1
    exact ⟨u, (sm a u q2).to q3.nt, q3.mv m⟩
  refine h ⟨E, _, fun _ => none⟩ rfl F' _ H1 H1 σ eL ⟨fun _ _ => rfl, fun i es fs dd ρ2 H2 e2 h1 h2 ⟨d, hd, hnl, φ⟩ => ?_⟩ Qn fun v r ρ1 H2 rs φ => ?_
  · obtain ⟨e3, m3⟩ := keep (fun a o h => e2.fr a o (fun x hx => by cases hx) h) e2.tb
    refine hE i es fs dd H2 d F' h1 (fun a f => e3.tr a f.1) (DvA.mv (Mv.sub fun a g => .inl g) _ _ h2) hd fun v G' ex dv => ?_
    have e4 := e3.ex ex
    refine kk v (.d d) ρ G' ⟨e4, m1.tr (m3.tr (Mv.ex ex)), Dv.nol (fun a g => ?_) _ _ hnl dv⟩ φ
    by_cases z : ∃ i, DD.own σ ρ i a
    · obtain ⟨i, z⟩ := z
      rcases z.is with ⟨b0, c, z1, z2⟩ | ⟨b0, t, z1, z2⟩
      · obtain ⟨a', q1, u, q2, q3⟩ := e4.sl i _ z1
        rw [z2] at q1; cases q1
        exact .inr ⟨u, q2, kind_hk (c0 := b0) q3 (List.all_eq_true.mp hk0 _ (List.mem_of_getElem? z1))⟩
      · obtain ⟨v, q1, ok, q3⟩ := e4.sl i _ z1
        obtain ⟨u, hu, hk⟩ := q3.there z2
        have w : (l && k && b) = true := List.all_eq_true.mp hk0 _ (List.mem_of_getElem? z1)
        simp only [Bool.and_eq_true] at w
        refine .inr ⟨u, hu, ?_⟩
        cases u with
        | lst _ => exact w.1.1
        | dK _ => exact w.1.2
        | dT _ => exact w.1.2
        | ins _ _ _ => exact w.2
        | _ => exact hk.elim
    · exact .inl ⟨g.elim id fun w => (z w).elim, z⟩
  · have fin : (∀ a o, H1 a = some o → Sm o H2 a) ∧ Tabs cp.T H2 := by
      cases r with
      | d d => exact ⟨fun a o h => rs.1.fr a o (fun x hx => by cases hx) h, rs.1.tb⟩
      | n c => obtain ⟨p, _, _, _, en, _⟩ := rs; exact ⟨fun a o h => en.fr a o (fun x hx => by cases hx) h, en.tb⟩
      | o i => exact ⟨fun a o h => rs.1.fr a o (fun x hx => by cases hx) h, rs.1.tb⟩
      | t t => obtain ⟨_, _, _, en, _⟩ := rs; exact ⟨fun a o h => en.fr a o (fun x hx => by cases hx) h, en.tb⟩
    obtain ⟨e3, m3⟩ := keep fin.1 fin.2
    exact hq v H2 fun G' ex => kk nv (.d nd) ρ G' ⟨e3.ex ex, m1.tr (m3.tr (Mv.ex ex)), hnv.dv⟩ φ
end
end DD

end
section
set_option Elab.async false
set_option linter.all false
set_option maxRecDepth 100000
set_option maxHeartbeats 1000000
/-! Loops and comprehensions over nothing. -/
namespace DD
open PySem PySem.Spec PyProof.Rows L2 GL LamX
section
variable {K : PySem.W.Frag} {cp : Cb} {X : XC} {ρ : List SV} {Φ : AV → List SV → Prop} {N : List SV → Prop} {R : AV → List SV → Prop} {B C : List SV → Prop}
theorem DE.lcE {wi : TI} {g : TG} {tt : TT} {te : TE} {vs : List Nat} (hi : DI K cp X wi ρ fun ds ρ1 => ρ1 = ρ ∧ ds = []) (hn : nown ρ vs) (q : Φ (.n (.lst [])) ρ) : DE K cp X (tLc wi g tt te vs) ρ Φ :=
  DE.lcP (ts := []) ([] : List D) id (fun _ => false) id (by simp) hi hn (fun x hx => by simp at hx) rfl q
theorem DE.lc2E {wi wi1 : TI} {g g1 : TG} {tt tt1 : TT} {te : TE} {vs vs1 : List Nat} (hi : DI K cp X wi ρ fun ds ρ1 => ρ1 = ρ ∧ ds = []) (hn : nown ρ vs) (q : Φ (.n (.lst [])) ρ) : DE K cp X (tLc2 wi g tt wi1 g1 tt1 te vs vs1) ρ Φ :=
  DE.lc2P (ts := []) (ts1 := []) ([] : List D) id (fun _ => false) (fun _ => ([] : List D)) id (fun _ _ => false) (fun _ d => d) (fun n => by simp) hi hn (fun x hx => by simp at hx) rfl rfl q
theorem DE.dcE {wi : TI} {g : TG} {tt : TT} {tk tv : TE} {vs : List Nat} (hi : DI K cp X wi ρ fun ds ρ1 => ρ1 = ρ ∧ ds = []) (hn : nown ρ vs) (q : Φ (.n (.dk [] [])) ρ) : DE K cp X (tDc wi g tt tk tv vs) ρ Φ :=
  DE.dcP (ts := []) ([] : List D) id (fun _ => false) (fun _ => .inl 0) id (by simp) (by simp) hi hn (fun x hx => by simp at hx) rfl q
theorem DS.forE {wi : TI} {g : TG} {tb : TS} (hi : DI K cp X wi ρ fun ds ρ1 => ds = [] ∧ N ρ1) : DS K cp X (tFor wi g tb) ρ N R B C :=
  DS.for fun F A H0 H σ e hx Q k => hi F A H0 H σ e hx Q fun J ds ρ1 H1 e1 m1 wk ⟨ed, n⟩ => k J ds ρ1 H1 e1 m1 wk ⟨fun _ ρ => ρ = ρ1, rfl, fun i d ρ2 h _ => (by subst ed; simp at h), fun ρ2 h => (by subst h; exact n)⟩
theorem rl_strS {ψ : AV → Prop} {a : Str} (q : ψ (.d (.str a))) : RLd K cp (fun xs H Q => ∃ a : Str, xs = [V.str a] ∧ Q (V.str a) H) [.str a] ψ := fun G H us Q h2 k => by
  obtain ⟨u, rfl, hu⟩ := dta1 h2
  exact ⟨a, by rw [dt_str hu], k _ (.d (.str a)) H (rx_flat (.str _)) q⟩
end
end DD

end
section
set_option Elab.async false
set_option linter.all false
set_option maxRecDepth 100000
set_option maxHeartbeats 1000000
/-! Tuples of texts that the module holds. -/
namespace DD
open PySem PySem.Spec PyProof.Rows L2 GL
def strV : Value → Option Str
  | .str x _ => some x
  | _ => none
def strTB (K : PySem.W.Frag) (a : Addr) (zs : List Str) : Bool := match K.lookup a with
  | some o => decide (o.cls = .type "tuple") && (match o.data with | .seq its _ => decide (its.size ≤ sizeLine) && decide (its.toList.map strV = zs.map some) | _ => false)
  | none => false
def KTup (K : PySem.W.Frag) (a : Addr) (zs : List Str) : Prop := ∀ H' : Hp, SqT K H' a (zs.map V.str)
theorem vals_str : ∀ {us : List Value} {zs : List Str}, us.map strV = zs.map some → Vals (zs.map V.str) us
  | [], [], _ => .nil
  | u :: us, z :: zs, h => by
    simp only [List.map_cons, List.cons.injEq] at h
    refine .cons ?_ (vals_str h.2)
    cases u with
    | str x t => simp only [strV, Option.some.injEq] at h; rw [← h.1]; exact ⟨_, rfl⟩
    | _ => simp [strV] at h
  | [], _ :: _, h => by simp at h
  | _ :: _, [], h => by simp at h
theorem ktup_of {K : PySem.W.Frag} {a : Addr} {zs : List Str} (h : strTB K a zs = true) : KTup K a zs := by
  intro H'
  unfold strTB at h
  split at h
  · rename_i o ho
    simp only [Bool.and_eq_true, decide_eq_true_eq] at h
    obtain ⟨h1, h2⟩ := h
    split at h2
    · rename_i its n hd
      simp only [Bool.and_eq_true, decide_eq_true_eq] at h2
      exact .inr ⟨o, its, n, ho, h1, hd, h2.1, vals_str h2.2⟩
    · cases h2
  · cases h
end DD

end
section
set_option Elab.async false
set_option linter.all false
set_option maxRecDepth 100000
set_option maxHeartbeats 1000000
/-! A dict is walked by its pairs: it is locked the while. -/
namespace DD
open PySem PySem.Spec PyProof.Rows L2 GL
section
variable {K : PySem.W.Frag} {cp : Cb} {X : XC} {F : Addr → Prop} {A : Pass} {G G' : Addr → Prop} {H0 H H' H1 H2 : Hp} {σ : L2.St} {v : V} {ρ ρ' : List SV} {Φ : AV → List SV → Prop}
/-- only locks have changed -/
structure Rl (H H' : Hp) : Prop where
  k : ∀ x o, OwK o ∨ (∃ vs, o = .tup vs) → (∀ kvs, o ≠ .dK kvs) → (∀ kvs, o ≠ .dT kvs) → H x = some o → H' x = some o
  r : ∀ x kvs, Rd H x (.dK kvs) → Rd H' x (.dK kvs)
  t : ∀ x kvs, Rd H x (.dT kvs) → Rd H' x (.dT kvs)
mutual
theorem Dv.rl (m : Rl H H') : ∀ (d : D) (v : V), Dv K cp G H v d → Dv K cp G H' v d
  | .non, _, h => by cases h; exact .non
  | .bl b, _, h => by cases h; exact .bl b
  | .int i, _, h => by cases h; exact .int i
  | .str x, _, h => by cases h; exact .str x
  | .lst ds, _, h => by
    cases h with
    | @lst a vs _ h1 n h2 => exact .lst (m.k _ _ (.inl trivial) (fun _ z => nomatch z) (fun _ z => nomatch z) h1) n (DvA.rl m ds vs h2)
  | .tup ds, _, h => by
    cases h with
    | @tup a vs _ h1 n h2 => exact .tup (m.k _ _ (.inr ⟨_, rfl⟩) (fun _ z => nomatch z) (fun _ z => nomatch z) h1) n (DvA.rl m ds vs h2)
    | @kt a vs _ h1 h2 h3 => exact .kt h1 (DvA.rl m ds vs h2) h3
  | .dk ks ds, _, h => by
    cases h with
    | @dk a kvs _ _ h1 n e h2 => exact .dk (m.r _ _ h1) n e (DvA.rl m ds _ h2)
  | .ob c ns ds, _, h => by
    cases h with
    | @ob a dx _ fs _ _ h1 n e h2 => exact .ob (m.k _ _ (.inl trivial) (fun _ z => nomatch z) (fun _ z => nomatch z) h1) n e (DvA.rl m ds _ h2)
  | .lk a, _, h => by cases h; exact .lk a
  | .dt ks ds, _, h => by
    cases h with
    | @dt a kvs _ _ h1 n e h2 => exact .dt (m.t _ _ h1) n e (DvA.rl m ds _ h2)
theorem DvA.rl (m : Rl H H') : ∀ (ds : List D) (vs : List V), DvA K cp G H vs ds → DvA K cp G H' vs ds
  | [], _, h => by cases h; exact .nil
  | d :: ds, _, h => by
    cases h with
    | cons h1 h2 => exact .cons (Dv.rl m d _ h1) (DvA.rl m ds _ h2)
end
theorem OwV.rl (m : Rl H H') {o : HO} {c : D} (h : OwV K cp G H o c) : OwV K cp G H' o c := by
  cases h with
  | lst h => exact .lst (DvA.rl m _ _ h)
  | dk e h => exact .dk e (DvA.rl m _ _ h)
  | ob e h => exact .ob e (DvA.rl m _ _ h)
  | dt e h => exact .dt e (DvA.rl m _ _ h)
mutual
theorem TrV.rl (m : Rl H H') : ∀ (t : Tr) (v : V), (∀ a ∈ t.foot, ∀ u, H a = some u → H' a = some u) → TrV K cp G H v t → TrV K cp G H' v t
  | .sh d, _, _, h => by cases h with | sh h => exact .sh (h.rl m)
  | .lst a ts, _, k, h => by
    cases h with
    | @lst _ vs _ h1 h2 => exact .lst (k a (by simp [Tr.foot]) _ h1) (TrA.rl m ts vs (fun b hb => k b (by simp [Tr.foot, hb])) h2)
  | .dk a ks ts, _, k, h => by
    cases h with
    | @dk _ kvs _ _ h1 e h2 => exact .dk (k a (by simp [Tr.foot]) _ h1) e (TrA.rl m ts _ (fun b hb => k b (by simp [Tr.foot, hb])) h2)
  | .ob a c ns ts, _, k, h => by
    cases h with
    | @ob _ dx _ fs _ _ h1 e h2 => exact .ob (k a (by simp [Tr.foot]) _ h1) e (TrA.rl m ts _ (fun b hb => k b (by simp [Tr.foot, hb])) h2)
theorem TrA.rl (m : Rl H H') : ∀ (ts : List Tr) (vs : List V), (∀ a ∈ feet ts, ∀ u, H a = some u → H' a = some u) → TrA K cp G H vs ts → TrA K cp G H' vs ts
  | [], _, _, h => by cases h; exact .nil
  | t :: ts, _, k, h => by
    cases h with
    | cons h1 h2 => exact .cons (TrV.rl m t _ (fun b hb => k b (by simp [feet, hb])) h1) (TrA.rl m ts _ (fun b hb => k b (by simp [feet, hb])) h2)
end
/-- a lock at a place that nobody owns, laid or taken off -/
theorem En.rl {a : Addr} {o1 o2 : HO} (e : En K cp F A H0 H σ ρ) (ha : H a = some o1) (n0 : H0 a = none) (nG : ¬ Gv F σ ρ a) (nt : (∃ kvs, o1 = .dK kvs) ∨ (∃ od kvs, o1 = .frz od (.dK kvs)) ∨ (∃ kvs, o1 = .dT kvs) ∨ ∃ od kvs, o1 = .frz od (.dT kvs)) (m : Rl H (upd H a o2)) : En K cp F A H0 (upd H a o2) σ ρ where
  len := e.len
  tr := fun x f => by
    by_cases z : x = a
    · exact absurd (.inl (z ▸ f)) nG
    · rw [upd_ne z]; exact e.tr x f
  fr := fun x o hx h => by
    have ne : x ≠ a := fun z => by rw [z, n0] at h; cases h
    have := e.fr x o hx h
    unfold Sm at this ⊢
    rw [upd_ne ne]; exact this
  tb := fun p hp => by
    obtain ⟨ps, h1, h2, h3⟩ := e.tb p hp
    refine ⟨ps, by rw [upd_ne (fun z => by rw [z, ha] at h1; rcases nt with ⟨_, rfl⟩ | ⟨_, _, rfl⟩ | ⟨_, rfl⟩ | ⟨_, _, rfl⟩ <;> cases h1)]; exact h1, h2, fun pos cv hc => ?_⟩
    obtain ⟨c, q, hcd⟩ := h3 pos cv hc
    exact ⟨c, q, by rw [upd_ne (fun z => by rw [z, ha] at hcd; rcases nt with ⟨_, rfl⟩ | ⟨_, _, rfl⟩ | ⟨_, rfl⟩ | ⟨_, _, rfl⟩ <;> cases hcd)]; exact hcd⟩
  io := e.io
  dj := e.dj
  ow := e.ow
  dw := e.dw
  sl := fun i s hs => by
    have h := e.sl i s hs
    cases s with
    | no => trivial
    | sh d => obtain ⟨v, q, h⟩ := h; exact ⟨v, q, h.rl m⟩
    | ow b c =>
      obtain ⟨x, q, u, h1, h⟩ := h
      have ne : x ≠ a := fun z => nG (.inr ⟨i, .w hs (by rw [← z]; exact q)⟩)
      exact ⟨x, q, u, by rw [upd_ne ne]; exact h1, h.rl m⟩
    | dp b t =>
      obtain ⟨v, q, ok, h⟩ := h
      exact ⟨v, q, ok, h.rl m _ _ fun x hx u hu => by rw [upd_ne fun z => nG (.inr ⟨i, .t hs (by rw [← z]; exact hx)⟩)]; exact hu⟩
theorem Rl.lock {a : Addr} {od : Obj} {kvs : List (Key × V)} (h : H a = some (.dK kvs)) : Rl H (upd H a (.frz od (.dK kvs))) where
  k := fun x o _ n _ hx => by rw [upd_ne (fun z => by rw [z, h] at hx; cases hx; exact n _ rfl)]; exact hx
  r := fun x kv r => by
    by_cases z : x = a
    · subst z
      rcases r with r | ⟨o, r⟩
      · rw [h] at r; cases r; exact .inr ⟨od, upd_same⟩
      · rw [h] at r; cases r
    · unfold Rd; rw [upd_ne z]; exact r
  t := fun x kv r => by
    have z : x ≠ a := fun z => by
      subst z
      rcases r with r | ⟨o, r⟩ <;> (rw [h] at r; cases r)
    unfold Rd; rw [upd_ne z]; exact r
theorem Rl.free {a : Addr} {od : Obj} {kvs : List (Key × V)} (h : H a = some (.frz od (.dK kvs))) : Rl H (upd H a (.dK kvs)) where
  k := fun x o q n _ hx => by
    rw [upd_ne (fun z => by
      rw [z, h] at hx; cases hx
      rcases q with q | ⟨_, q⟩
      · exact q
      · cases q)]; exact hx
  r := fun x kv r => by
    by_cases z : x = a
    · subst z
      rcases r with r | ⟨o, r⟩
      · rw [h] at r; cases r
      · rw [h] at r; cases r; exact .inl upd_same
    · unfold Rd; rw [upd_ne z]; exact r
  t := fun x kv r => by
    have z : x ≠ a := fun z => by
      subst z
      rcases r with r | ⟨o, r⟩ <;> (rw [h] at r; cases r)
    unfold Rd; rw [upd_ne z]; exact r
theorem Rl.lockT {a : Addr} {od : Obj} {kvs : List (List Key × V)} (h : H a = some (.dT kvs)) : Rl H (upd H a (.frz od (.dT kvs))) where
  k := fun x o _ _ n hx => by rw [upd_ne (fun z => by rw [z, h] at hx; cases hx; exact n _ rfl)]; exact hx
  t := fun x kv r => by
    by_cases z : x = a
    · subst z
      rcases r with r | ⟨o, r⟩
      · rw [h] at r; cases r; exact .inr ⟨od, upd_same⟩
      · rw [h] at r; cases r
    · unfold Rd; rw [upd_ne z]; exact r
  r := fun x kv r => by
    have z : x ≠ a := fun z => by
      subst z
      rcases r with r | ⟨o, r⟩ <;> (rw [h] at r; cases r)
    unfold Rd; rw [upd_ne z]; exact r
theorem Rl.freeT {a : Addr} {od : Obj} {kvs : List (List Key × V)} (h : H a = some (.frz od (.dT kvs))) : Rl H (upd H a (.dT kvs)) where
  k := fun x o q _ n hx => by
    rw [upd_ne (fun z => by
      rw [z, h] at hx; cases hx
      rcases q with q | ⟨_, q⟩
      · exact q
      · cases q)]; exact hx
  t := fun x kv r => by
    by_cases z : x = a
    · subst z
      rcases r with r | ⟨o, r⟩
      · rw [h] at r; cases r
      · rw [h] at r; cases r; exact .inl upd_same
    · unfold Rd; rw [upd_ne z]; exact r
  r := fun x kv r => by
    have z : x ≠ a := fun z => by
      subst z
      rcases r with r | ⟨o, r⟩ <;> (rw [h] at r; cases r)
    unfold Rd; rw [upd_ne z]; exact r
/-- an expression while a name's own dict is locked; the name knows it from then on -/
theorem DE.lockD {te : TE} {i : Nat} {ks : List Key} {ds : List D} (hs : ρ[i]? = some (.ow false (.dk ks ds)))
    (h : ∀ a od kvs, DE K cp X (fun σ H Q => σ[i]? = some (some (.ref a)) → H a = some (.frz od (.dK kvs)) → te σ H Q) (ρ.set i (.sh (.dk ks ds))) Φ) : DE K cp X (tLockE te) ρ Φ := fun F A H0 H σ e hx Q k => by
  obtain ⟨a, h1, u, h2, h3⟩ := e.sl i _ hs
  cases h3 with
  | @dk kvs _ _ ek da =>
    have z := e.ow i false _ a hs h1
    rw [if_neg (by decide)] at z
    obtain ⟨nF, n0⟩ := z
    have hl : i < ρ.length := (List.getElem?_eq_some_iff.mp hs).1
    have fz : tVar i σ H (fun _ H' => En K cp F A H0 H' σ (ρ.set i (.sh (.dk ks ds))) ∧ Mv (Gv F σ ρ) H (Gv F σ (ρ.set i (.sh (.dk ks ds)))) H') :=
      DE.frz (X := X) (Φ := fun r ρ' => r = .d (.dk ks ds) ∧ ρ' = ρ.set i (.sh (.dk ks ds))) hs ⟨rfl, rfl⟩ F A H0 H σ e hx _ fun v r ρ' H' rs ⟨e1, e2⟩ => by subst e1; subst e2; exact ⟨rs.1, rs.2.1⟩
    obtain ⟨v0, _, e4, m4⟩ := fz
    have oa : Gv F σ ρ a := .inr ⟨i, .w hs h1⟩
    have nG : ¬ Gv F σ (ρ.set i (.sh (.dk ks ds))) a := by
      rintro (f | ⟨j, s, q1, q2⟩)
      · exact nF f
      · by_cases z : i = j
        · subst z; rw [List.getElem?_set_self hl] at q1; cases q1; exact q2.elim
        · rw [List.getElem?_set_ne z] at q1
          exact z (e.dj i j a (.w hs h1) ⟨s, q1, q2⟩)
    refine ⟨a, .dK kvs, h2, trivial, fun od => ?_⟩
    have e5 := e4.rl (o2 := .frz od (.dK kvs)) h2 n0 nG (.inl ⟨_, rfl⟩) (Rl.lock h2)
    refine h a od kvs F A H0 _ σ e5 hx _ (fun v r ρ' H' rs φ => ?_) h1 upd_same
    have key : ∀ {F' : Addr → Prop}, En K cp F' A H0 H' σ ρ' → Mv (Gv F σ (ρ.set i (.sh (.dk ks ds)))) (upd H a (.frz od (.dK kvs))) (Gv F' σ ρ') H' →
        H' a = some (.frz od (.dK kvs)) ∧ En K cp F' A H0 (upd H' a (.dK kvs)) σ ρ' ∧ Mv (Gv F σ ρ) H (Gv F' σ ρ') (upd H' a (.dK kvs)) ∧ Rl H' (upd H' a (.dK kvs)) ∧ ¬ Gv F' σ ρ' a := fun {F'} E m => by
      obtain ⟨n', s'⟩ := m.k a (.frz od (.dK kvs)) nG upd_same
      have s' : H' a = some (.frz od (.dK kvs)) := s'
      refine ⟨s', E.rl s' n0 n' (.inr (.inl ⟨_, _, rfl⟩)) (Rl.free s'), ⟨fun x o n hx => ?_⟩, Rl.free s', n'⟩
      have ne : x ≠ a := fun z => n (by rw [z]; exact oa)
      obtain ⟨p1, p2⟩ := m4.k x o n hx
      obtain ⟨p3, p4⟩ := m.k x o p1 (by rw [upd_ne ne]; exact hx)
      refine ⟨p3, ?_⟩
      unfold Sm at p4 ⊢
      rw [upd_ne ne]; exact p4
    cases r with
    | d d =>
      obtain ⟨a1, a2, a3⟩ := rs
      obtain ⟨b1, b2, b3, b4, _⟩ := key a1 a2
      exact ⟨b1, k v (.d d) ρ' _ ⟨b2, b3, a3.rl b4⟩ φ⟩
    | n c =>
      obtain ⟨p, a0, f1, f2, a1, f3, a2, u, a3, a4⟩ := rs
      obtain ⟨b1, b2, b3, b4, b5⟩ := key a1 a2
      have ne : p ≠ a := fun z => b5 (.inl (.inr z.symm))
      exact ⟨b1, k v (.n c) ρ' _ ⟨p, a0, f1, f2, b2, f3, b3, u, by rw [upd_ne ne]; exact a3, a4.rl b4⟩ φ⟩
    | o j =>
      obtain ⟨a1, a2, a3⟩ := rs
      obtain ⟨b1, b2, b3, b4, _⟩ := key a1 a2
      exact ⟨b1, k v (.o j) ρ' _ ⟨b2, b3, a3⟩ φ⟩
    | t t =>
      obtain ⟨a0, ok, nf, a1, f3, a2⟩ := rs
      obtain ⟨b1, b2, b3, b4, b5⟩ := key a1 a2
      exact ⟨b1, k v (.t t) ρ' _ ⟨a0.rl b4 _ _ fun x hx u hu => by rw [upd_ne fun z => b5 (.inl (.inr (by rw [← z]; exact hx)))]; exact hu, ok, nf, b2, f3, b3⟩ φ⟩
def keyD : Key → D
  | .inl i => .int i
  | .inr x => .str x
theorem walk_items {d : Addr} {o : Obj} {kvs : List (Key × V)} : Walk (Iti d o kvs) kvs.length (fun H => H d = some (.frz o (.dK kvs))) (YPair (fun i => (kvs[i]?).map fun p => kV p.1) (fun i => (kvs[i]?).map (·.2))) := by
  refine ⟨fun i H hi q => ⟨q, hi⟩, fun H q => ⟨q, Nat.le_refl _⟩, fun i H v H' hi q y => ?_⟩
  obtain ⟨T, k, v2, h1, h2, h3, h4⟩ := y
  exact ⟨T, kV k, v2, h2, h3, h4, by simp [h1], by simp [h1]⟩
theorem dk_at {kvs : List (Key × V)} {ks : List Key} {ds : List D} (ek : kvs.map (·.1) = ks) (da : DvA K cp G H (kvs.map (·.2)) ds) {i : Nat} {p : Key × V} (h : kvs[i]? = some p) : ∃ d, ((ks.zip ds).map fun p => D.tup [keyD p.1, p.2])[i]? = some (.tup [keyD p.1, d]) ∧ Dv K cp G H p.2 d := by
  subst ek
  obtain ⟨d, h1, h2⟩ := da.at (i := i) (v := p.2) (by rw [List.getElem?_map, h]; rfl)
  refine ⟨d, ?_, h2⟩
  have hk : (kvs.map (·.1))[i]? = some p.1 := by rw [List.getElem?_map, h]; rfl
  have hz : ((kvs.map (·.1)).zip ds)[i]? = some (p.1, d) := List.getElem?_zip_eq_some.mpr ⟨hk, h1⟩
  rw [List.getElem?_map, hz]; rfl
theorem DI.itemsF {i : Nat} {a : Addr} {od : Obj} {kvs : List (Key × V)} {ks : List Key} {ds : List D} {Ψ : List D → List SV → Prop} (hs : ρ[i]? = some (.sh (.dk ks ds))) (ψ : Ψ ((ks.zip ds).map fun p => .tup [keyD p.1, p.2]) ρ) :
    DI K cp X (fun σ H R => σ[i]? = some (some (.ref a)) → H a = some (.frz od (.dK kvs)) → iItems (tVar i) σ H R) ρ Ψ := fun F A H0 H σ e hx Q k h1 h2 => by
  obtain ⟨v, hv, dv⟩ := e.sl i _ hs
  rw [h1] at hv
  cases hv
  cases dv with
  | @dk _ kvs2 _ _ r n ek da =>
    have : kvs2 = kvs := by
      rcases r with r | ⟨o, r⟩
      · rw [h2] at r; cases r
      · rw [h2] at r; cases r; rfl
    subst this
    refine ⟨_, h1, a, od, kvs2, rfl, h2, k _ _ ρ H e (Mv.ex (Ex.rfl' _)) (wk_pair (n := kvs2.length) ?_ (walk_items.mono (fun H' ⟨G', m⟩ => (m.k a _ n h2).2) fun _ _ _ _ _ _ y => y) fun j x y hx hy => ?_) ψ⟩
    · rw [List.length_map, List.length_zip, ← ek, List.length_map, ← da.len, List.length_map, Nat.min_self]
    · obtain ⟨p, hp, rfl⟩ := Option.map_eq_some_iff.mp hx
      rw [hp] at hy
      cases hy
      obtain ⟨d, q1, q2⟩ := dk_at ek da hp
      refine ⟨keyD p.1, d, q1, ?_, q2⟩
      cases p.1 with
      | inl i => exact .int i
      | inr x => exact .str x
/-- [e for k, v in d.items() if t], d a name's own dict -/
theorem DE.lcItems {i : Nat} {ks : List Key} {ds : List D} {g : TG} {tt : TT} {te : TE} {vs : List Nat} (hs : ρ[i]? = some (.ow false (.dk ks ds)))
    (h : ∀ wi : TI, (∀ Ψ : List D → List SV → Prop, Ψ ((ks.zip ds).map fun p => .tup [keyD p.1, p.2]) (ρ.set i (.sh (.dk ks ds))) → DI K cp X wi (ρ.set i (.sh (.dk ks ds))) Ψ) → DE K cp X (tLc wi g tt te vs) (ρ.set i (.sh (.dk ks ds))) Φ) :
    DE K cp X (tLockE (tLc (iItems (tVar i)) g tt te vs)) ρ Φ :=
  DE.lockD hs fun a od kvs => h (fun σ H R => σ[i]? = some (some (.ref a)) → H a = some (.frz od (.dK kvs)) → iItems (tVar i) σ H R) fun Ψ ψ => DI.itemsF (by rw [List.getElem?_set_self (List.getElem?_eq_some_iff.mp hs).1]) ψ
end
end DD

end
section
set_option Elab.async false
set_option linter.all false
set_option maxRecDepth 100000
set_option maxHeartbeats 4000000
/-! sorted(set(ints)). -/
namespace DD
open PySem PySem.Spec PyProof.Rows L2 GL
theorem few_len : ∀ {k : Nat} {xs : List Int}, xs.Nodup → (∀ x ∈ xs, 0 ≤ x ∧ x < k) → xs.length ≤ k
  | 0, xs, _, h => by
    cases xs with
    | nil => exact Nat.le_refl _
    | cons x xs => have := h x (List.mem_cons_self ..); omega
  | k + 1, xs, nd, h => by
    have ih := few_len (k := k) (xs := xs.erase (k : Int)) (nd.sublist List.erase_sublist) fun x hx => by
      have h1 := h x (List.mem_of_mem_erase hx)
      have h2 : x ≠ (k : Int) := fun z => by rw [z] at hx; exact (List.Nodup.not_mem_erase nd) hx
      omega
    have e := List.length_erase (a := (k : Int)) (l := xs)
    split at e <;> omega
section
variable {P : Program} {w : World} {A : Around} {E : Value → Shared → Prop} {s : Shared}
/-- a set as it is made -/
abbrev set0 (w : World) : Obj := { cls := .type "set", dict := none, data := .set #[] 0 (.fresh 0 0 (!w.params.followText "set-order")) }
set_option maxHeartbeats 3200000 in
theorem set_of_list {lo : Addr} {xs : Array Value} (ks : List Int) {Q : Value → Shared → Prop} (hh : A.handled = none) (hlo : s.heap.IsList lo xs) (hxs : IntsAre xs.toList ks) (hks : ks.length + 1 < scanBound)
    (fin : ∀ (g : Heap) (tk c : Nat), SetR w g s.heap.objs.size (fun j => decide (j ∈ ks)) c → (∀ b o, s.heap.get? b = some o → g.get? b = some o) → Q (.ref s.heap.objs.size) { s with heap := g, toks := tk }) :
    wpAny (model P w) A (call (.type "set") [.ref lo]) Q E s := by
  have size_xs : xs.size = ks.length := by have z := IntsAre.length hxs; rwa [Array.length_toList] at z
  obtain ⟨cc, tt, q1⟩ := F.called_set.mro
  have q2 := F.called_set.made
  have q3 := F.called_set.sub
  refine wpAny_call (codeAny_of_tree ?_)
  show wpAny _ _ (callAny (.type "set") _) _ _ _
  refine wpAny_pure ⟨?qu, codeAny_builtin F.entry_type_call ?_⟩
  case qu => exact Code.quiet_builtin _ (by decide +kernel)
  rw [Around.under_plain (weight_type_call_type "set" [.ref lo] []) rfl]
  have q4 := F.called_set.notType
  have q5 := F.called_set.canCreate
  have q6 := F.typeCall_set_1 (.ref lo)
  repeat (any_goals (first | wp_step | assumption))
  refine codeAny_mono (code_set_led1 (.ref lo) (E := E) (Q₁ := fun obj s₁ => obj = .ref s.heap.objs.size ∧ s₁ = { s with heap := s.heap.push (set0 w) }) ⟨rfl, rfl⟩) fun r s₁ hr => ?_
  cases r with
  | error e => exact hr
  | ok fl =>
    cases fl with
    | ret obj =>
      obtain ⟨rfl, rfl⟩ := hr
      have at0 : (s.heap.push (set0 w)).get? s.heap.objs.size = some (set0 w) := Heap.get?_push_size _ rfl
      have ty0 : Shared.TypeIs { s with heap := s.heap.push (set0 w) } (.ref s.heap.objs.size) "set" := ⟨_, at0, rfl⟩
      have q7 := F.called_set.init.lookup
      have q8 := F.called_set.init.bind (.ref s.heap.objs.size)
      repeat (any_goals (first | wp_step | assumption))
      refine codeAny_mono (codeAny_call_builtin (R := wants (fun r s₂ => r = .none ∧ ∃ g tk c, s₂ = { s with heap := g, toks := tk } ∧ SetR w g s.heap.objs.size (fun j => decide (j ∈ ks)) c ∧
          (∀ b o, s.heap.get? b = some o → g.get? b = some o)) E) F.called_set.init.plain F.entry_set_init (check_set_init_1 ty0 ?_)) fun r₂ s₂ hr₂ => ?_
      · obtain ⟨ol, atl, cl, nl, dl⟩ := hlo
        obtain ⟨ocls, od, odata, osl⟩ := ol
        simp only at cl dl
        subst cl; subst dl
        have atl' : (s.heap.push (set0 w)).get? lo = some { cls := .type "list", dict := od, data := .seq xs nl, slots := osl } := Heap.get?_push_of_some _ atl
        have q9 := F.sub_list_set
        have q10 := F.sub_list_frozenset
        have q11 : (Value.type "list" == Value.type "dict") = false := by decide
        have isl : (s.heap.push (set0 w)).IsList lo xs := ⟨_, atl', rfl, nl, rfl⟩
        unfold Builtin.«set.__init__» noKeywords Builtin.Frozenset.updateFrom
        generalize hPI : pyIter = PI
        wp_walk
        subst hPI
        refine wpAny_pyIter_list isl ?_
        refine wpAny_bind (wpAny_runValue ?_)
        have llt : lo < s.heap.objs.size := Heap.lt_size atl
        have quiet3 : A.in1.in1.in1.handled = none := by simp [hh]
        have size1 : (s.heap.push (set0 w)).objs.size = s.heap.objs.size + 1 := Heap.size_push ..
        have apart : lo ≠ (s.heap.push (set0 w)).objs.size := by rw [size1]; exact Nat.ne_of_lt (Nat.lt_succ_of_lt llt)
        have aside : s.heap.objs.size ∉ [(s.heap.push (set0 w)).objs.size, lo] := by
          rw [size1]; simp only [List.mem_cons, List.not_mem_nil, or_false, not_or]; exact ⟨Nat.ne_of_lt (Nat.lt_succ_self _), Nat.ne_of_gt llt⟩
        have ats : ∀ (i : Nat) (v : Value), xs[i]? = some v → ∃ k t, ks[i]? = some k ∧ v = .int k t := fun i v hv => by
          have lt : i < ks.length := by rw [← size_xs]; exact (Array.getElem?_eq_some_iff.mp hv).1
          obtain ⟨t, e⟩ := PyProof.Rows.IntsAre.int_at hxs i v (by rw [Array.getElem?_toList]; exact hv)
          refine ⟨ks[i], t, List.getElem?_eq_getElem lt, ?_⟩
          rw [e, List.getD_eq_getElem?_getD, List.getElem?_eq_getElem lt] <;> rfl
        refine set_update_ints ((Walks.list quiet3 _ lo apart xs).toS) s.heap.objs.size aside ks size_xs hks ats (xs.size - 0) 0 _ (by omega) (Nat.zero_le _) ⟨⟨_, Heap.get?_push_size _ rfl, rfl, rfl⟩, (isl.push _)⟩ ?first ?rest
        case first =>
          have at1 : ((s.heap.push (set0 w)).push { cls := .type "list_iterator", data := .fields #[.ref lo, .int 0 0] }).get? s.heap.objs.size = some (set0 w) := Heap.get?_push_of_some _ at0
          exact ⟨0, Nat.le_refl 0, setR_new_at at1⟩
        case rest =>
          intro s' c' mv _ hS'
          obtain ⟨g, g2, d2, tk2, os2⟩ := s'
          have e1 : g2 = s.gens := mv.gens
          have e2 : d2 = s.drawn := mv.drawn
          have e3 : os2 = s.os := mv.os
          subst e1; subst e2; subst e3
          show wpAny _ _ _ _ _ _
          refine wpAny_pure ?_
          show wpAny _ _ (ret Value.none) _ _ _
          refine wpAny_pure ⟨rfl, g, tk2, c', rfl, hS', fun b o e => ?_⟩
          have b0 : b < s.heap.objs.size := Heap.lt_size e
          exact mv.heap b o (by rw [size1]; simp only [List.mem_cons, List.not_mem_nil, or_false, not_or]; exact ⟨Nat.ne_of_lt b0, Nat.ne_of_lt (Nat.lt_succ_of_lt b0)⟩) (Heap.get?_push_of_some _ (Heap.get?_push_of_some _ e))
      · cases r₂ with
        | error e => exact hr₂
        | ok fl₂ =>
          cases fl₂ with
          | ret r =>
            obtain ⟨rfl, g, tk, c', rfl, hS', kp⟩ := hr₂
            repeat (any_goals (first | wp_step | assumption))
            exact fin _ _ _ hS' kp
          | _ => exact hr₂.elim
    | _ => exact hr.elim
end
section
variable {X : Cx}
def tSortSetI (K : PySem.W.Frag) (ta : TE) : TE := fun σ H Q => ta σ H fun x H1 => ∃ (l : Addr) (ns : List Int), x = .ref l ∧ SqL K H1 l (ns.map V.int) ∧ ns.length ≤ 4000 ∧ (∀ k ∈ ns, 0 ≤ k ∧ k < 60) ∧
  ∀ (rs : List Int) (p : Addr), rs.Pairwise (· < ·) → (∀ k, k ∈ rs ↔ k ∈ ns) → H1 p = none → Q (.ref p) (upd H1 p (.lst (rs.map V.int)))
theorem pe_sortedSetI {a : Expr} {ta : TE} {p1 p2 p3 p4 : Pos} (hc : X.calm = true) (hg : Gl X "sorted") (hm : X.mg "sorted" = none) (hg2 : Gl X "set") (hm2 : X.mg "set" = none) (ha : PE X a ta)
    (na : starEach [a] X.env = (false, eval a X.env) :: starEach [] X.env := by rfl) : PE X (.Call (.Name "sorted" p1) [.Call (.Name "set" p2) [a] [] p3] [] p4) (tSortSetI X.K ta) := by
  refine ⟨fun pins s σ H Q I h => Call_ (ld_blt I hg hm boot_sorted (PyProof.Rows.callWith_builtin1 (PyProof.Rows.args_cons (Call_ (ld_blt I hg2 hm2 boot_set ?inner)) rfl) rfl rfl))⟩
  refine PyProof.Rows.callWith_type1 (PyProof.Rows.args_cons (thn (ha.run pins s σ H _ I h) fun v s1 ⟨x, H1, I1, r1, q1⟩ => PyProof.Rows.args_nil ?_) na) na rfl
  obtain ⟨l, ns, rfl, hq, hn, hb, q1⟩ := q1
  cases r1
  obtain ⟨its, r, pl, hz⟩ := I1.list hq
  refine set_of_list ns (I1.ok.hd hc) pl.isList (by simpa using r.ints) (by show ns.length + 1 < 4096; omega) fun g tk c R kp => PyProof.Rows.args_nil ?_
  have I2 : Inv X pins σ H1 { s1 with heap := g, toks := tk } := I1.kept fun b u e => kp b u e
  have hc60 : c < 64 := by
    obtain ⟨o, es, ep, t, _, _, _, _, nd, hmem, _, _, hn2, _⟩ := R
    have := few_len (k := 60) nd fun k hk => hb k (of_decide_eq_true ((hmem k).mpr hk))
    rw [List.length_map, Array.length_toList] at this
    omega
  obtain ⟨s2, hs2⟩ : ∃ s2 : Shared, s2 = { s1 with heap := g, toks := tk } := ⟨_, rfl⟩
  have R2 : SetR X.w s2.heap s1.heap.objs.size (fun j => decide (j ∈ ns)) c := by rw [hs2]; exact R
  rw [← hs2] at I2 ⊢
  refine sorted_set R2 (I2.ok.hd hc) hc60 fun s' p out c2 rs k gg oo hp hg' hi hs hmm hl => ?_
  have hlen : (rs.map V.int).length ≤ sizeLine := by rw [List.length_map, hl, sizeLine_eq]; omega
  have fr : H1 p = none := I2.hok.fresh hp
  have J : Inv X pins σ (upd H1 p (.lst (rs.map V.int))) { s2 with heap := s'.heap, gens := s'.gens, drawn := s'.drawn, toks := s'.toks } :=
    I2.call (ch := []) (Un.laid k hp fr) (I2.hok.laid k hp ⟨hlen, out.toList, c2, vals_of_ints hi, hg'⟩) (by rw [gg]; exact I2.bare) (fun _ z => nomatch z)
  have e : s' = { s2 with heap := s'.heap, gens := s'.gens, drawn := s'.drawn, toks := s'.toks } := by
    cases s'
    cases s2
    cases oo
    rfl
  rw [e]
  exact ⟨.ref p, _, J, rfl, q1 rs p hs (fun k => (hmm k).trans (decide_eq_true_iff)) fr⟩
end
section
variable {K : PySem.W.Frag} {cp : Cb} {X : XC} {ρ : List SV} {Φ : AV → List SV → Prop}
theorem dva_ints {G : Addr → Prop} {H : Hp} : ∀ rs : List Int, DvA K cp G H (rs.map V.int) (rs.map D.int)
  | [] => .nil
  | x :: xs => .cons (.int x) (dva_ints xs)
theorem DE.sortedSet {te : TE} (h : DEo K cp X te ρ fun p ρ1 => ∃ ns : List Int, p.at ρ1 = some (.lst (ns.map D.int)) ∧ ns.length ≤ 4000 ∧ (∀ k ∈ ns, 0 ≤ k ∧ k < 60) ∧ ∀ rs : List Int, rs.Pairwise (· < ·) → (∀ k, k ∈ rs ↔ k ∈ ns) → Φ (.n (.lst (rs.map D.int))) ρ1) : DE K cp X (tSortSetI K te) ρ Φ := fun F A H0 H σ e hx Q k =>
  h.go e hx fun v p ρ1 H1 e1 m1 o1 ⟨ns, hp, hn, hb, φ⟩ => by
    obtain ⟨a, vs, rfl, r, dv⟩ := dt_lst (o1.dt e1 hp)
    rw [ints_of dv] at r
    refine ⟨a, ns, rfl, .inl (.inl r), hn, hb, fun rs p2 h1 h2 h3 => k _ (.n (.lst (rs.map D.int))) ρ1 _ ((Rx.res (r := .n (.lst (rs.map D.int))) e1 ⟨p2, rfl, h3, Ex.nw h3, _, upd_same, .lst (dva_ints rs)⟩).tr m1) (φ rs h1 h2)⟩
end
end DD

end
section
set_option Elab.async false
set_option linter.all false
set_option maxRecDepth 100000
set_option maxHeartbeats 1000000
/-! a loop over what is told only behind the draw; three names at once, the last one an owner. -/
namespace DD
open PySem PySem.Spec PyProof.Rows L2 GL
section
variable {K : PySem.W.Frag} {cp : Cb} {X : XC} {F : Addr → Prop} {A : Pass} {H0 H H' H1 : Hp} {σ : L2.St} {ρ : List SV} {Φ : AV → List SV → Prop} {N B C : List SV → Prop} {R : AV → List SV → Prop} {ψ : AV → Prop}
theorem DS.forX {wi : TI} {g : TG} {tb : TS} {T : Type} (enc : T → D) (h : DI K cp X wi ρ fun ds ρ1 => ∃ xs : List T, ds = xs.map enc ∧ ∃ I : List T → List SV → Prop, I [] ρ1 ∧
    (∀ l x r ρ2, xs = l ++ x :: r → I l ρ2 → DGo K cp g (enc x) ρ2 fun ρ3 => DS K cp X tb ρ3 (I (l ++ [x])) R N (I (l ++ [x]))) ∧ ∀ ρ2, I xs ρ2 → N ρ2) : DS K cp X (tFor wi g tb) ρ N R B C := by
  refine DS.for fun F A H0 H σ e hx Q k => h F A H0 H σ e hx Q fun J ds ρ1 H1 e1 m1 wk ⟨xs, ed, I, i0, hs, hd⟩ => ?_
  subst ed
  refine k J _ ρ1 H1 e1 m1 wk ⟨fun i ρ => I (xs.take i) ρ, (show I (xs.take 0) ρ1 by rw [List.take_zero]; exact i0), ?_, ?_⟩
  · intro i d ρ2 hi q
    rw [List.getElem?_map] at hi
    obtain ⟨x, hx, rfl⟩ := Option.map_eq_some_iff.mp hi
    have ht : xs.take (i + 1) = xs.take i ++ [x] := by rw [List.take_add_one, hx]; rfl
    show DGo K cp g (enc x) ρ2 fun ρ3 => DS K cp X tb ρ3 (I (xs.take (i + 1))) R N (I (xs.take (i + 1)))
    rw [ht]
    refine hs _ x (xs.drop (i + 1)) ρ2 ?_ q
    obtain ⟨hl, he⟩ := List.getElem?_eq_some_iff.mp hx
    rw [← he, ← List.drop_eq_getElem_cons hl, List.take_append_drop]
  · intro ρ2 q
    refine hd ρ2 ?_
    have : (xs.map enc).length = xs.length := List.length_map ..
    have q : I (xs.take (xs.map enc).length) ρ2 := q
    rw [this, List.take_length] at q
    exact q
theorem DS.par3O {i j l : Nat} {t1 t2 t3 : TE} (h : DEs K cp X t1 ρ fun d ρ1 => DEs K cp X t2 ρ1 fun e ρ2 => DE K cp X t3 ρ2 fun r ρ3 => ∃ c, r = .n c ∧ free ρ3 i ∧ free ρ3 j ∧ free ρ3 l ∧ N (((ρ3.set i (.sh d)).set j (.sh e)).set l (.ow false c))) :
    DS K cp X (tPar3 i j l (tCons t1 (tCons t2 (tCons t3 tNil)))) ρ N R B C := fun F A H0 H σ e hx Dd n r b c =>
  h.go e (hx _) fun v d ρ1 H1 e1 m1 dv q1 => DEs.go (show DEs K cp X t2 ρ1 _ from q1) e1 (hx _) fun w d' ρ2 H2 e2 m2 dw q2 => (show DE K cp X t3 ρ2 _ from q2) F A H0 H2 σ e2 (hx _) _ fun u r ρ3 H3 rs ⟨c, hr, fi, fj, fl, q⟩ => by
    subst hr
    obtain ⟨p, rfl, nf, h0, en, ha, mv, ow⟩ := rs
    refine ⟨v, w, .ref p, rfl, ?_⟩
    have nsh : ∀ {d : D} (b : Bool) (c : D), SV.sh d ≠ .ow b c := by rintro d b c z; cases z
    have e4 := en.set fi (.inl ⟨d, v, rfl, rfl, dv.mv (m2.tr mv)⟩)
    have s1 : ∀ a, Gv (plus F p) (σ.set i (some v)) (ρ3.set i (.sh d)) a → Gv (plus F p) σ ρ3 a := gv_set nsh
    have fj2 := free_set (s := .sh d) fi.1 nsh fj
    have e5 := e4.set fj2 (.inl ⟨d', w, rfl, rfl, Dv.mv (mv.tr (Mv.sub s1)) _ _ dw⟩)
    have s2 : ∀ a, Gv (plus F p) ((σ.set i (some v)).set j (some w)) ((ρ3.set i (.sh d)).set j (.sh d')) a → Gv (plus F p) (σ.set i (some v)) (ρ3.set i (.sh d)) a := gv_set nsh
    have fl2 := free_set (s := .sh d') fj2.1 nsh (free_set (s := .sh d) fi.1 nsh fl)
    obtain ⟨u, hu, hv⟩ := ow
    obtain ⟨e6, g6⟩ := own_new e5 nf h0 ha fl2 ⟨u, hu, hv.mv (Mv.sub fun a g => s1 a (s2 a g))⟩
    exact n _ _ H3 e6 (m1.tr (m2.tr (mv.tr (Mv.sub fun a g => s1 a (s2 a (g6 a g)))))) q
end
end DD

end
section
set_option Elab.async false
set_option linter.all false
set_option maxRecDepth 100000
set_option maxHeartbeats 1000000
/-! what a goal is about, as it stands: a walk looks only at the rules for it. -/
namespace DD
open PySem PySem.Spec PyProof.Rows L2 GL
theorem gEx {α : Sort u} {p : α → Prop} (h : ∃ x, p x) : ∃ x, p x := h
theorem gAnd {a b : Prop} (h : a ∧ b) : a ∧ b := h
theorem gIf {c : Prop} [Decidable c] {a b : Prop} (h : if c then a else b) : if c then a else b := h
section
variable {K : PySem.W.Frag} {cp : Cb} {X : XC} {ρ : List SV}
theorem gDS {t : TS} {N : List SV → Prop} {R : AV → List SV → Prop} {B C : List SV → Prop} (h : DS K cp X t ρ N R B C) : DS K cp X t ρ N R B C := h
theorem gDE {t : TE} {Φ : AV → List SV → Prop} (h : DE K cp X t ρ Φ) : DE K cp X t ρ Φ := h
theorem gDT {t : TT} {Φ : Bool → List SV → Prop} (h : DT K cp X t ρ Φ) : DT K cp X t ρ Φ := h
theorem gDI {t : TI} {Ψ : List D → List SV → Prop} (h : DI K cp X t ρ Ψ) : DI K cp X t ρ Ψ := h
theorem gDAo {t : TA} {Ψ : List OP → List SV → Prop} (h : DAo K cp X t ρ Ψ) : DAo K cp X t ρ Ψ := h
theorem gDGo {g : TG} {d : D} {Ψ : List SV → Prop} (h : DGo K cp g d ρ Ψ) : DGo K cp g d ρ Ψ := h
theorem gDGos {g : TGs} {ds : List D} {Ψ : List SV → Prop} (h : DGos K cp g ds ρ Ψ) : DGos K cp g ds ρ Ψ := h
theorem gDG {g : TG} {ts : List Nat} {d : D} {Ψ : List SV → Prop} (h : DG K cp g ts d ρ Ψ) : DG K cp g ts d ρ Ψ := h
theorem gDGs {g : TGs} {ts : List Nat} {ds : List D} {Ψ : List SV → Prop} (h : DGs K cp g ts ds ρ Ψ) : DGs K cp g ts ds ρ Ψ := h
theorem gR2d {r : R2} {x y : D} {ψ : AV → Prop} (h : R2d K cp r x y ψ) : R2d K cp r x y ψ := h
theorem gR2t {r : R2} {x y : D} {ψ : AV → Prop} (h : R2t K cp r x y ψ) : R2t K cp r x y ψ := h
theorem gRLd {r : List V → Hp → VK → Prop} {xs : List D} {ψ : AV → Prop} (h : RLd K cp r xs ψ) : RLd K cp r xs ψ := h
end
end DD

end
section
set_option Elab.async false
set_option linter.all false
set_option maxRecDepth 100000
set_option maxHeartbeats 1000000
namespace DD
open PySem PySem.Spec PyProof.Rows L2 GL
section
variable {pg : Program} {w : World} {K : PySem.W.Frag} {mg : Str → Option Value} {bs : Heap} {cp : Cb} {X : XC}
/-- a def that makes lambdas and raises nothing, by its contract -/
theorem okDC {cx : CXT} {x q : Str} {st : Stmt} {f : Addr} {fd : FuncData} {N ps : List Str} {k : Nat} {C : Ct} {nos : List SV} (Fn : Fun K x q st f fd) (S : FnScope N ps (defScope st)) (hno : noS (N.length - ps.length) = nos)
    (hb : ∀ (cd : Value) (A : Around) (out : List Env) (s : Shared) (H : Hp) (E : XK), A.guards = some [] → CodeF K f cd → Room k (A.deeper (envOfC q (defScope st) s.heap.objs.size f cd)) → ∀ ss Φ, C ss Φ → ss.length = ps.length →
      ∃ t, PSs (cxOf cx pg w K mg bs N q (defScope st) f cd A out s H E) (defBody st) t ∧ DS K cp XC.q t (ss ++ nos) (Φ (.d .non)) Φ (fun _ => False) fun _ => False) :
    FnG pg w K mg bs cx (k + 1) f fd ps (spC K cp ps.length C) :=
  okXC Fn S hno fun cd A out s H E gd hcf hr ss Φ Ψ hc hl => let ⟨t, ht, hd⟩ := hb cd A out s H E gd hcf hr ss Φ hc hl; ⟨t, ht, fun F A H0 H σ e _ => hd F A H0 H σ e fun _ => xq⟩
end
end DD

end
section
set_option Elab.async false
set_option linter.all false
set_option maxRecDepth 100000
set_option maxHeartbeats 1000000
/-! zip of two tuples -/
namespace DD
open PySem PySem.Spec PyProof.Rows L2 GL
section
variable {K : PySem.W.Frag} {cp : Cb} {X : XC} {ρ : List SV} {G : Addr → Prop} {H : Hp}
theorem wk_two {a b : Addr} {xs ys : List V} {n : Nat} (hn : n = min xs.length ys.length) : Walk (RZ.ItzT K a b) n (fun H => SqT K H a xs ∧ SqT K H b ys) (YPair (fun i => xs[i]?) (fun i => ys[i]?)) := by
  subst hn
  constructor
  · intro i _ hi q
    have h1 : i < xs.length := by omega
    have h2 : i < ys.length := by omega
    exact ⟨xs, ys, xs[i], ys[i], q.1, q.2, List.getElem?_eq_getElem h1, List.getElem?_eq_getElem h2⟩
  · intro _ q
    exact ⟨xs, ys, q.1, q.2, by omega⟩
  · rintro i H v H' _ q ⟨T, x, z, h1, h2, h3, h4, h5⟩
    exact ⟨T, x, z, h1, h2, h3, h4 xs q.1, h5 ys q.2⟩
theorem tup_stay {v : V} {xs : List D} (d : Dv K cp G H v (.tup xs)) : ∃ a us, v = .ref a ∧ SqT K H a us ∧ (∀ G2 H2, Mv G H G2 H2 → SqT K H2 a us) ∧ DvA K cp G H us xs := by
  cases d with
  | @tup a vs _ h1 n h2 => exact ⟨a, vs, rfl, .inl (.inl h1), fun _ H2 m => .inl (.inl (m.k _ _ n h1).2), h2⟩
  | @kt a vs _ h1 h2 h3 => exact ⟨a, vs, rfl, h1 _, fun _ H2 _ => h1 H2, h2⟩
theorem DI.zipT {ta : TA} {Ψ : List D → List SV → Prop} (h : DAo K cp X ta ρ fun ps ρ1 => ∃ xs ys, ps = [.d (.tup xs), .d (.tup ys)] ∧ Ψ ((xs.zip ys).map fun p => .tup [p.1, p.2]) ρ1) : DI K cp X (RZ.iZipA K ta) ρ Ψ := fun F A H0 H σ e hx Q k =>
  h F A H0 H σ e hx _ fun vs ps ρ1 H1 e1 m1 o1 ⟨xs, ys, hp, ψ⟩ => by
    subst hp
    cases o1 with
    | cons o1 o2 =>
      cases o2 with
      | cons o2 o3 =>
        cases o3
        obtain ⟨a, us, rfl, q1, s1, d1⟩ := tup_stay o1
        obtain ⟨b, ws, rfl, q2, s2, d2⟩ := tup_stay o2
        refine ⟨a, b, us, ws, rfl, .inr ⟨q1, q2, k _ _ ρ1 H1 e1 m1 (wk_pair (n := min us.length ws.length) (by rw [List.length_map, List.length_zip, d1.len, d2.len]) ((wk_two rfl).mono (fun H' ⟨G', m⟩ => ⟨s1 _ _ m, s2 _ _ m⟩) fun _ _ _ _ _ _ y => y) fun i x y hx hy => ?_) ψ⟩⟩
        obtain ⟨d, h3, h4⟩ := d1.at hx
        obtain ⟨d', h5, h6⟩ := d2.at hy
        refine ⟨d, d', ?_, h4, h6⟩
        have hz : (xs.zip ys)[i]? = some (d, d') := List.getElem?_zip_eq_some.mpr ⟨h3, h5⟩
        rw [List.getElem?_map, hz]
        rfl
end
end DD

end
section
set_option Elab.async false
set_option linter.all false
set_option maxRecDepth 100000
set_option maxHeartbeats 1000000
/-! a name's own list, known to all from here on: so that a loop may begin its next turn with the name free. -/
namespace DD
open PySem PySem.Spec PyProof.Rows L2 GL
section
variable {K : PySem.W.Frag} {cp : Cb} {X : XC} {ρ : List SV} {N : List SV → Prop} {R : AV → List SV → Prop} {B C : List SV → Prop}
theorem DS.lock {t : TS} {i : Nat} {ds : D} (hs : ρ[i]? = some (.ow false ds)) (h : DS K cp X t (ρ.set i (.sh ds)) N R B C) : DS K cp X t ρ N R B C := fun F A H0 H σ e hx Dd n r b c => by
  have fz : tVar i σ H (fun _ H' => En K cp F A H0 H' σ (ρ.set i (.sh ds)) ∧ Mv (Gv F σ ρ) H (Gv F σ (ρ.set i (.sh ds))) H') :=
    DE.frz (X := X) (Φ := fun r ρ' => r = .d ds ∧ ρ' = ρ.set i (.sh ds)) hs ⟨rfl, rfl⟩ F A H0 H σ e (hx _) _ fun v r ρ' H' rs ⟨e1, e2⟩ => by subst e1; subst e2; exact ⟨rs.1, rs.2.1⟩
  obtain ⟨v0, _, e4, m4⟩ := fz
  exact DS.pre m4 h e4 hx n r b c
end
end DD

end
section
set_option Elab.async false
set_option linter.all false
set_option maxRecDepth 100000
set_option maxHeartbeats 1000000
/-! dict(a list of pairs), the first members all unlike. -/
namespace DD
open PySem PySem.Spec PyProof.Rows L2 GL
def rDictP (K : PySem.W.Frag) : List V → Hp → VK → Prop := fun xs H Q => ∃ (a : Addr) (ps : List Addr) (kvs : List (Key × V)), xs = [.ref a] ∧ SqL K H a (ps.map V.ref) ∧ Paired (fun p kv => SqT K H p [kV kv.1, kv.2]) ps kvs ∧
    ∀ p, H p = none → Q (.ref p) (upd H p (.dK (mergeK [] kvs)))
theorem call_dictOf {X : Cx} (h : X.calm = true) : CallR X (.type "dict") (rDictP X.K) := call_dictP h
def kD : Key → D
  | .inl i => .int i
  | .inr x => .str x
theorem valV_out {kvs : List (Key × V)} {k : Key} (h : k ∉ kvs.map (·.1)) : valV kvs k = none := by
  have := valV_any k kvs
  cases e : valV kvs k with
  | none => rfl
  | some v =>
    rw [e] at this
    obtain ⟨p, hp, e2⟩ := List.any_eq_true.mp this
    exact (h (List.mem_map.mpr ⟨p, hp, of_decide_eq_true e2⟩)).elim
theorem merge_new : ∀ {more kvs : List (Key × V)}, ((kvs ++ more).map (·.1)).Nodup → mergeK kvs more = kvs ++ more
  | [], kvs, _ => (List.append_nil kvs).symm
  | p :: r, kvs, h => by
    have hk : p.1 ∉ kvs.map (·.1) := fun m => by
      rw [List.map_append] at h
      exact (List.nodup_append.mp h).2.2 _ m _ (by simp) rfl
    show mergeK (putK kvs p.1 p.2) r = _
    have e := _root_.L2.putK_new (kvs := kvs) (k := p.1) p.2 (valV_out hk)
    rw [e, merge_new (by simpa using h)]
    simp
section
variable {K : PySem.W.Frag} {cp : Cb} {G : Addr → Prop} {H : Hp} {ψ : AV → Prop}
theorem pairs_at : ∀ {prs : List (Key × D)} {vs : List V}, DvA K cp G H vs (prs.map fun p => .tup [kD p.1, p.2]) → ∃ (ps : List Addr) (kvs : List (Key × V)), vs = ps.map V.ref ∧ Paired (fun p kv => SqT K H p [kV kv.1, kv.2]) ps kvs ∧ kvs.map (·.1) = prs.map (·.1) ∧ DvA K cp G H (kvs.map (·.2)) (prs.map (·.2))
  | [], _, h => by cases h; exact ⟨[], [], rfl, .nil, rfl, .nil⟩
  | (k, d) :: prs, _, h => by
    rw [List.map_cons] at h
    cases h with
    | cons h1 h2 =>
      obtain ⟨ps, kvs, rfl, q1, q2, q3⟩ := pairs_at h2
      obtain ⟨a, us, rfl, s, du⟩ := dt_tup (.inl h1)
      obtain ⟨va, vb, rfl, a1, b1⟩ : ∃ va vb, us = [va, vb] ∧ Dv K cp G H va (kD k) ∧ Dv K cp G H vb d := by
        cases du with
        | cons a1 a2 =>
          cases a2 with
          | cons b1 b2 => cases b2; exact ⟨_, _, rfl, a1, b1⟩
      have ek : va = kV k := by
        cases k with
        | inl i => exact dv_int a1
        | inr x => exact dv_str a1
      subst ek
      exact ⟨a :: ps, (k, vb) :: kvs, rfl, .cons s q1, by simp [q2], .cons b1 q3⟩
theorem rl_dictP {prs : List (Key × D)} (hn : (prs.map (·.1)).Nodup) (q : ψ (.n (.dk (prs.map (·.1)) (prs.map (·.2))))) : RLd K cp (rDictP K) [.lst (prs.map fun p => .tup [kD p.1, p.2])] ψ := fun G H us Q h k => by
  obtain ⟨u, rfl, hu⟩ := dta1 h
  obtain ⟨p, vs, rfl, r, dv⟩ := dt_lst hu
  obtain ⟨ps, kvs, rfl, q1, q2, q3⟩ := pairs_at dv
  refine ⟨p, ps, kvs, rfl, .inl (.inl r), q1, fun l hl => ?_⟩
  rw [merge_new (kvs := []) (by rw [List.nil_append, q2]; exact hn), List.nil_append]
  exact k _ (.n _) _ ⟨l, rfl, hl, Ex.nw hl, _, upd_same, .dk q2 (DvA.mv ((Mv.nw hl).tr (Mv.ex (Ex.nw hl))) _ _ q3)⟩ q
end
end DD
namespace DD
open PySem PySem.Spec PyProof.Rows L2 GL
section
variable {K : PySem.W.Frag} {cp : Cb} {X : XC} {F : Addr → Prop} {A : Pass} {H0 H H' H1 : Hp} {σ : L2.St} {ρ : List SV} {N B C : List SV → Prop} {R : AV → List SV → Prop}
theorem r2_neIntsM {T : Type} {xs : List T} {f : T → Int} {ψ : AV → Prop} (q : ψ (.d (.bl (!xs.isEmpty)))) : R2d K cp (rNeX K) (.lst (xs.map fun t => .int (f t))) (.lst []) ψ := by
  have e : (xs.map fun t => D.int (f t)) = (xs.map f).map D.int := by rw [List.map_map]; rfl
  rw [e]
  refine r2_neInts ?_
  cases xs <;> exact q
theorem DS.seqN {t u : TS} (h : ∀ N' : List SV → Prop, (∀ ρ1, DS K cp X u ρ1 N R B C → N' ρ1) → DS K cp X t ρ N' R B C) : DS K cp X (tSeq t u) ρ N R B C := DS.seq (h _ fun _ z => z)
theorem DS.par2O {i j : Nat} {t1 t3 : TE} (h : DEs K cp X t1 ρ fun d ρ1 => DE K cp X t3 ρ1 fun r ρ3 => ∃ c, r = .n c ∧ free ρ3 i ∧ free ρ3 j ∧ N ((ρ3.set i (.sh d)).set j (.ow false c))) :
    DS K cp X (tPar i j (tCons t1 (tCons t3 tNil))) ρ N R B C := fun F A H0 H σ e hx Dd n r b c =>
  h.go e (hx _) fun v d ρ1 H1 e1 m1 dv q1 => (show DE K cp X t3 ρ1 _ from q1) F A H0 H1 σ e1 (hx _) _ fun u r ρ3 H3 rs ⟨c, hr, fi, fl, q⟩ => by
    subst hr
    obtain ⟨p, rfl, nf, h0, en, ha, mv, ow⟩ := rs
    refine ⟨v, .ref p, rfl, ?_⟩
    have nsh : ∀ {d : D} (b : Bool) (c : D), SV.sh d ≠ .ow b c := by rintro d b c z; cases z
    have e4 := en.set fi (.inl ⟨d, v, rfl, rfl, dv.mv mv⟩)
    have s1 : ∀ a, Gv (plus F p) (σ.set i (some v)) (ρ3.set i (.sh d)) a → Gv (plus F p) σ ρ3 a := gv_set nsh
    have fl2 := free_set (s := .sh d) fi.1 nsh fl
    obtain ⟨u, hu, hv⟩ := ow
    obtain ⟨e6, g6⟩ := own_new e4 nf h0 ha fl2 ⟨u, hu, hv.mv (Mv.sub fun a g => s1 a g)⟩
    exact n _ _ H3 e6 (m1.tr (mv.tr (Mv.sub fun a g => s1 a (g6 a g)))) q
end
end DD

end
section
set_option Elab.async false
set_option linter.all false
set_option maxRecDepth 100000
set_option maxHeartbeats 1000000
/-! Trees: a node found by its path, changed, its slot with it. -/
namespace DD
open PySem PySem.Spec PyProof.Rows L2 GL
def Tr.kids : Tr → List Tr
  | .sh _ => []
  | .lst _ ts => ts
  | .dk _ _ ts => ts
  | .ob _ _ _ ts => ts
def Tr.setK : Tr → List Tr → Tr
  | .sh d, _ => .sh d
  | .lst a _, ts => .lst a ts
  | .dk a ks _, ts => .dk a ks ts
  | .ob a c ns _, ts => .ob a c ns ts
def Tr.root : Tr → Option Addr
  | .sh _ => none
  | .lst a _ => some a
  | .dk a _ _ => some a
  | .ob a _ _ _ => some a
def Tr.get : List Nat → Tr → Option Tr
  | [], t => some t
  | k :: p, t => (t.kids[k]?).bind (Tr.get p)
def Tr.put (n : Tr) : List Nat → Tr → Tr
  | [], _ => n
  | k :: p, t => match t.kids[k]? with
    | some u => t.setK (t.kids.set k (Tr.put n p u))
    | none => t
theorem feet_mem {a : Addr} : ∀ {ts : List Tr}, a ∈ feet ts ↔ ∃ t ∈ ts, a ∈ t.foot
  | [] => by simp [feet]
  | t :: ts => by simp [feet, feet_mem (ts := ts)]
theorem foot_kids : ∀ {t : Tr} {u : Tr}, u ∈ t.kids → ∃ a, t.root = some a ∧ t.foot = a :: feet t.kids
  | .sh d, _, h => by cases h
  | .lst a ts, _, _ => ⟨a, rfl, rfl⟩
  | .dk a ks ts, _, _ => ⟨a, rfl, rfl⟩
  | .ob a c ns ts, _, _ => ⟨a, rfl, rfl⟩
theorem setK_foot : ∀ {t : Tr} {a : Addr} {ts : List Tr}, t.root = some a → (t.setK ts).foot = a :: feet ts
  | .sh d, _, _, h => by cases h
  | .lst a _, _, _, h => by cases h; rfl
  | .dk a ks _, _, _, h => by cases h; rfl
  | .ob a c ns _, _, _, h => by cases h; rfl
theorem root_foot : ∀ {t : Tr} {a : Addr}, t.root = some a → a ∈ t.foot
  | .sh d, _, h => by cases h
  | .lst a _, _, h => by cases h; simp [Tr.foot]
  | .dk a ks _, _, h => by cases h; simp [Tr.foot]
  | .ob a c ns _, _, h => by cases h; simp [Tr.foot]
theorem get_foot : ∀ {p : List Nat} {t n : Tr}, t.get p = some n → ∀ a ∈ n.foot, a ∈ t.foot
  | [], t, n, h, a, ha => by cases h; exact ha
  | k :: p, t, n, h, a, ha => by
    obtain ⟨u, hu, h⟩ := Option.bind_eq_some_iff.mp (show (t.kids[k]?).bind (Tr.get p) = some n from h)
    have hm := List.mem_of_getElem? hu
    obtain ⟨r, _, e⟩ := foot_kids hm
    rw [e]
    exact List.mem_cons_of_mem _ (feet_mem.mpr ⟨u, hm, get_foot h a ha⟩)
theorem put_mem {n' : Tr} : ∀ {p : List Nat} {t n : Tr}, t.get p = some n → ∀ a ∈ (Tr.put n' p t).foot, a ∈ t.foot ∨ a ∈ n'.foot
  | [], t, n, h, a, ha => .inr ha
  | k :: p, t, n, h, a, ha => by
    obtain ⟨u, hu, h⟩ := Option.bind_eq_some_iff.mp (show (t.kids[k]?).bind (Tr.get p) = some n from h)
    have hm := List.mem_of_getElem? hu
    obtain ⟨r, er, e⟩ := foot_kids hm
    have hp : Tr.put n' (k :: p) t = t.setK (t.kids.set k (Tr.put n' p u)) := by show (match t.kids[k]? with | some u => _ | none => _) = _; rw [hu]
    rw [hp, setK_foot er] at ha
    rw [e]
    rcases List.mem_cons.mp ha with rfl | ha
    · exact .inl List.mem_cons_self
    · obtain ⟨w, hw, ha⟩ := feet_mem.mp ha
      rcases List.mem_or_eq_of_mem_set hw with hw | rfl
      · exact .inl (List.mem_cons_of_mem _ (feet_mem.mpr ⟨w, hw, ha⟩))
      · exact (put_mem h a ha).imp_left fun z => List.mem_cons_of_mem _ (feet_mem.mpr ⟨u, hm, z⟩)
theorem feet_set_nd {t' : Tr} : ∀ {ts : List Tr} {k : Nat} {u : Tr}, ts[k]? = some u → (feet ts).Nodup → t'.foot.Nodup → (∀ a ∈ t'.foot, a ∈ u.foot ∨ a ∉ feet ts) → (feet (ts.set k t')).Nodup
  | [], k, u, h, _, _, _ => by simp at h
  | t :: ts, 0, u, h, nd, n1, hf => by
    simp at h; subst h
    have nd := List.nodup_append.mp (show (t.foot ++ feet ts).Nodup from nd)
    refine List.nodup_append.mpr ⟨n1, nd.2.1, fun a ha b hb e => ?_⟩
    subst e
    rcases hf a ha with z | z
    · exact nd.2.2 a z a hb rfl
    · exact z (show a ∈ t.foot ++ feet ts from List.mem_append.mpr (.inr hb))
  | t :: ts, k + 1, u, h, nd, n1, hf => by
    have h : ts[k]? = some u := by simpa using h
    have nd := List.nodup_append.mp (show (t.foot ++ feet ts).Nodup from nd)
    refine List.nodup_append.mpr ⟨nd.1, feet_set_nd h nd.2.1 n1 fun a ha => (hf a ha).imp_right fun z w => z (show a ∈ t.foot ++ feet ts from List.mem_append.mpr (.inr w)), fun a ha b hb e => ?_⟩
    subst e
    obtain ⟨w, hw, hb2⟩ := feet_mem.mp hb
    rcases List.mem_or_eq_of_mem_set hw with hw | hw
    · exact nd.2.2 a ha a (feet_mem.mpr ⟨w, hw, hb2⟩) rfl
    · subst hw
      rcases hf a hb2 with z | z
      · exact nd.2.2 a ha a (feet_mem.mpr ⟨u, List.mem_of_getElem? h, z⟩) rfl
      · exact z (show a ∈ t.foot ++ feet ts from List.mem_append.mpr (.inl ha))
theorem put_nd {n' : Tr} (n1 : n'.foot.Nodup) : ∀ {p : List Nat} {t n : Tr}, t.get p = some n → t.foot.Nodup → (∀ a ∈ n'.foot, a ∈ n.foot ∨ a ∉ t.foot) → (Tr.put n' p t).foot.Nodup
  | [], t, n, h, nd, hf => n1
  | k :: p, t, n, h, nd, hf => by
    obtain ⟨u, hu, h⟩ := Option.bind_eq_some_iff.mp (show (t.kids[k]?).bind (Tr.get p) = some n from h)
    have hm := List.mem_of_getElem? hu
    obtain ⟨r, er, e⟩ := foot_kids hm
    have hp : Tr.put n' (k :: p) t = t.setK (t.kids.set k (Tr.put n' p u)) := by show (match t.kids[k]? with | some u => _ | none => _) = _; rw [hu]
    rw [hp, setK_foot er]
    rw [e] at nd hf
    have nd' := List.nodup_cons.mp nd
    have uf : ∀ {a}, a ∈ u.foot → a ∈ feet t.kids := fun {a} z => feet_mem.mpr ⟨u, hm, z⟩
    have nu : u.foot.Nodup := by
      have : ∀ {ts : List Tr}, (feet ts).Nodup → u ∈ ts → u.foot.Nodup := by
        intro ts
        induction ts with
        | nil => intro _ h; cases h
        | cons x xs ih =>
          intro nd h
          have nd := List.nodup_append.mp (show (x.foot ++ feet xs).Nodup from nd)
          rcases List.mem_cons.mp h with rfl | h
          · exact nd.1
          · exact ih nd.2.1 h
      exact this nd'.2 hm
    have hx := put_nd n1 h nu fun a ha => (hf a ha).imp_right fun z w => z (List.mem_cons_of_mem _ (uf w))
    have hmem : ∀ a ∈ (Tr.put n' p u).foot, a ∈ u.foot ∨ a ∉ r :: feet t.kids := fun a ha => by
      rcases put_mem h a ha with z | z
      · exact .inl z
      · rcases hf a z with w | w
        · exact .inl (get_foot h a w)
        · exact .inr w
    refine List.nodup_cons.mpr ⟨fun hr => ?_, feet_set_nd hu nd'.2 hx fun a ha => (hmem a ha).imp_right fun z w => z (List.mem_cons_of_mem _ w)⟩
    obtain ⟨w, hw, hr⟩ := feet_mem.mp hr
    rcases List.mem_or_eq_of_mem_set hw with hw | rfl
    · exact nd'.1 (feet_mem.mpr ⟨w, hw, hr⟩)
    · rcases hmem r hr with z | z
      · exact nd'.1 (uf z)
      · exact z List.mem_cons_self
section
variable {K : PySem.W.Frag} {cp : Cb} {G G' : Addr → Prop} {H H' : Hp}
theorem TrA.get : ∀ {vs : List V} {ts : List Tr} {k : Nat} {u : Tr}, TrA K cp G H vs ts → ts[k]? = some u → ∃ v, vs[k]? = some v ∧ TrV K cp G H v u
  | [], [], k, _, _, h => by simp at h
  | v :: _, t :: _, 0, _, .cons h _, e => by simp at e; subst e; exact ⟨v, rfl, h⟩
  | _ :: vs, _ :: ts, k + 1, _, .cons _ h, e => by simpa using TrA.get (vs := vs) (ts := ts) (k := k) h (by simpa using e)
theorem TrA.len : ∀ {vs : List V} {ts : List Tr}, TrA K cp G H vs ts → vs.length = ts.length
  | [], [], _ => rfl
  | _ :: _, _ :: _, .cons _ h => by simp [TrA.len h]
theorem TrA.app : ∀ {vs ws : List V} {ts us : List Tr}, TrA K cp G H vs ts → TrA K cp G H ws us → TrA K cp G H (vs ++ ws) (ts ++ us)
  | [], _, [], _, _, h => h
  | _ :: _, _, _ :: _, _, .cons a b, h => .cons a (TrA.app b h)
/-- one of them changed in its place -/
theorem TrA.chg {u' : Tr} : ∀ {vs : List V} {ts : List Tr} {k : Nat} {u : Tr}, TrA K cp G H vs ts → ts[k]? = some u → (∀ v, TrV K cp G H v u → TrV K cp G' H' v u') → (∀ (j : Nat) (w : Tr), j ≠ k → ts[j]? = some w → ∀ v, TrV K cp G H v w → TrV K cp G' H' v w) → TrA K cp G' H' vs (ts.set k u')
  | [], [], k, _, _, h, _, _ => by simp at h
  | v :: vs, t :: ts, 0, _, .cons h hs, e, h1, h2 => by
    simp at e; subst e
    refine .cons (h1 _ h) ?_
    have : ∀ {vs : List V} {us : List Tr}, TrA K cp G H vs us → (∀ w ∈ us, ∀ v, TrV K cp G H v w → TrV K cp G' H' v w) → TrA K cp G' H' vs us := by
      intro vs
      induction vs with
      | nil => intro us h _; cases h; exact .nil
      | cons x xs ih => intro us h k; cases h with | cons a b => exact .cons (k _ List.mem_cons_self _ a) (ih b fun w hw => k w (List.mem_cons_of_mem _ hw))
    refine this hs fun w hw => ?_
    obtain ⟨j, hj, e⟩ := List.mem_iff_getElem.mp hw
    exact h2 (j + 1) w (by omega) (by simpa [List.getElem?_eq_some_iff] using ⟨hj, e⟩)
  | v :: vs, t :: ts, k + 1, _, .cons h hs, e, h1, h2 => .cons (h2 0 t (by omega) rfl _ h) (TrA.chg hs (by simpa using e) h1 fun j w n q => h2 (j + 1) w (by omega) (by simpa using q))
theorem TrV.root : ∀ {t : Tr} {v : V} {a : Addr}, TrV K cp G H v t → t.root = some a → v = .ref a
  | .sh d, _, _, _, h => by cases h
  | .lst a _, _, _, h, e => by cases e; cases h; rfl
  | .dk a ks _, _, _, h, e => by cases e; cases h; rfl
  | .ob a c ns _, _, _, h, e => by cases e; cases h; rfl
theorem TrV.get : ∀ {p : List Nat} {t n : Tr} {v : V}, TrV K cp G H v t → t.get p = some n → ∃ v', TrV K cp G H v' n
  | [], t, n, v, h, e => by cases e; exact ⟨v, h⟩
  | k :: p, t, n, v, h, e => by
    obtain ⟨u, hu, e⟩ := Option.bind_eq_some_iff.mp (show (t.kids[k]?).bind (Tr.get p) = some n from e)
    have : ∃ v', TrV K cp G H v' u := by
      cases h with
      | sh h => simp [Tr.kids] at hu
      | lst _ h2 => exact (h2.get hu).elim fun v z => ⟨v, z.2⟩
      | dk _ _ h2 => exact (h2.get hu).elim fun v z => ⟨v, z.2⟩
      | ob _ _ h2 => exact (h2.get hu).elim fun v z => ⟨v, z.2⟩
    obtain ⟨v', h'⟩ := this
    exact TrV.get h' e
/-- a node changed in its place -/
theorem TrV.chg {n' : Tr} (m : Mv G H G' H') : ∀ {p : List Nat} {t n : Tr} {v : V}, TrV K cp G H v t → t.foot.Nodup → t.get p = some n → (∀ v, TrV K cp G H v n → TrV K cp G' H' v n') → (∀ a ∈ t.foot, a ∉ n.foot → ∀ u, H a = some u → OwK u → H' a = some u) → TrV K cp G' H' v (Tr.put n' p t)
  | [], t, n, v, h, nd, e, hn, hk => by cases e; exact hn v h
  | k :: p, t, n, v, h, nd, e, hn, hk => by
    obtain ⟨u, hu, e⟩ := Option.bind_eq_some_iff.mp (show (t.kids[k]?).bind (Tr.get p) = some n from e)
    have hm := List.mem_of_getElem? hu
    obtain ⟨r, er, ef⟩ := foot_kids hm
    have hp : Tr.put n' (k :: p) t = t.setK (t.kids.set k (Tr.put n' p u)) := by show (match t.kids[k]? with | some u => _ | none => _) = _; rw [hu]
    rw [hp]
    rw [ef] at nd hk
    have nd' := List.nodup_cons.mp nd
    have uf : ∀ {w : Tr} {a}, w ∈ t.kids → a ∈ w.foot → a ∈ feet t.kids := fun {w a} hw z => feet_mem.mpr ⟨w, hw, z⟩
    have rn : r ∉ n.foot := fun z => nd'.1 (uf hm (get_foot e r z))
    have apart : ∀ {ts : List Tr} {j k : Nat} {w u : Tr} {a : Addr}, (feet ts).Nodup → ts[j]? = some w → ts[k]? = some u → j ≠ k → a ∈ w.foot → a ∈ u.foot → False := by
      intro ts
      induction ts with
      | nil => intro j k w u a _ h; simp at h
      | cons x xs ih =>
        intro j k w u a nd h1 h2 ne a1 a2
        have nd := List.nodup_append.mp (show (x.foot ++ feet xs).Nodup from nd)
        cases j with
        | zero =>
          simp at h1; subst h1
          cases k with
          | zero => exact ne rfl
          | succ k => exact nd.2.2 a a1 a (feet_mem.mpr ⟨u, List.mem_of_getElem? (show xs[k]? = some u by simpa using h2), a2⟩) rfl
        | succ j =>
          have h1 : xs[j]? = some w := by simpa using h1
          cases k with
          | zero =>
            simp at h2; subst h2
            exact nd.2.2 a a2 a (feet_mem.mpr ⟨w, List.mem_of_getElem? h1, a1⟩) rfl
          | succ k => exact ih nd.2.1 h1 (show xs[k]? = some u by simpa using h2) (fun z => ne (by rw [z])) a1 a2
    have nu : u.foot.Nodup := by
      have : ∀ {ts : List Tr}, (feet ts).Nodup → u ∈ ts → u.foot.Nodup := by
        intro ts
        induction ts with
        | nil => intro _ h; cases h
        | cons x xs ih =>
          intro nd h
          have nd := List.nodup_append.mp (show (x.foot ++ feet xs).Nodup from nd)
          rcases List.mem_cons.mp h with rfl | h
          · exact nd.1
          · exact ih nd.2.1 h
      exact this nd'.2 hm
    have go : ∀ {vs : List V}, TrA K cp G H vs t.kids → TrA K cp G' H' vs (t.kids.set k (Tr.put n' p u)) := fun {vs} h2 =>
      h2.chg hu (fun v hv => TrV.chg m hv nu e hn fun a ha hna => hk a (List.mem_cons_of_mem _ (uf hm ha)) hna) fun j w ne hw v hv => hv.mv m w v fun a ha => hk a (List.mem_cons_of_mem _ (uf (List.mem_of_getElem? hw) ha)) fun z => apart nd'.2 hw hu ne ha (get_foot e a z)
    have hr := hk r List.mem_cons_self rn
    cases h with
    | sh h => simp [Tr.kids] at hu
    | lst h1 h2 => cases er; exact .lst (hr _ h1 trivial) (go h2)
    | dk h1 e1 h2 => cases er; exact .dk (hr _ h1 trivial) e1 (go h2)
    | ob h1 e1 h2 => cases er; exact .ob (hr _ h1 trivial) e1 (go h2)
end
section
variable {K : PySem.W.Frag} {cp : Cb} {X : XC} {F : Addr → Prop} {A : Pass} {H0 H H' : Hp} {σ : L2.St} {ρ ρ' : List SV}
/-- a node of a slot's tree changed; l: what was set apart is now the tree's -/
theorem en_node {l : List Addr} (e : En K cp (plusL F l) A H0 H σ ρ) (hl : ∀ a ∈ l, ¬ F a ∧ H0 a = none) (ha : ∀ x ∈ A, F x.2) {i : Nat} {b : Bool} {t n n' : Tr} {p : List Nat} {a : Addr} (hi : ρ[i]? = some (.dp b t)) (hg : t.get p = some n) (hr : n.root = some a)
    (hh : ∀ x, x ≠ a → H' x = H x) {o' : HO} (ho : H' a = some o') (hk : OwK o') (hn : ∀ v, TrV K cp (Gv (plusL F l) σ ρ) H v n → TrV K cp (Gv (plusL F l) σ ρ) H' v n') (nd : n'.foot.Nodup) (nr : n'.root = some a) (hf : ∀ x ∈ n'.foot, x ∈ n.foot ∨ x ∈ l) :
    En K cp F A H0 H' σ (ρ.set i (.dp b (Tr.put n' p t))) ∧ Mv (Gv (plusL F l) σ ρ) H (Gv F σ (ρ.set i (.dp b (Tr.put n' p t)))) H' := by
  have hlt : i < ρ.length := (List.getElem?_eq_some_iff.mp hi).1
  obtain ⟨v0, hv0, ok, tv⟩ := e.sl i _ hi
  have at_ : a ∈ t.foot := get_foot hg a (root_foot hr)
  have oa : own σ ρ i a := .t hi at_
  obtain ⟨u0, hu0, ku0⟩ := tv.there at_
  have noL : ∀ j x, x ∈ l → ¬ own σ ρ j x := fun j x hx o => by
    rcases e.mine o with q | q
    · exact (hl x hx).1 (ha _ q)
    · exact q.1 (.inr hx)
  have pm := fun x => put_mem (n' := n') hg x
  have pm2 : ∀ x ∈ (Tr.put n' p t).foot, x ∈ t.foot ∨ x ∈ l := fun x hx => by
    rcases pm x hx with z | z
    · exact .inl z
    · exact (hf x z).imp_left (get_foot hg x)
  have pnd : (Tr.put n' p t).foot.Nodup := put_nd nd hg ok.1 fun x hx => (hf x hx).imp_right fun z w => noL i x z (.t hi w)
  have ow2 : ∀ {j x}, own σ (ρ.set i (.dp b (Tr.put n' p t))) j x → own σ ρ j x ∨ (j = i ∧ x ∈ l) := fun {j x} ⟨s, h1, h2⟩ => by
    by_cases z : i = j
    · subst z
      rw [List.getElem?_set_self hlt] at h1
      cases h1
      exact (pm2 x h2).imp (fun w => .t hi w) fun w => ⟨rfl, w⟩
    · rw [List.getElem?_set_ne z] at h1
      exact .inl ⟨s, h1, h2⟩
  have gsub : ∀ x, Gv F σ (ρ.set i (.dp b (Tr.put n' p t))) x → Gv (plusL F l) σ ρ x := fun x g => by
    rcases g with f | ⟨j, o⟩
    · exact .inl (.inl f)
    · rcases ow2 o with q | ⟨_, q⟩
      · exact .inr ⟨j, q⟩
      · exact .inl (.inr q)
  have m : Mv (Gv (plusL F l) σ ρ) H (Gv F σ (ρ.set i (.dp b (Tr.put n' p t)))) H' := ⟨fun x o nx h => ⟨fun g => nx (gsub x g), .of (by rw [hh x fun z => nx (.inr ⟨i, by rw [z]; exact oa⟩)]; exact h)⟩⟩
  have mo : Mv (Gv (plusL F l) σ ρ) H (Gv (plusL F l) σ ρ) H' := ⟨fun x o nx h => ⟨nx, .of (by rw [hh x fun z => nx (.inr ⟨i, by rw [z]; exact oa⟩)]; exact h)⟩⟩
  refine ⟨⟨by rw [List.length_set]; exact e.len, fun x f => ?_, fun x o hx q => ?_, tabs_keep e.tb fun x o no h => ?_, fun y hy => ?_, fun j k x h1 h2 => ?_, fun j c ds x h1 h2 => ?_, fun j c u x h1 h2 => ?_, fun j s h => ?_⟩, m⟩
  · by_cases z : x = a
    · exact ⟨o', by rw [z]; exact ho, hk⟩
    · obtain ⟨o, h, hk⟩ := e.tr x (.inl f); exact ⟨o, by rw [hh x z]; exact h, hk⟩
  · by_cases z : x = a
    · subst z
      rcases e.mine oa with w | w
      · exact absurd rfl (hx _ w)
      · rw [w.2] at q; cases q
    · exact (e.fr x o hx q).tr fun w hw => .of (by rw [hh x z]; exact hw)
  · by_cases z : x = a
    · subst z; rw [hu0] at h; cases h; exact absurd ku0 no
    · rw [hh x z]; exact h
  · obtain ⟨_, q⟩ := e.io y hy
    refine ⟨ha y hy, ?_⟩
    rcases q with ⟨hk, ds, h1, h2⟩ | ⟨hk, u, h1, h2⟩
    · have ne : i ≠ y.1 := by rintro rfl; rw [hi] at h1; cases h1
      exact .inl ⟨hk, ds, by rw [List.getElem?_set_ne ne]; exact h1, h2⟩
    · by_cases z : i = y.1
      · rw [← z] at h1 h2
        rw [hi] at h1; cases h1
        exact .inr ⟨hk, _, by rw [← z, List.getElem?_set_self hlt], by rw [← z]; exact h2⟩
      · exact .inr ⟨hk, u, by rw [List.getElem?_set_ne z]; exact h1, h2⟩
  · rcases ow2 h1 with q1 | ⟨q1, w1⟩
    · rcases ow2 h2 with q2 | ⟨q2, w2⟩
      · exact e.dj j k x q1 q2
      · exact absurd q1 (noL j x w2)
    · rcases ow2 h2 with q2 | ⟨q2, w2⟩
      · exact absurd q2 (noL k x w1)
      · rw [q1, q2]
  · by_cases z : i = j
    · subst z; rw [List.getElem?_set_self hlt] at h1; cases h1
    · rw [List.getElem?_set_ne z] at h1
      have q := e.ow j c ds x h1 h2
      split at q
      · rename_i hb; rw [if_pos hb]; exact q
      · rename_i hb; rw [if_neg hb]; exact ⟨fun f => q.1 (.inl f), q.2⟩
  · by_cases z : i = j
    · subst z
      rw [List.getElem?_set_self hlt] at h1
      cases h1
      rcases pm2 x h2 with w | w
      · exact (e.dw i b t x hi w).imp_right fun q => ⟨fun f => q.1 (.inl f), q.2⟩
      · exact .inr (hl x w)
    · rw [List.getElem?_set_ne z] at h1
      exact (e.dw j c u x h1 h2).imp_right fun q => ⟨fun f => q.1 (.inl f), q.2⟩
  · by_cases z : i = j
    · subst z
      rw [List.getElem?_set_self hlt] at h
      cases h
      refine ⟨v0, hv0, ⟨pnd, ?_⟩, (tv.chg mo ok.1 hg hn fun x hx hnx u hu _ => by rw [hh x fun z => hnx (by rw [z]; exact root_foot hr)]; exact hu).mv (Mv.sub gsub) _ _ fun _ _ _ h _ => h⟩
      have : (Tr.put n' p t).foot ≠ [] := by
        cases p with
        | nil => exact List.ne_nil_of_mem (root_foot nr)
        | cons k p =>
          obtain ⟨u, hu, _⟩ := Option.bind_eq_some_iff.mp (show (t.kids[k]?).bind (Tr.get p) = some n from hg)
          obtain ⟨r, er, _⟩ := foot_kids (List.mem_of_getElem? hu)
          have hp : Tr.put n' (k :: p) t = t.setK (t.kids.set k (Tr.put n' p u)) := by show (match t.kids[k]? with | some u => _ | none => _) = _; rw [hu]
          rw [hp, setK_foot er]
          exact List.cons_ne_nil _ _
      exact this
    · rw [List.getElem?_set_ne z] at h
      refine (e.sl j s h).mv m fun x u hx hu _ => ?_
      rw [hh x fun w => z (e.dj i j a oa ⟨s, h, by rw [← w]; exact hx⟩)]; exact hu
end
end DD

end
section
set_option Elab.async false
set_option linter.all false
set_option maxRecDepth 100000
set_option maxHeartbeats 1000000
/-! Places in trees: read, written; what is new, set in; methods. -/
namespace DD
open PySem PySem.Spec PyProof.Rows L2 GL LamX
/-- a child, as it is handed on -/
def Tr.link : Tr → D
  | .sh d => d
  | .lst a _ => .lk a
  | .dk a _ _ => .lk a
  | .ob a _ _ _ => .lk a
/-- the place of a node -/
def OP.pl (ρ : List SV) : OP → Option Addr
  | .d (.lk a) => some a
  | .o i => match ρ[i]? with
    | some (.dp _ t) => t.root
    | _ => none
  | _ => none
def lookT (f : Str) : List Str → List Tr → Option Tr
  | n :: ns, t :: ts => if f == n then some t else lookT f ns ts
  | _, _ => none
def putN (f : Str) : List Str → List Str
  | [] => [f]
  | n :: ns => if f == n then n :: ns else n :: putN f ns
def putT (f : Str) (u : Tr) : List Str → List Tr → List Tr
  | n :: ns, t :: ts => if f == n then u :: ts else t :: putT f u ns ts
  | _, _ => [u]
section
variable {K : PySem.W.Frag} {cp : Cb} {X : XC} {F : Addr → Prop} {A : Pass} {G : Addr → Prop} {H0 H H' : Hp} {σ : L2.St} {v : V} {ρ ρ' : List SV} {Φ : AV → List SV → Prop} {N B C : List SV → Prop} {R : AV → List SV → Prop}
theorem pl_v {x : OP} {a : Addr} (e : En K cp F A H0 H σ ρ) (o : OPv K cp F σ ρ H v x) (h : x.pl ρ = some a) : v = .ref a := by
  cases x with
  | d d =>
    cases d with
    | lk b => cases h; cases o; rfl
    | _ => cases h
  | o i =>
    obtain ⟨b, rfl, hb⟩ := o
    simp only [OP.pl] at h
    split at h
    · rename_i c t ht
      obtain ⟨w, q1, _, q2⟩ := e.sl i _ ht
      rw [hb] at q1; cases q1
      exact q2.root h
    · cases h
theorem node_v {i : Nat} {b : Bool} {t n : Tr} {p : List Nat} {a : Addr} (e : En K cp F A H0 H σ ρ) (hi : ρ[i]? = some (.dp b t)) (hg : t.get p = some n) (hr : n.root = some a) : TrV K cp (Gv F σ ρ) H (.ref a) n := by
  obtain ⟨w, _, _, q2⟩ := e.sl i _ hi
  obtain ⟨v, hv⟩ := q2.get hg
  rw [hv.root hr] at hv
  exact hv
theorem link_dv {t : Tr} (h : TrV K cp G H v t) : Dv K cp G H v t.link := by
  cases h with
  | sh h => exact h
  | lst _ _ => exact .lk _
  | dk _ _ _ => exact .lk _
  | ob _ _ _ => exact .lk _
theorem look_tra : ∀ {fs : List (Str × V)} {ts : List Tr} {f : Str} {t : Tr}, TrA K cp G H (fs.map (·.2)) ts → lookT f (fs.map (·.1)) ts = some t → ∃ v, fs.lookup f = some v ∧ TrV K cp G H v t
  | [], ts, f, d, _, h => by cases ts <;> cases h
  | (n, v) :: fs, t0 :: ts, f, d, .cons a b, h => by
    simp only [List.map_cons, lookT] at h
    simp only [List.lookup]
    cases e : f == n with
    | true => rw [e] at h; cases h; exact ⟨v, rfl, a⟩
    | false => rw [e] at h; exact look_tra (fs := fs) b h
theorem DE.fldT {te : TE} {f : Str} (h : DEo K cp X te ρ fun x ρ1 => ∃ (a : Addr) (i : Nat) (b : Bool) (t : Tr) (p : List Nat) (c : Nat) (ns : List Str) (ts : List Tr) (y : Tr), x.pl ρ1 = some a ∧ ρ1[i]? = some (.dp b t) ∧ t.get p = some (.ob a c ns ts) ∧ Cls K (cp.c c) ∧ NoAttr K (cp.c c) f ∧ lookT f ns ts = some y ∧ Φ (.d y.link) ρ1) : DE K cp X (tFld K te f) ρ Φ := fun F A H0 H σ e hx Q k =>
  h.go e hx fun v x ρ1 H1 e1 m1 o1 ⟨a, i, b, t, p, c, ns, ts, y, hp, hi, hg, hc, hn, hl, φ⟩ => by
    have := pl_v e1 o1 hp
    subst this
    cases node_v e1 hi hg rfl with
    | @ob _ dx _ fs _ _ h1 e2 h2 =>
      subst e2
      obtain ⟨w, hw, dw⟩ := look_tra h2 hl
      exact ⟨a, cp.c c, dx, fs, w, rfl, h1, hc, hn, hw, k _ (.d y.link) ρ1 H1 ⟨e1, m1, link_dv dw⟩ φ⟩
theorem tra_at {ts : List Tr} {vs : List V} {j : Int} {y : Tr} (h : TrA K cp G H vs ts) (hj : atI ts j = some y) : ∃ w, atI vs j = some w ∧ TrV K cp G H w y := by
  unfold atI at hj ⊢
  rw [h.len]
  cases e : ixN ts.length j with
  | none => rw [e] at hj; cases hj
  | some k => rw [e] at hj; exact h.get hj
theorem DE.ixTl {te ti : TE} (h : DEo K cp X te ρ fun x ρ1 => ∃ a : Addr, x.pl ρ1 = some a ∧ DEs K cp X ti ρ1 fun z ρ2 => ∃ (i : Nat) (b : Bool) (t : Tr) (p : List Nat) (ts : List Tr) (j : Int) (y : Tr), ρ2[i]? = some (.dp b t) ∧ t.get p = some (.lst a ts) ∧ z = .int j ∧ atI ts j = some y ∧ Φ (.d y.link) ρ2) : DE K cp X (tOp (rIxL K) te ti) ρ Φ := fun F A H0 H σ e hx Q k =>
  h.go e hx fun v x ρ1 H1 e1 m1 o1 ⟨a, hp, h2⟩ => by
    have := pl_v e1 o1 hp
    subst this
    refine DEs.go h2 e1 hx fun w z ρ2 H2 e2 m2 dz ⟨i, b, t, p, ts, j, y, hi, hg, hz, hj, φ⟩ => ?_
    subst hz
    cases node_v e2 hi hg rfl with
    | @lst _ vs _ h1 h2 =>
      obtain ⟨u, hu, du⟩ := tra_at h2 hj
      exact ⟨a, vs, j, u, rfl, dv_int dz, .inl (.inl h1), hu, k _ (.d y.link) ρ2 H2 ⟨e2, m1.tr m2, link_dv du⟩ φ⟩
theorem DE.ixT {te ti : TE} (h : DEo K cp X te ρ fun x ρ1 => ∃ a : Addr, x.pl ρ1 = some a ∧ DEs K cp X ti ρ1 fun z ρ2 => ∃ (i : Nat) (b : Bool) (t : Tr) (p : List Nat) (ts : List Tr) (j : Int) (y : Tr), ρ2[i]? = some (.dp b t) ∧ t.get p = some (.lst a ts) ∧ z = .int j ∧ atI ts j = some y ∧ Φ (.d y.link) ρ2) : DE K cp X (tOp (rIx K) te ti) ρ Φ := fun F A H0 H σ e hx Q k =>
  h.go e hx fun v x ρ1 H1 e1 m1 o1 ⟨a, hp, h2⟩ => by
    have := pl_v e1 o1 hp
    subst this
    refine DEs.go h2 e1 hx fun w z ρ2 H2 e2 m2 dz ⟨i, b, t, p, ts, j, y, hi, hg, hz, hj, φ⟩ => ?_
    subst hz
    cases node_v e2 hi hg rfl with
    | @lst _ vs _ h1 h2 =>
      obtain ⟨u, hu, du⟩ := tra_at h2 hj
      exact .inl ⟨a, vs, j, u, rfl, dv_int dz, .inl (.inl h1), hu, k _ (.d y.link) ρ2 H2 ⟨e2, m1.tr m2, link_dv du⟩ φ⟩
theorem plusL_nil : plusL F [] = F := funext fun a => propext ⟨fun h => h.elim id fun z => absurd z (by simp), .inl⟩
/-- a node changed, nothing new set in -/
theorem en_node0 (e : En K cp F A H0 H σ ρ) {i : Nat} {b : Bool} {t n n' : Tr} {p : List Nat} {a : Addr} (hi : ρ[i]? = some (.dp b t)) (hg : t.get p = some n) (hr : n.root = some a) {o' : HO} (hk : OwK o') (hn : TrV K cp (Gv F σ ρ) H (.ref a) n → TrV K cp (Gv F σ ρ) (upd H a o') (.ref a) n') (nd : n'.foot.Nodup) (nr : n'.root = some a) (hf : ∀ x ∈ n'.foot, x ∈ n.foot) :
    En K cp F A H0 (upd H a o') σ (ρ.set i (.dp b (Tr.put n' p t))) ∧ Mv (Gv F σ ρ) H (Gv F σ (ρ.set i (.dp b (Tr.put n' p t)))) (upd H a o') := by
  have e' : En K cp (plusL F []) A H0 H σ ρ := by rw [plusL_nil]; exact e
  have z := en_node (l := []) (n' := n') e' (fun a h => by cases h) (fun x hx => (e.io x hx).1) hi hg hr (fun x hx => upd_ne hx) upd_same hk (fun v hv => by rw [plusL_nil] at hv ⊢; have := hv.root hr; subst this; exact hn hv) nd nr fun x hx => .inl (hf x hx)
  rw [plusL_nil] at z
  exact z
theorem get_nd : ∀ {p : List Nat} {t n : Tr}, t.get p = some n → t.foot.Nodup → n.foot.Nodup
  | [], t, n, h, nd => by cases h; exact nd
  | k :: p, t, n, h, nd => by
    obtain ⟨u, hu, h⟩ := Option.bind_eq_some_iff.mp (show (t.kids[k]?).bind (Tr.get p) = some n from h)
    have hm := List.mem_of_getElem? hu
    obtain ⟨r, er, e⟩ := foot_kids hm
    rw [e] at nd
    have nd' := (List.nodup_cons.mp nd).2
    have : ∀ {ts : List Tr}, (feet ts).Nodup → u ∈ ts → u.foot.Nodup := by
      intro ts
      induction ts with
      | nil => intro _ h; cases h
      | cons x xs ih =>
        intro nd h
        have nd := List.nodup_append.mp (show (x.foot ++ feet xs).Nodup from nd)
        rcases List.mem_cons.mp h with rfl | h
        · exact nd.1
        · exact ih nd.2.1 h
    exact get_nd h (this nd' hm)
theorem feet_app : ∀ (ts us : List Tr), feet (ts ++ us) = feet ts ++ feet us
  | [], us => rfl
  | t :: ts, us => by show t.foot ++ feet (ts ++ us) = _; rw [feet_app ts us]; simp [feet]
theorem feet_sh : ∀ ds : List D, feet (ds.map .sh) = []
  | [] => rfl
  | d :: ds => by show ([] : List Addr) ++ feet (ds.map .sh) = []; rw [feet_sh ds]; rfl
/-- the kids stay as they are while their holder is changed -/
theorem kids_stay {i : Nat} {b : Bool} {t n : Tr} {p : List Nat} {a : Addr} {o' : HO} {vs : List V} (e : En K cp F A H0 H σ ρ) (hi : ρ[i]? = some (.dp b t)) (hg : t.get p = some n) (hr : n.root = some a) (h : TrA K cp (Gv F σ ρ) H vs n.kids) : TrA K cp (Gv F σ ρ) (upd H a o') vs n.kids := by
  obtain ⟨w, _, ok, tv⟩ := e.sl i _ hi
  have nd := get_nd hg ok.1
  have oa : DD.own σ ρ i a := .t hi (get_foot hg a (root_foot hr))
  refine TrA.mv ⟨fun x o nx hx => ⟨nx, .of (by rw [upd_ne fun z => nx (.inr ⟨i, by rw [z]; exact oa⟩)]; exact hx)⟩⟩ _ _ (fun x hx u hu _ => ?_) h
  rw [upd_ne ?_]
  · exact hu
  · rintro rfl
    obtain ⟨w, hw, hm⟩ := feet_mem.mp hx
    obtain ⟨r, er, ef⟩ := foot_kids hw
    rw [hr] at er; cases er
    rw [ef] at nd
    exact (List.nodup_cons.mp nd).1 hx
theorem sh_dva : ∀ {vs : List V} {ds : List D}, TrA K cp G H vs (ds.map .sh) ↔ DvA K cp G H vs ds
  | [], [] => ⟨fun _ => .nil, fun _ => .nil⟩
  | [], d :: ds => ⟨fun h => (by cases h), fun h => (by cases h)⟩
  | v :: vs, [] => ⟨fun h => (by cases h), fun h => (by cases h)⟩
  | v :: vs, d :: ds => ⟨fun h => (by
      cases h with
      | cons a b => cases a with | sh a => exact .cons a (sh_dva.mp b)), fun h => (by
      cases h with
      | cons a b => exact .cons (.sh a) (sh_dva.mpr b))⟩
/-- x.append(e), x a place -/
theorem DE.appendT {te tv : TE} (h : DEo K cp X te ρ fun x ρ1 => ∃ (a : Addr) (i : Nat), x.pl ρ1 = some a ∧ (∃ (b : Bool) (t : Tr) (p : List Nat) (ts : List Tr), ρ1[i]? = some (.dp b t) ∧ t.get p = some (.lst a ts)) ∧ DEs K cp X tv ρ1 fun y ρ2 => ∃ (b : Bool) (t : Tr) (p : List Nat) (ts : List Tr), ρ2[i]? = some (.dp b t) ∧ t.get p = some (.lst a ts) ∧ ts.length < sizeLine ∧ Φ (.d .non) (ρ2.set i (.dp b (Tr.put (.lst a (ts ++ [.sh y])) p t)))) :
    DE K cp X (tBM K "list" rAppend te (tCons tv tNil)) ρ Φ := fun F A H0 H σ e hx Q k =>
  h.go e hx fun v x ρ1 H1 e1 m1 o1 ⟨a, i, hp, ⟨b, t, p, ts, hi, hg⟩, h2⟩ => by
    have := pl_v e1 o1 hp
    subst this
    have ty : tyV K "list" (.ref a) H1 := by
      cases node_v e1 hi hg rfl with
      | @lst _ vs _ q1 q2 => exact .inl ⟨rfl, vs, .inl (.inl q1)⟩
    refine ⟨ty, DEs.go h2 e1 hx fun w y ρ2 H2 e2 m2 dy ⟨b, t, p, ts, hi, hg, hl, φ⟩ => ?_⟩
    cases node_v e2 hi hg rfl with
    | @lst _ vs _ q1 q2 =>
      obtain ⟨w0, _, ok, _⟩ := e2.sl i _ hi
      have nd := get_nd hg ok.1
      have oa : DD.own σ ρ2 i a := .t hi (get_foot hg a (root_foot rfl))
      have dy' : Dv K cp (Gv F σ ρ2) (upd H2 a (.lst (vs ++ [w]))) w y := Dv.mv ⟨fun x o nx hx => ⟨nx, .of (by rw [upd_ne fun z => nx (.inr ⟨i, by rw [z]; exact oa⟩)]; exact hx)⟩⟩ _ _ dy
      have fe : (Tr.lst a (ts ++ [.sh y])).foot = (Tr.lst a ts).foot := by show a :: feet (ts ++ [.sh y]) = a :: feet ts; rw [feet_app]; simp [feet, Tr.foot]
      obtain ⟨e3, m3⟩ := en_node0 (o' := .lst (vs ++ [w])) (n' := .lst a (ts ++ [.sh y])) e2 hi hg rfl trivial (fun _ => .lst upd_same ((kids_stay (n := .lst a ts) e2 hi hg rfl q2).app (.cons (.sh dy') .nil))) (by rw [fe]; exact nd) rfl (fun x hx => by rw [fe] at hx; exact hx)
      exact ⟨a, vs, w, rfl, rfl, q1, by rw [q2.len]; exact hl, k _ (.d .non) _ _ ⟨e3, m1.tr (m2.tr m3), .non⟩ φ⟩
/-- x[k] = e, x a place of a dict -/
theorem DS.dputT {te ty tv : TE} (h : DEs K cp X tv ρ fun y ρ1 => DEo K cp X te ρ1 fun x ρ2 => ∃ a : Addr, x.pl ρ2 = some a ∧ DEs K cp X ty ρ2 fun z ρ3 => ∃ (i : Nat) (b : Bool) (t : Tr) (p : List Nat) (ks : List Key) (ds : List D) (kk : Key), keyOf z = some kk ∧ ρ3[i]? = some (.dp b t) ∧ t.get p = some (.dk a ks (ds.map .sh)) ∧ ks.Nodup ∧ ks.length < sizeLine ∧ N (ρ3.set i (.dp b (Tr.put (.dk a (putKs ks kk) ((putDs ks ds kk y).map .sh)) p t)))) :
    DS K cp X (sDPut te ty tv) ρ N R B C := fun F A H0 H σ e hx Dd n r b c =>
  h.go e (hx _) fun v y ρ1 H1 e1 m1 dv q => DEo.go (show DEo K cp X te ρ1 _ from q) e1 (hx _) fun u x ρ2 H2 e2 m2 o2 ⟨a, hp, q2⟩ => by
    have := pl_v e2 o2 hp
    subst this
    refine DEs.go q2 e2 (hx _) fun w z ρ3 H3 e3 m3 dz ⟨i, b, t, p, ks, ds, kk, hk, hi, hg, hnd, hl, hN⟩ => ?_
    cases node_v e3 hi hg rfl with
    | @dk _ kvs _ _ g1 g2 g3 =>
      subst g2
      obtain ⟨w0, _, ok, _⟩ := e3.sl i _ hi
      have nd := get_nd hg ok.1
      have oa : DD.own σ ρ3 i a := .t hi (get_foot hg a (root_foot rfl))
      have mm : ∀ o', Mv (Gv F σ ρ3) H3 (Gv F σ ρ3) (upd H3 a o') := fun o' => ⟨fun x o nx hx => ⟨nx, .of (by rw [upd_ne fun z => nx (.inr ⟨i, by rw [z]; exact oa⟩)]; exact hx)⟩⟩
      obtain ⟨p1, p2⟩ := put_ok (Dv.mv (m2.tr m3) _ _ dv) hnd (sh_dva.mp g3)
      have fe : ∀ (ks : List Key) (ds : List D), (Tr.dk a ks (ds.map .sh)).foot = [a] := fun ks ds => by show a :: feet (ds.map .sh) = [a]; rw [feet_sh]
      obtain ⟨e4, m4⟩ := en_node0 (o' := .dK (putK kvs kk v)) (n' := .dk a (putKs (kvs.map (·.1)) kk) ((putDs (kvs.map (·.1)) ds kk y).map .sh)) e3 hi hg rfl trivial (fun _ => .dk upd_same p1 (sh_dva.mpr (DvA.mv (mm _) _ _ p2))) (by rw [fe]; simp) rfl (fun x hx => by rw [fe] at hx ⊢; exact hx)
      exact ⟨a, _, rfl, .inl ⟨kvs, kk, g1, key_dv hk dz, by rw [List.length_map] at hl; exact hl, rfl⟩, n _ _ _ e4 (m1.tr (m2.tr (m3.tr m4))) hN⟩
theorem putF_n : ∀ {fs : List (Str × V)} {f : Str} {v : V}, (putF f v fs).map (·.1) = putN f (fs.map (·.1))
  | [], f, v => rfl
  | (g, x) :: r, f, v => by
    show (if g = f then (g, v) :: r else (g, x) :: putF f v r).map (·.1) = if f == g then g :: r.map (·.1) else g :: putN f (r.map (·.1))
    by_cases z : g = f
    · subst z; rw [if_pos rfl, if_pos (by simp)]; rfl
    · rw [if_neg z, if_neg (by simpa using fun w => z w.symm), List.map_cons, putF_n]
theorem putF_t {u : Tr} : ∀ {fs : List (Str × V)} {ts : List Tr} {f : Str} {v : V}, TrA K cp G H (fs.map (·.2)) ts → TrV K cp G H v u → TrA K cp G H ((putF f v fs).map (·.2)) (putT f u (fs.map (·.1)) ts)
  | [], ts, f, v, h, hv => by cases h; exact .cons hv .nil
  | (g, x) :: r, ts, f, v, h, hv => by
    cases h with
    | @cons _ _ t ts a b =>
      show TrA K cp G H ((if g = f then (g, v) :: r else (g, x) :: putF f v r).map (·.2)) (if f == g then u :: ts else t :: putT f u (r.map (·.1)) ts)
      by_cases z : g = f
      · subst z; rw [if_pos rfl, if_pos (by simp)]; exact .cons hv b
      · rw [if_neg z, if_neg (by simpa using fun w => z w.symm)]; exact .cons a (putF_t b hv)
theorem putT_mem {f : Str} {u : Tr} {x : Addr} : ∀ {ns : List Str} {ts : List Tr}, x ∈ feet (putT f u ns ts) → x ∈ feet ts ∨ x ∈ u.foot
  | [], ts, h => by simp [putT, feet] at h; exact .inr h
  | n :: ns, [], h => by simp [putT, feet] at h; exact .inr h
  | n :: ns, t :: ts, h => by
    simp only [putT] at h
    split at h
    · rcases List.mem_append.mp (show x ∈ u.foot ++ feet ts from h) with h | h
      · exact .inr h
      · exact .inl (List.mem_append.mpr (.inr h))
    · rcases List.mem_append.mp (show x ∈ t.foot ++ feet (putT f u ns ts) from h) with h | h
      · exact .inl (List.mem_append.mpr (.inl h))
      · exact (putT_mem h).imp_left fun z => List.mem_append.mpr (.inr z)
theorem putT_nd {f : Str} {u : Tr} (nu : u.foot.Nodup) : ∀ {ns : List Str} {ts : List Tr}, (feet ts).Nodup → (∀ x ∈ u.foot, x ∉ feet ts) → (feet (putT f u ns ts)).Nodup
  | [], ts, nd, hf => by simp [putT, feet]; exact nu
  | n :: ns, [], nd, hf => by simp [putT, feet]; exact nu
  | n :: ns, t :: ts, nd, hf => by
    have nd := List.nodup_append.mp (show (t.foot ++ feet ts).Nodup from nd)
    simp only [putT]
    split
    · refine List.nodup_append.mpr ⟨nu, nd.2.1, fun a ha b hb e => ?_⟩
      subst e
      exact hf a ha (List.mem_append.mpr (.inr hb))
    · refine List.nodup_append.mpr ⟨nd.1, putT_nd nu nd.2.1 fun x hx z => hf x hx (List.mem_append.mpr (.inr z)), fun a ha b hb e => ?_⟩
      subst e
      rcases putT_mem hb with z | z
      · exact nd.2.2 a ha a z rfl
      · exact hf a z (List.mem_append.mpr (.inl ha))
/-- x.f = e, x a place, e known to all -/
theorem DS.fldT {te tv : TE} {f : Str} (h : DEs K cp X tv ρ fun y ρ1 => DEo K cp X te ρ1 fun x ρ2 => ∃ (a : Addr) (i : Nat) (b : Bool) (t : Tr) (p : List Nat) (c : Nat) (ns : List Str) (ts : List Tr), x.pl ρ2 = some a ∧ ρ2[i]? = some (.dp b t) ∧ t.get p = some (.ob a c ns ts) ∧ Cls K (cp.c c) ∧ NoAttr K (cp.c c) f ∧ ns.length < 1000 ∧ N (ρ2.set i (.dp b (Tr.put (.ob a c (putN f ns) (putT f (.sh y) ns ts)) p t)))) :
    DS K cp X (sFld K te tv f) ρ N R B C := fun F A H0 H σ e hx Dd n r b c =>
  h.go e (hx _) fun v y ρ1 H1 e1 m1 dv q => DEo.go (show DEo K cp X te ρ1 _ from q) e1 (hx _) fun u x ρ2 H2 e2 m2 o2 ⟨a, i, b, t, p, c, ns, ts, hp, hi, hg, hc, hn, hl, hN⟩ => by
    have := pl_v e2 o2 hp
    subst this
    cases node_v e2 hi hg rfl with
    | @ob _ dx _ fs _ _ g1 g2 g3 =>
      subst g2
      obtain ⟨w0, _, ok, _⟩ := e2.sl i _ hi
      have nd := get_nd hg ok.1
      have nd' := List.nodup_cons.mp (show (a :: feet ts).Nodup from nd)
      have oa : DD.own σ ρ2 i a := .t hi (get_foot hg a (root_foot rfl))
      have dv' : ∀ o', Dv K cp (Gv F σ ρ2) (upd H2 a o') v y := fun o' => Dv.mv ⟨fun x o nx hx => ⟨nx, .of (by rw [upd_ne fun z => nx (.inr ⟨i, by rw [z]; exact oa⟩)]; exact hx)⟩⟩ _ _ (Dv.mv m2 _ _ dv)
      have fe : ∀ x ∈ (Tr.ob a c (putN f (fs.map (·.1))) (putT f (.sh y) (fs.map (·.1)) ts)).foot, x ∈ (Tr.ob a c (fs.map (·.1)) ts).foot := fun x hx => by
        rcases List.mem_cons.mp (show x ∈ a :: feet (putT f (.sh y) (fs.map (·.1)) ts) from hx) with rfl | hx
        · exact List.mem_cons_self
        · rcases putT_mem hx with z | z
          · exact List.mem_cons_of_mem _ z
          · cases z
      obtain ⟨e3, m3⟩ := en_node0 (o' := .ins (cp.c c) dx (putF f v fs)) (n' := .ob a c (putN f (fs.map (·.1))) (putT f (.sh y) (fs.map (·.1)) ts)) e2 hi hg rfl trivial (fun _ => .ob upd_same putF_n (putF_t (kids_stay (n := .ob a c (fs.map (·.1)) ts) e2 hi hg rfl g3) (.sh (dv' _))))
        (List.nodup_cons.mpr ⟨fun z => (by
          rcases putT_mem z with z | z
          · exact nd'.1 z
          · cases z), putT_nd (u := .sh y) List.nodup_nil nd'.2 fun x hx => by cases hx⟩) rfl fe
      exact ⟨a, cp.c c, dx, fs, rfl, g1, hc, hn, by rw [List.length_map] at hl; exact hl, n _ _ _ e3 (m1.tr (m2.tr m3)) hN⟩
/-- x.f op= e, x a place, ints -/
theorem DS.fldAugT {te tv : TE} {g : Int → Int → Int} {f : Str} (h : DEo K cp X te ρ fun x ρ1 => ∃ a : Addr, x.pl ρ1 = some a ∧ ∃ (i : Nat) (b : Bool) (t : Tr) (p : List Nat) (c : Nat) (ns : List Str) (ts : List Tr) (j : Int), ρ1[i]? = some (.dp b t) ∧ t.get p = some (.ob a c ns ts) ∧ Cls K (cp.c c) ∧ NoAttr K (cp.c c) f ∧ lookT f ns ts = some (.sh (.int j)) ∧ DEs K cp X tv ρ1 fun y ρ2 => ∃ (b : Bool) (t : Tr) (p : List Nat) (ns : List Str) (ts : List Tr) (k : Int), y = .int k ∧ ρ2[i]? = some (.dp b t) ∧ t.get p = some (.ob a c ns ts) ∧ ns.length < 1000 ∧ N (ρ2.set i (.dp b (Tr.put (.ob a c (putN f ns) (putT f (.sh (.int (g j k))) ns ts)) p t)))) :
    DS K cp X (sFldAug K te tv (ipI g) f) ρ N R B C := fun F A H0 H σ e hx Dd n r b c =>
  DEo.go h e (hx _) fun v x ρ1 H1 e1 m1 o1 ⟨a, hp, i, b, t, p, c, ns, ts, j, hi, hg, hc, hn, hj, q⟩ => by
    have := pl_v e1 o1 hp
    subst this
    cases node_v e1 hi hg rfl with
    | @ob _ dx _ fs _ _ g1 g2 g3 =>
      subst g2
      obtain ⟨w, hw, dw⟩ := look_tra g3 hj
      cases dw with
      | sh dw =>
        refine ⟨a, cp.c c, dx, fs, w, rfl, g1, hc, hn, hw, DEs.go q e1 (hx _) fun z y ρ2 H2 e2 m2 dy ⟨b, t, p, ns, ts, kk, hy, hi, hg, hl, hN⟩ => ?_⟩
        subst hy
        refine ⟨j, kk, dv_int dw, dv_int dy, ?_⟩
        cases node_v e2 hi hg rfl with
        | @ob _ dx _ fs _ _ g1 g2 g3 =>
          subst g2
          obtain ⟨w0, _, ok, _⟩ := e2.sl i _ hi
          have nd := get_nd hg ok.1
          have nd' := List.nodup_cons.mp (show (a :: feet ts).Nodup from nd)
          have fe : ∀ x ∈ (Tr.ob a c (putN f (fs.map (·.1))) (putT f (.sh (.int (g j kk))) (fs.map (·.1)) ts)).foot, x ∈ (Tr.ob a c (fs.map (·.1)) ts).foot := fun x hx => by
            rcases List.mem_cons.mp (show x ∈ a :: feet (putT f (.sh (.int (g j kk))) (fs.map (·.1)) ts) from hx) with rfl | hx
            · exact List.mem_cons_self
            · rcases putT_mem hx with z | z
              · exact List.mem_cons_of_mem _ z
              · cases z
          obtain ⟨e3, m3⟩ := en_node0 (o' := .ins (cp.c c) dx (putF f (.int (g j kk)) fs)) (n' := .ob a c (putN f (fs.map (·.1))) (putT f (.sh (.int (g j kk))) (fs.map (·.1)) ts)) e2 hi hg rfl trivial (fun _ => .ob upd_same putF_n (putF_t (kids_stay (n := .ob a c (fs.map (·.1)) ts) e2 hi hg rfl g3) (.sh (.int _))))
            (List.nodup_cons.mpr ⟨fun z => (by
              rcases putT_mem z with z | z
              · exact nd'.1 z
              · cases z), putT_nd (u := .sh (.int (g j kk))) List.nodup_nil nd'.2 fun x hx => by cases hx⟩) rfl fe
          exact ⟨dx, fs, g1, by rw [List.length_map] at hl; exact hl, n _ _ _ e3 (m1.tr (m2.tr m3)) hN⟩
end
end DD

end
section
set_option Elab.async false
set_option linter.all false
set_option maxRecDepth 100000
set_option maxHeartbeats 1000000
/-! New trees: made, named, set in, handed on; instances that hold trees; methods. -/
namespace DD
open PySem PySem.Spec PyProof.Rows L2 GL LamX
/-- a flat thing at a, as a tree -/
def D.node (a : Addr) : D → Tr
  | .lst ds => .lst a (ds.map .sh)
  | .dk ks ds => .dk a ks (ds.map .sh)
  | .ob c ns ds => .ob a c ns (ds.map .sh)
  | d => .sh d
def D.isNode : D → Bool
  | .lst _ => true
  | .dk _ _ => true
  | .ob _ _ _ => true
  | _ => false
section
variable {K : PySem.W.Frag} {cp : Cb} {X : XC} {F : Addr → Prop} {A : Pass} {G : Addr → Prop} {H0 H H' H1 : Hp} {σ : L2.St} {v : V} {ρ ρ' ρ1 : List SV} {Φ : AV → List SV → Prop} {N B C : List SV → Prop} {R : AV → List SV → Prop}
theorem node_foot {a : Addr} {c : D} (h : c.isNode = true) : (D.node a c).foot = [a] ∧ (D.node a c).root = some a := by
  cases c <;> first | (cases h; done) | exact ⟨by show a :: feet _ = [a]; rw [feet_sh], rfl⟩
theorem node_tv {a : Addr} {c : D} (h : c.isNode = true) (o : OwOk K cp G H a c) : TrV K cp G H (.ref a) (D.node a c) := by
  obtain ⟨u, hu, w⟩ := o
  cases w with
  | lst w => exact .lst hu (sh_dva.mpr w)
  | dk e w => exact .dk hu e (sh_dva.mpr w)
  | ob e w => exact .ob hu e (sh_dva.mpr w)
  | dt e w => cases h
theorem plusL_one {p : Addr} : plusL F [p] = plus F p := funext fun a => propext (or_congr_right List.mem_singleton)
/-- what is new and flat, as a tree -/
theorem DE.tree {te : TE} (h : DE K cp X te ρ fun r ρ1 => ∃ c, r = .n c ∧ c.isNode = true ∧ ∀ p, Φ (.t (D.node p c)) ρ1) : DE K cp X te ρ Φ := fun F A H0 H σ e hx Q k =>
  h F A H0 H σ e hx Q fun v r ρ1 H1 rs ⟨c, hr, hc, φ⟩ => by
    subst hr
    obtain ⟨p, rfl, nf, h0, en, ha, mv, ow⟩ := rs
    obtain ⟨f1, f2⟩ := node_foot (a := p) hc
    refine k _ (.t (D.node p c)) ρ1 H1 ⟨?_, ⟨by rw [f1]; simp, by rw [f1]; simp⟩, fun a ha => ?_, ?_, ha, ?_⟩ (φ p)
    · rw [f1, plusL_one]; exact node_tv hc ow
    · rw [f1, List.mem_singleton] at ha; subst ha; exact ⟨nf, h0⟩
    · rw [f1, plusL_one]; exact en
    · rw [f1, plusL_one]; exact mv
/-- a name takes a new tree -/
theorem own_newT {t : Tr} (e : En K cp (plusL F t.foot) A H0 H σ ρ) (nf : ∀ a ∈ t.foot, ¬ F a ∧ H0 a = none) (ha : ∀ x ∈ A, F x.2) {i : Nat} (hi : free ρ i) (ok : t.ok) (tv : TrV K cp (Gv (plusL F t.foot) σ ρ) H v t) :
    En K cp F A H0 H (σ.set i (some v)) (ρ.set i (.dp false t)) ∧ ∀ a, Gv F (σ.set i (some v)) (ρ.set i (.dp false t)) a → Gv (plusL F t.foot) σ ρ a := by
  have hl : i < σ.length := by rw [e.len]; exact hi.1
  have noP : ∀ j a, a ∈ t.foot → ¬ DD.own σ ρ j a := fun j a hat o => by
    rcases e.mine o with q | q
    · exact (nf a hat).1 (ha _ q)
    · exact q.1 (.inr hat)
  have oa : ∀ j a, DD.own (σ.set i (some v)) (ρ.set i (.dp false t)) j a → (j = i ∧ a ∈ t.foot) ∨ (j ≠ i ∧ DD.own σ ρ j a) := fun j a o => by
    by_cases z : j = i
    · subst z
      obtain ⟨s, h1, h2⟩ := o
      rw [List.getElem?_set_self hi.1] at h1
      cases h1
      exact .inl ⟨rfl, h2⟩
    · exact .inr ⟨z, (own_set z).mp o⟩
  have sub : ∀ a, Gv F (σ.set i (some v)) (ρ.set i (.dp false t)) a → Gv (plusL F t.foot) σ ρ a := fun a g => by
    rcases g with g | ⟨j, o⟩
    · exact .inl (.inl g)
    · rcases oa j a o with ⟨_, q⟩ | ⟨_, o⟩
      · exact .inl (.inr q)
      · exact .inr ⟨j, o⟩
  refine ⟨⟨by rw [List.length_set, List.length_set]; exact e.len, fun a f => e.tr a (.inl f), e.fr, e.tb, fun y hy => ?_, fun j k a h1 h2 => ?_, fun j b es a h1 h2 => ?_, fun j b u a h1 h2 => ?_, fun j s' h => ?_⟩, sub⟩
  · obtain ⟨f, q⟩ := e.io y hy
    refine ⟨ha y hy, ?_⟩
    rcases q with ⟨hk, es, h1, h2⟩ | ⟨hk, u, h1, h2⟩
    · have ne : i ≠ y.1 := by rintro rfl; exact hi.2.1 es h1
      exact .inl ⟨hk, es, by rw [List.getElem?_set_ne ne]; exact h1, by rw [List.getElem?_set_ne ne]; exact h2⟩
    · have ne : i ≠ y.1 := by rintro rfl; exact hi.2.2 u h1
      exact .inr ⟨hk, u, by rw [List.getElem?_set_ne ne]; exact h1, by rw [List.getElem?_set_ne ne]; exact h2⟩
  · rcases oa j a h1 with ⟨q1, w1⟩ | ⟨n1, o1⟩
    · rcases oa k a h2 with ⟨q2, _⟩ | ⟨n2, o2⟩
      · rw [q1, q2]
      · exact absurd o2 (noP k a w1)
    · rcases oa k a h2 with ⟨q2, w2⟩ | ⟨n2, o2⟩
      · exact absurd o1 (noP j a w2)
      · exact e.dj j k a o1 o2
  · by_cases z : i = j
    · subst z; rw [List.getElem?_set_self hi.1] at h1; cases h1
    · rw [List.getElem?_set_ne z] at h1 h2
      have q := e.ow j b es a h1 h2
      split at q
      · rename_i hb; rw [if_pos hb]; exact q
      · rename_i hb; rw [if_neg hb]; exact ⟨fun f => q.1 (.inl f), q.2⟩
  · by_cases z : i = j
    · subst z
      rw [List.getElem?_set_self hi.1] at h1
      cases h1
      exact .inr (nf a h2)
    · rw [List.getElem?_set_ne z] at h1
      exact (e.dw j b u a h1 h2).imp_right fun q => ⟨fun f => q.1 (.inl f), q.2⟩
  · by_cases z : i = j
    · subst z
      rw [List.getElem?_set_self hi.1] at h
      cases h
      rw [List.getElem?_set_self hl]
      exact ⟨v, rfl, ok, tv.mv (Mv.sub sub) _ _ fun _ _ _ h _ => h⟩
    · rw [List.getElem?_set_ne z] at h ⊢
      exact (e.sl j s' h).mv (Mv.sub sub) fun _ _ _ h _ => h
theorem DS.ownT {te : TE} {i : Nat} (h : DE K cp X te ρ fun r ρ1 => ∃ t, r = .t t ∧ free ρ1 i ∧ N (ρ1.set i (.dp false t))) : DS K cp X (tAsg te (gName i)) ρ N R B C := fun F A H0 H σ e hx Dd n r b c =>
  h F A H0 H σ e (hx _) _ fun v a ρ1 H1 e1 ⟨t, ea, hi, q⟩ => by
    subst ea
    obtain ⟨tv, ok, nf, en, ha, mv⟩ := e1
    obtain ⟨e2, g2⟩ := own_newT en nf ha hi ok tv
    exact n _ _ H1 e2 (mv.tr (Mv.sub g2)) q
/-- a name's own tree is handed on, the name is empty behind it -/
theorem DE.moveT {i : Nat} {t : Tr} (h : ρ[i]? = some (.dp false t)) (q : Φ (.t t) (ρ.set i .no)) : DE K cp X (tVar i) ρ Φ := fun F A H0 H σ e hx Q k => by
  obtain ⟨v, h1, ok, tv⟩ := e.sl i _ h
  have hl : i < ρ.length := (List.getElem?_eq_some_iff.mp h).1
  have mine : ∀ a ∈ t.foot, ¬ F a ∧ H0 a = none := fun a ha => by
    rcases e.dw i false t a h ha with ⟨z, _⟩ | z
    · cases z
    · exact z
  have ons : ∀ j a, DD.own σ (ρ.set i .no) j a ↔ DD.own σ ρ j a ∧ j ≠ i := fun j a => by
    unfold DD.own
    by_cases z : i = j
    · subst z
      rw [List.getElem?_set_self hl]
      constructor
      · rintro ⟨s, h, h2⟩; cases h; exact h2.elim
      · rintro ⟨_, h⟩; exact absurd rfl h
    · rw [List.getElem?_set_ne z]
      exact ⟨fun h => ⟨h, fun q => z q.symm⟩, fun h => h.1⟩
  have gq : ∀ a, Gv (plusL F t.foot) σ (ρ.set i .no) a ↔ Gv F σ ρ a := fun a => by
    constructor
    · rintro ((f | f) | ⟨j, o⟩)
      · exact .inl f
      · exact .inr ⟨i, .t h f⟩
      · exact .inr ⟨j, ((ons j a).mp o).1⟩
    · rintro (f | ⟨j, o⟩)
      · exact .inl (.inl f)
      · by_cases z : j = i
        · subst z
          obtain ⟨s, g1, g2⟩ := o
          rw [h] at g1; cases g1
          exact .inl (.inr g2)
        · exact .inr ⟨j, (ons j a).mpr ⟨o, z⟩⟩
  have m : Mv (Gv F σ ρ) H (Gv (plusL F t.foot) σ (ρ.set i .no)) H := Mv.sub fun x g => (gq x).mp g
  refine ⟨v, h1, k v (.t t) _ H ⟨tv.mv m _ _ fun _ _ _ h _ => h, ok, mine, ?_, fun x hx => (e.io x hx).1, m⟩ q⟩
  refine ⟨by rw [List.length_set]; exact e.len, fun a f => f.elim (e.tr a) fun z => tv.there z, e.fr, e.tb, fun y hy => ?_, fun j k a h1 h2 => e.dj j k a ((ons j a).mp h1).1 ((ons k a).mp h2).1, fun j b es a h1 h2 => ?_, fun j b u a h1 h2 => ?_, fun j s h => ?_⟩
  · obtain ⟨f, q⟩ := e.io y hy
    refine ⟨.inl f, ?_⟩
    rcases q with ⟨hk, es, g1, g2⟩ | ⟨hk, u, g1, g2⟩
    · have ne : i ≠ y.1 := by rintro rfl; rw [h] at g1; cases g1
      exact .inl ⟨hk, es, by rw [List.getElem?_set_ne ne]; exact g1, g2⟩
    · have ne : i ≠ y.1 := by rintro rfl; rw [h] at g1; cases g1
      exact .inr ⟨hk, u, by rw [List.getElem?_set_ne ne]; exact g1, g2⟩
  · have o := (ons j a).mp (.w h1 h2)
    rw [List.getElem?_set_ne o.2.symm] at h1
    have z := e.ow j b es a h1 h2
    split at z
    · rename_i hb; rw [if_pos hb]; exact z
    · rename_i hb
      rw [if_neg hb]
      exact ⟨fun f => f.elim z.1 fun r => o.2 (e.dj j i a o.1 (.t h r)), z.2⟩
  · have o := (ons j a).mp (.t h1 h2)
    rw [List.getElem?_set_ne o.2.symm] at h1
    exact (e.dw j b u a h1 h2).imp_right fun z => ⟨fun f => f.elim z.1 fun r => o.2 (e.dj j i a o.1 (.t h r)), z.2⟩
  · by_cases z : i = j
    · subst z
      rw [List.getElem?_set_self hl] at h
      cases h; trivial
    · rw [List.getElem?_set_ne z] at h
      exact (e.sl j s h).mv (Mv.sub fun a g => (gq a).mp g) fun _ _ _ h _ => h
/-- x.f = e, x a name's own instance, e new -/
theorem DS.fldTr {i : Nat} {tv : TE} {f : Str} (h : DE K cp X tv ρ fun r ρ1 => ∃ tr, r = .t tr ∧ ∃ (b : Bool) (a : Addr) (c : Nat) (ns : List Str) (ts : List Tr), ρ1[i]? = some (.dp b (.ob a c ns ts)) ∧ Cls K (cp.c c) ∧ NoAttr K (cp.c c) f ∧ ns.length < 1000 ∧ N (ρ1.set i (.dp b (.ob a c (putN f ns) (putT f tr ns ts))))) :
    DS K cp X (sFld K (tVar i) tv f) ρ N R B C := fun F A H0 H σ e hx Dd n r b c =>
  h F A H0 H σ e (hx _) _ fun v r ρ1 H1 rs ⟨tr, hr, b, a, c, ns, ts, hi, hc, hn, hl, hN⟩ => by
    subst hr
    obtain ⟨tv, ok, nf, en, ha, mv⟩ := rs
    obtain ⟨w, hw, okw, tw⟩ := en.sl i _ hi
    have := tw.root (t := .ob a c ns ts) rfl
    subst this
    cases tw with
    | @ob _ dx _ fs _ _ g1 g2 g3 =>
      subst g2
      have nd' := List.nodup_cons.mp (show (a :: feet ts).Nodup from okw.1)
      have oa : DD.own σ ρ1 i a := .t hi (by simp [Tr.foot])
      have noL : ∀ x ∈ tr.foot, ¬ DD.own σ ρ1 i x := fun x hx o => by
        rcases en.mine o with q | q
        · exact (nf x hx).1 (ha _ q)
        · exact q.1 (.inr hx)
      have ntr : a ∉ tr.foot := fun z => noL a z oa
      have mm : ∀ o', Mv (Gv (plusL F tr.foot) σ ρ1) H1 (Gv (plusL F tr.foot) σ ρ1) (upd H1 a o') := fun o' => ⟨fun x o nx hx => ⟨nx, .of (by rw [upd_ne fun z => nx (.inr ⟨i, by rw [z]; exact oa⟩)]; exact hx)⟩⟩
      obtain ⟨e3, m3⟩ := en_node (l := tr.foot) (p := []) (n := .ob a c (fs.map (·.1)) ts) (n' := .ob a c (putN f (fs.map (·.1))) (putT f tr (fs.map (·.1)) ts)) (H' := upd H1 a (.ins (cp.c c) dx (putF f v fs))) en nf ha hi rfl rfl (fun x hx => upd_ne hx) upd_same trivial
        (fun v' hv' => by
          have := hv'.root (t := .ob a c (fs.map (·.1)) ts) rfl
          subst this
          exact .ob upd_same putF_n (putF_t (kids_stay (n := .ob a c (fs.map (·.1)) ts) (p := []) en hi rfl rfl g3) (tv.mv (mm _) _ _ fun x hx u hu _ => by rw [upd_ne fun z => ntr (by rw [← z]; exact hx)]; exact hu)))
        (List.nodup_cons.mpr ⟨fun z => (by
          rcases putT_mem z with z | z
          · exact nd'.1 z
          · exact ntr z), putT_nd ok.1 nd'.2 fun x hx z => noL x hx (.t hi (List.mem_cons_of_mem _ z))⟩) rfl
        (fun x hx => by
          rcases List.mem_cons.mp (show x ∈ a :: feet (putT f tr (fs.map (·.1)) ts) from hx) with rfl | hx
          · exact .inl List.mem_cons_self
          · exact (putT_mem hx).imp_left fun z => List.mem_cons_of_mem _ z)
      exact ⟨_, hw, a, cp.c c, dx, fs, rfl, g1, hc, hn, by rw [List.length_map] at hl; exact hl, n _ _ _ e3 (mv.tr m3) hN⟩
/-- [{} for k in ..] -/
theorem DE.lcD {wi : TI} {k : Nat} {vs : List Nat} (hn : nown ρ vs) (hk : k ∈ vs) (h : DI K cp X wi ρ fun ds ρ1 => ρ1 = ρ ∧ ds.length ≤ 900000 ∧ ∀ (a : Addr) (ps : List Addr), ps.length = ds.length → Φ (.t (.lst a (ps.map fun p => .dk p [] []))) ρ) : DE K cp X (tLc wi (gName k) tYes tDNewK vs) ρ Φ := fun F A H0 H σ e hx Q kk =>
  h F A H0 H σ e hx _ fun J xs ρ1 H1 e1 m1 wk ⟨er, hlen, φ⟩ => by
    subst er
    intro D hD
    have h0D := e1.none0 hD
    have nF : ¬ F D := fun f => e1.notF hD (.inl f)
    have hA : ∀ x ∈ A, F x.2 := fun x hx => (e1.io x hx).1
    have fe : ∀ (ps : List Addr), feet (ps.map fun p => Tr.dk p [] []) = ps := by
      intro ps
      induction ps with
      | nil => rfl
      | cons p ps ih => show (p :: feet []) ++ feet (ps.map _) = _; rw [ih]; rfl
    have e2 := e1.plus hD (Ex.nw hD) (o := .lst []) upd_same
    refine lc_it wk (fun i H' => ∃ ps : List Addr, ps.length = i ∧ H' D = some (.lst (ps.map V.ref)) ∧ (∀ p ∈ ps, H' p = some (.dK [])) ∧ (D :: ps).Nodup ∧ (∀ p ∈ D :: ps, ¬ F p ∧ H0 p = none) ∧ En K cp (plusL F (D :: ps)) A H0 H' σ ρ1 ∧ Mv (Gv F σ ρ1) H1 (Gv (plusL F (D :: ps)) σ ρ1) H')
      ⟨[], rfl, upd_same, by simp, by simp, fun p hp => by rw [List.mem_singleton.mp hp]; exact ⟨nF, h0D⟩, by rw [plusL_one]; exact e2, by rw [plusL_one]; exact (Mv.nw hD).tr ((Mv.ex (Ex.nw hD)).tr (Mv.sub gv_plus))⟩ (fun i H' _ ⟨ps, _, _, _, _, _, _, m'⟩ => ⟨_, m'⟩) ?_ ?_
    · rintro i x H2 H3 hi ⟨ps, hpl, hDl, hps, nd, nfs, e3, m3⟩ ⟨ex, y⟩
      refine ⟨by rw [wipe_set vs hk]; exact wipe_wipe vs fun i h => h, ?_⟩
      suffices hT : ∀ p, H3 p = none → ∃ acc, (upd H3 p (.dK [])) D = some (.lst acc) ∧ acc.length < sizeLine ∧ ∃ qs : List Addr, qs.length = i + 1 ∧ (upd (upd H3 p (.dK [])) D (.lst (acc ++ [.ref p]))) D = some (.lst (qs.map V.ref)) ∧ (∀ q ∈ qs, (upd (upd H3 p (.dK [])) D (.lst (acc ++ [.ref p]))) q = some (.dK [])) ∧ (D :: qs).Nodup ∧ (∀ q ∈ D :: qs, ¬ F q ∧ H0 q = none) ∧ En K cp (plusL F (D :: qs)) A H0 (upd (upd H3 p (.dK [])) D (.lst (acc ++ [.ref p]))) σ ρ1 ∧ Mv (Gv F σ ρ1) H1 (Gv (plusL F (D :: qs)) σ ρ1) (upd (upd H3 p (.dK [])) D (.lst (acc ++ [.ref p]))) from hT
      intro p hp
      have e4 := e3.ex ex
      obtain ⟨e5, m5⟩ := en_apart (l := [p]) (H' := upd H3 p (.dK [])) e4 (fun a ha => by rw [List.mem_singleton.mp ha]; exact hp) (Ex.nw hp) (fun a ha => by rw [List.mem_singleton.mp ha]; exact ⟨_, upd_same, trivial⟩)
      have nD : p ≠ D := fun z => by rw [z, ex _ _ hDl] at hp; cases hp
      have nps : p ∉ ps := fun z => by rw [ex _ _ (hps p z)] at hp; cases hp
      have pe : plusL (plusL F (D :: ps)) [p] = plusL F (D :: (ps ++ [p])) := funext fun a => propext ⟨fun h => by
        rcases h with (h | h) | h
        · exact .inl h
        · rcases List.mem_cons.mp h with rfl | h
          · exact .inr List.mem_cons_self
          · exact .inr (List.mem_cons_of_mem _ (List.mem_append.mpr (.inl h)))
        · exact .inr (List.mem_cons_of_mem _ (List.mem_append.mpr (.inr h))), fun h => by
        rcases h with h | h
        · exact .inl (.inl h)
        · rcases List.mem_cons.mp h with rfl | h
          · exact .inl (.inr List.mem_cons_self)
          · rcases List.mem_append.mp h with h | h
            · exact .inl (.inr (List.mem_cons_of_mem _ h))
            · exact .inr h⟩
      rw [pe] at e5 m5
      have hD5 : upd H3 p (.dK []) D = some (.lst (ps.map V.ref)) := by rw [upd_ne fun z => nD z.symm]; exact ex _ _ hDl
      refine ⟨_, hD5, sz_ok (by rw [List.length_map]; omega), ps ++ [p], by rw [List.length_append, hpl]; rfl, by rw [upd_same, List.map_append]; rfl, fun q hq => ?_, ?_, fun q hq => ?_, ?_, ?_⟩
      · have nq : q ≠ D := by
          rintro rfl
          rcases List.mem_append.mp hq with hq | hq
          · exact (List.nodup_cons.mp nd).1 hq
          · exact nD (List.mem_singleton.mp hq).symm
        rw [upd_ne nq]
        rcases List.mem_append.mp hq with hq | hq
        · rw [upd_ne fun z => nps (by rw [← z]; exact hq)]; exact ex _ _ (hps q hq)
        · rw [List.mem_singleton.mp hq]; exact upd_same
      · have nd2 := List.nodup_cons.mp nd
        refine List.nodup_cons.mpr ⟨fun z => ?_, List.nodup_append.mpr ⟨nd2.2, by simp, fun a ha b hb z => ?_⟩⟩
        · rcases List.mem_append.mp z with z | z
          · exact nd2.1 z
          · exact nD (List.mem_singleton.mp z).symm
        · rw [List.mem_singleton.mp hb] at z
          exact nps (by rw [← z]; exact ha)
      · rcases List.mem_cons.mp hq with rfl | hq
        · exact nfs q List.mem_cons_self
        · rcases List.mem_append.mp hq with hq | hq
          · exact nfs q (List.mem_cons_of_mem _ hq)
          · rw [List.mem_singleton.mp hq]; exact ⟨fun f => e4.notF hp (.inl (.inl f)), e4.none0 hp⟩
      · have mD : Mv (Gv (plusL F (D :: (ps ++ [p]))) σ ρ1) (upd H3 p (.dK [])) (Gv (plusL F (D :: (ps ++ [p]))) σ ρ1) (upd (upd H3 p (.dK [])) D (.lst (ps.map V.ref ++ [.ref p]))) := ⟨fun a u n h => ⟨n, .of (by rw [upd_ne fun z => n (.inl (.inr (by rw [z]; exact List.mem_cons_self)))]; exact h)⟩⟩
        refine ⟨e5.len, fun a f => ?_, fun a u hx q => ?_, tabs_upd e5.tb hD5 trivial, e5.io, e5.dj, e5.ow, e5.dw, fun i s h => (e5.sl i s h).mv mD fun a u q2 q3 _ => ?_⟩
        · by_cases z : a = D
          · subst z; exact ⟨_, upd_same, trivial⟩
          · rw [upd_ne z]; exact e5.tr a f
        · exact (e5.fr a u hx q).tr fun v hv => .of (by rw [upd_ne (ne_of_none q h0D)]; exact hv)
        · rw [upd_ne ?_]
          · exact q3
          · rintro rfl
            rcases e5.mine ⟨s, h, q2⟩ with q | q
            · exact nF (hA _ q)
            · exact q.1 (.inr List.mem_cons_self)
      · refine m3.tr ((Mv.ex ex).tr (m5.tr ⟨fun a u n h => ⟨n, .of (by rw [upd_ne fun z => n (.inl (.inr (by rw [z]; exact List.mem_cons_self)))]; exact h)⟩⟩))
    · rintro H2 ⟨ps, hpl, hDl, hps, nd, nfs, e3, m3⟩
      have ff : (Tr.lst D (ps.map fun p => .dk p [] [])).foot = D :: ps := by show D :: feet _ = _; rw [fe]
      have tra : ∀ {ps : List Addr}, (∀ p ∈ ps, H2 p = some (.dK [])) → TrA K cp (Gv (plusL F (D :: ps)) σ ρ1) H2 (ps.map V.ref) (ps.map fun p => .dk p [] []) → True := fun _ _ => trivial
      have tra : ∀ {G : Addr → Prop} {qs : List Addr}, (∀ p ∈ qs, H2 p = some (.dK [])) → TrA K cp G H2 (qs.map V.ref) (qs.map fun p => .dk p [] []) := by
        intro G qs
        induction qs with
        | nil => intro _; exact .nil
        | cons q qs ih => intro h; exact .cons (.dk (h q List.mem_cons_self) rfl .nil) (ih fun p hp => h p (List.mem_cons_of_mem _ hp))
      refine kk _ (.t (.lst D (ps.map fun p => .dk p [] []))) ρ1 H2 ⟨.lst hDl (tra hps), ⟨by rw [ff]; exact nd, by rw [ff]; simp⟩, fun a ha => by rw [ff] at ha; exact nfs a ha, by rw [ff]; exact e3, hA, by rw [ff]; exact m1.tr m3⟩ (φ D ps hpl)
end
end DD

end
section
set_option Elab.async false
set_option linter.all false
set_option maxRecDepth 100000
set_option maxHeartbeats 1000000
/-! Methods of own classes; what is owned, lent while an expression reads it. -/
namespace DD
open PySem PySem.Spec PyProof.Rows L2 GL LamX
section
variable {X : Cx} {cx : CXT} {k : Nat} {C f : Addr} {fd : FuncData} {ps ks : List Str} {sp : Sp} {dvs : List V} {ds : List Value} {E : XK} {m : Str} {apos pos : Pos} {o e : Expr} {es : List Expr} {kws : List Keyword} {ta : TE} {t tk : TA}
theorem pg_meth {pl : Sem Bool} (he : PE X o ta) (c : Cls X.K C) (hm : Meth X.K C m f) (F : FnG X.prog X.w X.K X.mg X.base cx k f fd ps sp) (gd : X.A.guards = some []) (rm : Room k X.A) (hb : Binds X.K fd ps ds) (hd : Vals dvs ds) (hx : Passes cx X E) (ha : PA X (e :: es) t)
    (hst : starEach (e :: es) X.env = (false, eval e X.env) :: starEach es X.env := by rfl) (hpl : (backTo pos (starEach es X.env)).any (·.1) = false := by rfl)
    (ht : eval (.Call (.Attribute o m apos) (e :: es) [] pos) X.env = (do
      let ov ← eval o X.env
      standAt apos.atName
      let (f, first) ← holding [ov] (getMethod ov m pl)
      callWith pos f first (backTo pos (starEach (e :: es) X.env)) (backToKw pos (keywordEach [] X.env))) := by rfl) :
    PE X (.Call (.Attribute o m apos) (e :: es) [] pos) (tMeth C m sp dvs E ta t) := by
  refine ⟨fun pins s σ H Q I h => ?_⟩
  refine PySem.W.methodCall_KW (pl := pl) (thn (he.run pins s σ H _ I h) fun u s1 ⟨x, H1, I1, rx, a, dx, fs, ex, ea, l, q⟩ => ?_) ht
  subst ex
  obtain rfl : u = Value.ref a := rx
  refine getmeth_ok I1 ea c hm l ?_
  refine PySem.W.callWith_K (first := [.ref a]) (h₀ := X.base) I.ok.mod.kin hm.kp (thn (ha.run pos pins s1 σ H1 _ I1 q) fun us s2 ⟨vs, H2, I2, r, q2⟩ => ⟨I2.kIn, ?_⟩) hst hpl
  exact F.call_vals (us := .ref a :: us) (vs := .ref a :: vs) gd rm hb hd hx I2 (.cons rfl r) q2
theorem pg_meth0 {pl : Sem Bool} (he : PE X o ta) (c : Cls X.K C) (hm : Meth X.K C m f) (F : FnG X.prog X.w X.K X.mg X.base cx k f fd ps sp) (gd : X.A.guards = some []) (rm : Room k X.A) (hb : Binds X.K fd ps ds) (hd : Vals dvs ds) (hx : Passes cx X E)
    (ht : eval (.Call (.Attribute o m apos) [] [] pos) X.env = (do
      let ov ← eval o X.env
      standAt apos.atName
      let (f, first) ← holding [ov] (getMethod ov m pl)
      callWith pos f first (backTo pos (starEach [] X.env)) (backToKw pos (keywordEach [] X.env))) := by rfl) :
    PE X (.Call (.Attribute o m apos) [] [] pos) (tMeth C m sp dvs E ta tNil) := by
  refine ⟨fun pins s σ H Q I h => ?_⟩
  refine PySem.W.methodCall_KW (pl := pl) (thn (he.run pins s σ H _ I h) fun u s1 ⟨x, H1, I1, rx, a, dx, fs, ex, ea, l, q⟩ => ?_) ht
  subst ex
  obtain rfl : u = Value.ref a := rx
  refine getmeth_ok I1 ea c hm l ?_
  exact PySem.W.callWith_K0 (first := [.ref a]) I1.kIn hm.kp (F.call_vals (us := [.ref a]) (vs := [.ref a]) gd rm hb hd hx I1 (.cons rfl .nil) q)
variable {n : Nat} {g : {α : Type} → List α → List α → List α}
/-- o.m(.., k = v, ..) -/
def tMethW (C : Addr) (m : Str) (n k : Nat) (sp : Sp) (g : {α : Type} → List α → List α → List α) (E : XK) (ta : TE) (t tk : TA) : TE := fun σ H Q => ta σ H fun x H1 => ∃ a dx fs, x = .ref a ∧ H1 a = some (.ins C dx fs) ∧ fs.lookup m = none ∧
  t σ H1 fun vs H2 => tk σ H2 fun zs H3 => vs.length = n ∧ zs.length = k ∧ sp (g (x :: vs) zs) H3 Q E
theorem pg_methK {pl : Sem Bool} (he : PE X o ta) (c : Cls X.K C) (hm : Meth X.K C m f) (F : FnG X.prog X.w X.K X.mg X.base cx k f fd ps sp) (gd : X.A.guards = some []) (rm : Room k X.A) (hb : KwB X.K fd ps (n + 1) ks g) (hx : Passes cx X E) (ha : PA X (e :: es) t) (hk : PK X kws tk)
    (hall : (backToKw pos (keywordEach kws X.env)).all (·.1.isSome) = true := by rfl) (hks : (backToKw pos (keywordEach kws X.env)).filterMap (·.1) = ks := by rfl)
    (hst : starEach (e :: es) X.env = (false, eval e X.env) :: starEach es X.env := by rfl)
    (hpl : ((backTo pos (starEach (e :: es) X.env)).any (·.1) || (backToKw pos (keywordEach kws X.env)).any (·.1.isNone)) = false := by rfl)
    (ht : eval (.Call (.Attribute o m apos) (e :: es) kws pos) X.env = (do
      let ov ← eval o X.env
      standAt apos.atName
      let (f, first) ← holding [ov] (getMethod ov m pl)
      callWith pos f first (backTo pos (starEach (e :: es) X.env)) (backToKw pos (keywordEach kws X.env))) := by rfl) :
    PE X (.Call (.Attribute o m apos) (e :: es) kws pos) (tMethW C m n ks.length sp g E ta t tk) := by
  refine ⟨fun pins s σ H Q I h => ?_⟩
  refine PySem.W.methodCall_KW (pl := pl) (thn (he.run pins s σ H _ I h) fun u s1 ⟨x, H1, I1, rx, a, dx, fs, ex, ea, l, q⟩ => ?_) ht
  subst ex
  obtain rfl : u = Value.ref a := rx
  refine getmeth_ok I1 ea c hm l ?_
  refine PySem.W.callWith_KW (first := [.ref a]) (h₀ := X.base) I.ok.mod.kin hm.kp hall (thn (ha.run pos pins s1 σ H1 _ I1 q) ?_) hpl hst
  rintro us s2 ⟨vs, H2, I2, r, q2⟩
  refine thn (hk.run pos pins s2 σ H2 _ I2 q2) ?_
  rintro ws s3 ⟨zs, H3, I3, rz, l1, l2, q3⟩
  rw [hks]
  exact ⟨I3.kIn, F.call_kw (us := .ref a :: us) (vs := .ref a :: vs) gd rm hb hx I3 (.cons rfl r) rz (by rw [List.length_cons, l1]) l2 q3⟩
theorem pg_methK0 {pl : Sem Bool} (he : PE X o ta) (c : Cls X.K C) (hm : Meth X.K C m f) (F : FnG X.prog X.w X.K X.mg X.base cx k f fd ps sp) (gd : X.A.guards = some []) (rm : Room k X.A) (hb : KwB X.K fd ps 1 ks g) (hx : Passes cx X E) (hk : PK X kws tk)
    (hall : (backToKw pos (keywordEach kws X.env)).all (·.1.isSome) = true := by rfl) (hks : (backToKw pos (keywordEach kws X.env)).filterMap (·.1) = ks := by rfl)
    (hpl : ((backTo pos (starEach [] X.env)).any (·.1) || (backToKw pos (keywordEach kws X.env)).any (·.1.isNone)) = false := by rfl)
    (ht : eval (.Call (.Attribute o m apos) [] kws pos) X.env = (do
      let ov ← eval o X.env
      standAt apos.atName
      let (f, first) ← holding [ov] (getMethod ov m pl)
      callWith pos f first (backTo pos (starEach [] X.env)) (backToKw pos (keywordEach kws X.env))) := by rfl) :
    PE X (.Call (.Attribute o m apos) [] kws pos) (tMethW C m 0 ks.length sp g E ta tNil tk) := by
  refine ⟨fun pins s σ H Q I h => ?_⟩
  refine PySem.W.methodCall_KW (pl := pl) (thn (he.run pins s σ H _ I h) fun u s1 ⟨x, H1, I1, rx, a, dx, fs, ex, ea, l, q⟩ => ?_) ht
  subst ex
  obtain rfl : u = Value.ref a := rx
  refine getmeth_ok I1 ea c hm l ?_
  refine PySem.W.callWith_KW0 (first := [.ref a]) (h₀ := X.base) I.ok.mod.kin hm.kp hall ?_ hpl
  refine thn (hk.run pos pins s1 σ H1 _ I1 q) ?_
  rintro ws s3 ⟨zs, H3, I3, rz, l1, l2, q3⟩
  rw [hks]
  exact ⟨I3.kIn, F.call_kw (us := [.ref a]) (vs := [.ref a]) gd rm hb hx I3 (.cons rfl .nil) rz rfl l2 q3⟩
end
section
variable {K : PySem.W.Frag} {cp : Cb} {X : XC} {F : Addr → Prop} {A : Pass} {G : Addr → Prop} {H0 H H' H1 : Hp} {σ : L2.St} {v : V} {ρ ρ' ρ1 : List SV} {Φ : AV → List SV → Prop} {N B C : List SV → Prop} {R : AV → List SV → Prop}
theorem look_none : ∀ {fs : List (Str × V)} {m : Str}, (fs.map (·.1)).all (fun n => !(m == n)) = true → fs.lookup m = none
  | [], _, _ => rfl
  | (n, v) :: fs, m, h => by
    rw [List.map_cons, List.all_cons, Bool.and_eq_true] at h
    simp only [List.lookup]
    have : (m == n) = false := by simpa using h.1
    rw [this]
    exact look_none h.2
/-- o.m(..), o a name's own instance -/
theorem DE.methX {n i : Nat} {C : Addr} {m : Str} {Cc : CtX} {t : TA} (h : ∃ (b : Bool) (a : Addr) (c : Nat) (ns : List Str) (ts : List Tr), ρ[i]? = some (.dp b (.ob a c ns ts)) ∧ C = cp.c c ∧ ns.all (fun n => !(m == n)) = true ∧ DAo K cp X t ρ fun ps ρ1 => ∃ ss, argS ρ1 (.o i :: ps) = some ss ∧ ps.length + 1 = n ∧ (slots (.o i :: ps)).Nodup ∧ Cc ss (fun r ρc => Φ r (upds ρc 0 (.o i :: ps) ρ1)) fun j ns es ρc => X.P j ns es (upds ρc 0 (.o i :: ps) ρ1)) :
    DE K cp X (tMeth C m (spX K cp n Cc) [] X.E (tVar i) t) ρ Φ := fun F A H0 H σ e hx Q k => by
  obtain ⟨b, a, c, ns, ts, hi, rfl, hm, h⟩ := h
  obtain ⟨w, hw, ok, tw⟩ := e.sl i _ hi
  have := tw.root (t := .ob a c ns ts) rfl
  subst this
  cases tw with
  | @ob _ dx _ fs _ _ g1 g2 g3 =>
    subst g2
    refine ⟨_, hw, a, dx, fs, rfl, g1, look_none hm, h F A H0 H σ e hx _ fun vs ps ρ1 H1 e1 m1 o1 ⟨ss, hs, hn, hd, hc⟩ => ?_⟩
    rw [List.append_nil]
    exact call_ct (Ψ := X.P) (ps := .o i :: ps) (vs := .ref a :: vs) e1 (.cons ⟨a, rfl, hw⟩ o1) hs (by rw [List.length_cons]; exact hn) hd hc (fun v r ρ2 H2 rs φ => k v r ρ2 H2 (rs.tr m1) φ) fun j es fs dd ρ' H' e2 h1 h2 h3 => hx.x j es fs dd _ _ e2 h1 h2 h3
theorem DE.methY {n i : Nat} {C : Addr} {m : Str} {Cc : CtX} {E : XK} {t : TA} (hE : X.E = E) (h : ∃ (b : Bool) (a : Addr) (c : Nat) (ns : List Str) (ts : List Tr), ρ[i]? = some (.dp b (.ob a c ns ts)) ∧ C = cp.c c ∧ ns.all (fun n => !(m == n)) = true ∧ DAo K cp X t ρ fun ps ρ1 => ∃ ss, argS ρ1 (.o i :: ps) = some ss ∧ ps.length + 1 = n ∧ (slots (.o i :: ps)).Nodup ∧ Cc ss (fun r ρc => Φ r (upds ρc 0 (.o i :: ps) ρ1)) fun j ns es ρc => X.P j ns es (upds ρc 0 (.o i :: ps) ρ1)) :
    DE K cp X (tMeth C m (spX K cp n Cc) [] E (tVar i) t) ρ Φ := by
  rw [← hE]; exact DE.methX h
theorem DE.meth {n i : Nat} {C : Addr} {m : Str} {Cc : Ct} {E : XK} {t : TA} (h : ∃ (b : Bool) (a : Addr) (c : Nat) (ns : List Str) (ts : List Tr), ρ[i]? = some (.dp b (.ob a c ns ts)) ∧ C = cp.c c ∧ ns.all (fun n => !(m == n)) = true ∧ DAo K cp X t ρ fun ps ρ1 => ∃ ss, argS ρ1 (.o i :: ps) = some ss ∧ ps.length + 1 = n ∧ (slots (.o i :: ps)).Nodup ∧ Cc ss fun r ρc => Φ r (upds ρc 0 (.o i :: ps) ρ1)) :
    DE K cp X (tMeth C m (spC K cp n Cc) [] E (tVar i) t) ρ Φ := fun F A H0 H σ e hx Q k => by
  obtain ⟨b, a, c, ns, ts, hi, rfl, hm, h⟩ := h
  obtain ⟨w, hw, ok, tw⟩ := e.sl i _ hi
  have := tw.root (t := .ob a c ns ts) rfl
  subst this
  cases tw with
  | @ob _ dx _ fs _ _ g1 g2 g3 =>
    subst g2
    refine ⟨_, hw, a, dx, fs, rfl, g1, look_none hm, h F A H0 H σ e hx _ fun vs ps ρ1 H1 e1 m1 o1 ⟨ss, hs, hn, hd, hc⟩ => ?_⟩
    rw [List.append_nil]
    exact call_ct (Ψ := fun _ _ _ _ => False) (C := fun ss Φ _ => Cc ss Φ) (ps := .o i :: ps) (vs := .ref a :: vs) e1 (.cons ⟨a, rfl, hw⟩ o1) hs (by rw [List.length_cons]; exact hn) hd hc (fun v r ρ2 H2 rs φ => k v r ρ2 H2 (rs.tr m1) φ) fun _ _ _ _ _ _ _ _ _ z => z.elim
/-- .. with keywords -/
theorem DE.methW {n l c0 i : Nat} {C : Addr} {m : Str} {Cc : CtX} {E : XK} {g : {α : Type} → List α → List α → List α} {t tk : TA} (hE : X.E = E) (h : ∃ (b : Bool) (a : Addr) (c : Nat) (ns : List Str) (ts : List Tr), ρ[i]? = some (.dp b (.ob a c ns ts)) ∧ C = cp.c c ∧ ns.all (fun n => !(m == n)) = true ∧ DAo K cp X t ρ fun ps ρ1 => DAo K cp X tk ρ1 fun qs ρ2 => ps.length = n ∧ qs.length = l ∧ PGo g (.o i :: ps) qs ∧ ∃ ss, argS ρ2 (g (.o i :: ps) qs) = some ss ∧ (g (OP.o i :: ps) qs).length = c0 ∧ (slots (g (.o i :: ps) qs)).Nodup ∧ Cc ss (fun r ρc => Φ r (upds ρc 0 (g (.o i :: ps) qs) ρ2)) fun j ns es ρc => X.P j ns es (upds ρc 0 (g (.o i :: ps) qs) ρ2)) :
    DE K cp X (tMethW C m n l (spX K cp c0 Cc) g E (tVar i) t tk) ρ Φ := fun F A H0 H σ e hx Q k => by
  subst hE
  obtain ⟨b, a, c, ns, ts, hi, rfl, hm, h⟩ := h
  obtain ⟨w, hw, ok, tw⟩ := e.sl i _ hi
  have := tw.root (t := .ob a c ns ts) rfl
  subst this
  cases tw with
  | @ob _ dx _ fs _ _ g1 g2 g3 =>
    subst g2
    refine ⟨_, hw, a, dx, fs, rfl, g1, look_none hm, h F A H0 H σ e hx _ fun vs ps ρ1 H1 e1 m1 o1 h1 => (show DAo K cp X tk ρ1 _ from h1) F A H0 H1 σ e1 hx _ fun zs qs ρ2 H2 e2 m2 o2 ⟨l1, l2, pg, ss, hs, hn, hd, hc⟩ => ⟨(Paired.len o1).trans l1, (Paired.len o2).trans l2, ?_⟩⟩
    have o1' : Paired (OPv K cp F σ ρ2 H2) vs ps := pd_imp (fun _ _ a => a.mv m2) o1
    exact call_ct (Ψ := X.P) e2 (pg _ _ _ (.cons ⟨a, rfl, hw⟩ o1') o2) hs hn hd hc (fun v r ρ3 H3 rs φ => k v r ρ3 H3 (rs.tr (m1.tr m2)) φ) fun j es fs dd ρ' H' e3 h1 h2 h3 => hx.x j es fs dd _ _ e3 h1 h2 h3
theorem DE.methWC {n l c0 i : Nat} {C : Addr} {m : Str} {Cc : Ct} {E : XK} {g : {α : Type} → List α → List α → List α} {t tk : TA} (h : ∃ (b : Bool) (a : Addr) (c : Nat) (ns : List Str) (ts : List Tr), ρ[i]? = some (.dp b (.ob a c ns ts)) ∧ C = cp.c c ∧ ns.all (fun n => !(m == n)) = true ∧ DAo K cp X t ρ fun ps ρ1 => DAo K cp X tk ρ1 fun qs ρ2 => ps.length = n ∧ qs.length = l ∧ PGo g (.o i :: ps) qs ∧ ∃ ss, argS ρ2 (g (.o i :: ps) qs) = some ss ∧ (g (OP.o i :: ps) qs).length = c0 ∧ (slots (g (.o i :: ps) qs)).Nodup ∧ Cc ss fun r ρc => Φ r (upds ρc 0 (g (.o i :: ps) qs) ρ2)) :
    DE K cp X (tMethW C m n l (spC K cp c0 Cc) g E (tVar i) t tk) ρ Φ := fun F A H0 H σ e hx Q k => by
  obtain ⟨b, a, c, ns, ts, hi, rfl, hm, h⟩ := h
  obtain ⟨w, hw, ok, tw⟩ := e.sl i _ hi
  have := tw.root (t := .ob a c ns ts) rfl
  subst this
  cases tw with
  | @ob _ dx _ fs _ _ g1 g2 g3 =>
    subst g2
    refine ⟨_, hw, a, dx, fs, rfl, g1, look_none hm, h F A H0 H σ e hx _ fun vs ps ρ1 H1 e1 m1 o1 h1 => (show DAo K cp X tk ρ1 _ from h1) F A H0 H1 σ e1 hx _ fun zs qs ρ2 H2 e2 m2 o2 ⟨l1, l2, pg, ss, hs, hn, hd, hc⟩ => ⟨(Paired.len o1).trans l1, (Paired.len o2).trans l2, ?_⟩⟩
    have o1' : Paired (OPv K cp F σ ρ2 H2) vs ps := pd_imp (fun _ _ a => a.mv m2) o1
    exact call_ct (Ψ := fun _ _ _ _ => False) (C := fun ss Φ _ => Cc ss Φ) e2 (pg _ _ _ (.cons ⟨a, rfl, hw⟩ o1') o2) hs hn hd hc (fun v r ρ3 H3 rs φ => k v r ρ3 H3 (rs.tr (m1.tr m2)) φ) fun _ _ _ _ _ _ _ _ _ z => z.elim
/-! ### lent -/
inductive Lent (ρ : List SV) : List SV → List SV → Prop
  | nil : Lent ρ [] []
  | own {s : SV} {r rL : List SV} : Lent ρ r rL → Lent ρ (s :: r) (lend s :: rL)
  | lk {a : Addr} {i : Nat} {b : Bool} {t n : Tr} {p : List Nat} {r rL : List SV} : ρ[i]? = some (.dp b t) → t.get p = some n → n.root = some a → Lent ρ r rL → Lent ρ (.sh (.lk a) :: r) (.sh n.toD :: rL)
theorem Lent.len : ∀ {r rL : List SV}, Lent ρ r rL → rL.length = r.length
  | _, _, .nil => rfl
  | _, _, .own h => by simp [Lent.len h]
  | _, _, .lk _ _ _ h => by simp [Lent.len h]
theorem Lent.at_ : ∀ {r rL : List SV} {j : Nat} {s : SV}, Lent ρ r rL → rL[j]? = some s → ∃ s0, r[j]? = some s0 ∧ (s = lend s0 ∨ ∃ (a : Addr) (i : Nat) (b : Bool) (t n : Tr) (p : List Nat), s0 = .sh (.lk a) ∧ ρ[i]? = some (.dp b t) ∧ t.get p = some n ∧ n.root = some a ∧ s = .sh n.toD)
  | _, _, j, s, .nil, h => by simp at h
  | _, _, 0, s, .own h, q => by simp at q; subst q; exact ⟨_, rfl, .inl rfl⟩
  | _, _, j + 1, s, .own h, q => by simpa using Lent.at_ (j := j) h (by simpa using q)
  | _, _, 0, s, .lk h1 h2 h3 h, q => by simp at q; subst q; exact ⟨_, rfl, .inr ⟨_, _, _, _, _, _, rfl, h1, h2, h3, rfl⟩⟩
  | _, _, j + 1, s, .lk h1 h2 h3 h, q => by simpa using Lent.at_ (j := j) h (by simpa using q)
theorem lend_has {s : SV} {o : Option (Option V)} {a : Addr} : ¬ (lend s).has o a := by cases s <;> exact fun h => h
/-- an expression that only reads -/
theorem DE.lend {te : TE} {ρL : List SV} (hL : Lent ρ ρ ρL) (h : DE K cp XC.q te ρL fun r _ => (∃ d, r = .d d ∧ nolK true true true d = true ∧ Φ (.d d) ρ) ∨ ∃ ds, r = .n (.lst ds) ∧ nolKA true true true ds = true ∧ Φ (.n (.lst ds)) ρ) : DE K cp X te ρ Φ := fun F A H0 H σ e hx Q kk => by
  let F' : Addr → Prop := fun a => F a ∧ ¬ ∃ i, DD.own σ ρ i a
  have noO : ∀ i a, ¬ DD.own σ ρL i a := fun i a ⟨s, q1, q2⟩ => by
    obtain ⟨s0, h1, h2⟩ := hL.at_ q1
    rcases h2 with rfl | ⟨_, _, _, _, _, _, _, _, _, _, rfl⟩
    · exact lend_has q2
    · exact q2
  have gF : ∀ a, Gv F' σ ρL a → F' a := fun a g => g.elim id fun ⟨i, o⟩ => (noO i a o).elim
  have gS : ∀ a, F' a → Gv F σ ρ a := fun a g => .inl g.1
  have mS : Mv (Gv F σ ρ) H (Gv F' σ ρL) H := Mv.sub fun a g => gS a (gF a g)
  have eL : En K cp F' ⟨[], fun _ => false, fun _ => .non⟩ H H σ ρL := by
    refine ⟨by rw [hL.len]; exact e.len, fun a f => e.tr a f.1, fun a o _ h => .of h, e.tb, fun y hy => (by cases hy), fun i j a o1 _ => (noO i a o1).elim, fun i b0 c0 a q1 q2 => (noO i a (.w q1 q2)).elim, fun i b0 t0 a q1 q2 => (noO i a (.t q1 q2)).elim, fun i s hs => ?_⟩
    obtain ⟨s0, h1, h2⟩ := hL.at_ hs
    have q := e.sl i s0 h1
    rcases h2 with rfl | ⟨a, i2, b, t, n, p, rfl, g1, g2, g3, rfl⟩
    · cases s0 with
      | no => trivial
      | sh d => obtain ⟨v, q1, q2⟩ := q; exact ⟨v, q1, Dv.mv mS _ _ q2⟩
      | ow b0 c =>
        obtain ⟨a, q1, u, q2, q3⟩ := q
        exact ⟨_, q1, OwOk.sh ⟨u, q2, q3.mv mS⟩ fun g => (gF a g).2 ⟨i, .w h1 q1⟩⟩
      | dp b0 t =>
        obtain ⟨v, q1, ok, q3⟩ := q
        exact ⟨v, q1, q3.toD mS fun a ha g => (gF a g).2 ⟨i, .t h1 ha⟩⟩
    · obtain ⟨v, q1, q2⟩ := q
      cases q2
      exact ⟨_, q1, (node_v e g1 g2 g3).toD mS fun x hx g => (gF x g).2 ⟨i2, .t g1 (get_foot g2 x hx)⟩⟩
  have keep : ∀ {H2 : Hp}, (∀ a o, H a = some o → Sm o H2 a) → Tabs cp.T H2 → En K cp F A H0 H2 σ ρ ∧ Mv (Gv F σ ρ) H (Gv F σ ρ) H2 := fun {H2} sm tb => by
    have m : Mv (Gv F σ ρ) H (Gv F σ ρ) H2 := ⟨fun a o n h => ⟨n, sm a o h⟩⟩
    refine en_upd e Alike.rfl' (fun a o _ h => sm a o h) tb (fun i b ds a h1 h2 => ?_) fun i b t h1 a _ u hu hk => (sm a u hu).to fun qs z => by subst z; exact hk
    obtain ⟨a', q1, u, q2, q3⟩ := e.sl i _ h1
    rw [h2] at q1; cases q1
    exact ⟨u, (sm a u q2).to q3.nt, q3.mv m⟩
  -- what is not of the kinds that are owned is known to all
  have hg : ∀ {H2 : Hp}, En K cp F A H0 H2 σ ρ → (∀ (i : Nat) (b : Bool) (c : DD.D), ρ[i]? = some (.ow b c) → True) → ∀ a, Gv F σ ρ a → F' a ∨ ∃ o, H2 a = some o ∧ hk true true true o := fun {H2} e2 _ a g => by
    by_cases z : ∃ i, DD.own σ ρ i a
    · obtain ⟨i, z⟩ := z
      have : ∃ u, H2 a = some u ∧ OwK u := by
        rcases z.is with ⟨b0, c, z1, z2⟩ | ⟨b0, t, z1, z2⟩
        · obtain ⟨a', q1, u, q2, q3⟩ := e2.sl i _ z1
          rw [z2] at q1; cases q1
          exact ⟨u, q2, q3.kd⟩
        · obtain ⟨v, q1, ok, q3⟩ := e2.sl i _ z1
          exact q3.there z2
      obtain ⟨u, hu, hk⟩ := this
      refine .inr ⟨u, hu, ?_⟩
      cases u <;> first | rfl | exact hk.elim
    · exact .inl ⟨g.elim id fun w => (z w).elim, z⟩
  refine h F' _ H H σ eL xq Q fun v r ρ2 H2 rs φ => ?_
  rcases φ with ⟨d, rfl, hnl, φ⟩ | ⟨ds, rfl, hnl, φ⟩
  · obtain ⟨e3, m3⟩ := keep (fun a o h => rs.1.fr a o (fun x hx => by cases hx) h) rs.1.tb
    refine kk v (.d d) ρ H2 ⟨e3, m3, Dv.nol (fun a g => (hg e3 (fun _ _ _ _ => trivial) a g).imp_left fun f => .inl f) _ _ hnl rs.2.2⟩ φ
  · obtain ⟨p, rfl, nf, h0, en, ha, mv, u, hu, ow⟩ := rs
    cases ow with
    | @lst vs _ dv =>
      -- the heap without the new list
      let Hx : Hp := fun a => if a = p then none else H2 a
      have hx' : ∀ {a : Addr}, a ≠ p → Hx a = H2 a := fun {a} n => if_neg n
      have hxp : Hx p = none := if_pos rfl
      have sx : ∀ a o, H a = some o → Sm o Hx a := fun a o ho => by
        have ne : a ≠ p := fun z => by rw [z, h0] at ho; cases ho
        exact (en.fr a o (fun x hx => by cases hx) ho).tr fun w hw => .of (by rw [hx' ne]; exact hw)
      obtain ⟨e3, m3⟩ := keep sx (tabs_keep en.tb fun a o n ho => by
        rw [hx' fun z => by rw [z, hu] at ho; cases ho; exact n trivial]; exact ho)
      have exx : Ex Hx H2 := fun a u ho => by
        have z : a ≠ p := fun z => by rw [z, hxp] at ho; cases ho
        rw [hx' z] at ho; exact ho
      have nFp : ¬ Gv F σ ρ p := fun g => by obtain ⟨o, ho, _⟩ := e.trk p g; rw [h0] at ho; cases ho
      have e4 := e3.plus hxp exx hu
      refine kk _ (.n (.lst ds)) ρ H2 ⟨p, rfl, fun f => nFp (.inl f), e.none0 h0, e4, fun x hx => (e.io x hx).1, m3.tr ((Mv.nw hxp).tr ((Mv.ex exx).tr (Mv.sub gv_plus))), _, hu, .lst (DvA.nol (fun a g => ?_) _ _ hnl dv)⟩ φ
      rcases g with (f | rfl) | o
      · exact (hg (e3.ex exx) (fun _ _ _ _ => trivial) a (.inl f)).imp_left fun f => .inl (.inl f)
      · exact .inl (.inl (.inr rfl))
      · exact (hg (e3.ex exx) (fun _ _ _ _ => trivial) a (.inr o)).imp_left fun f => .inl (.inl f)
end
end DD

end
section
set_option Elab.async false
set_option linter.all false
set_option maxRecDepth 100000
set_option maxHeartbeats 1000000
/-! Instances that hold trees, made; a child known to all from here on; dicts by tuples. -/
namespace DD
open PySem PySem.Spec PyProof.Rows L2 GL LamX
section
variable {K : PySem.W.Frag} {cp : Cb} {X : XC} {F : Addr → Prop} {A : Pass} {G : Addr → Prop} {H0 H H' H1 : Hp} {σ : L2.St} {v : V} {ρ ρ' ρ1 : List SV} {Φ : AV → List SV → Prop} {N B C : List SV → Prop} {R : AV → List SV → Prop}
/-- nothing that is told changes, but tables grow -/
theorem En.sm (e : En K cp F A H0 H σ ρ) (sm : ∀ a o, H a = some o → Sm o H' a) (tb : Tabs cp.T H') : En K cp F A H0 H' σ ρ ∧ Mv (Gv F σ ρ) H (Gv F σ ρ) H' := by
  have m : Mv (Gv F σ ρ) H (Gv F σ ρ) H' := ⟨fun a o n h => ⟨n, sm a o h⟩⟩
  refine en_upd e Alike.rfl' (fun a o _ h => sm a o h) tb (fun i b ds a h1 h2 => ?_) fun i b t h1 a _ u hu hk => (sm a u hu).to fun qs z => by subst z; exact hk
  obtain ⟨a', q1, u, q2, q3⟩ := e.sl i _ h1
  rw [h2] at q1; cases q1
  exact ⟨u, (sm a u q2).to q3.nt, q3.mv m⟩
theorem En.smL {l : List Addr} (e : En K cp F A H0 H σ ρ) (hl : ∀ a ∈ l, H a = none) (sm : ∀ a o, H a = some o → Sm o H' a) (tb : Tabs cp.T H') (ht : ∀ a ∈ l, ∃ o, H' a = some o ∧ OwK o) : En K cp (plusL F l) A H0 H' σ ρ ∧ Mv (Gv F σ ρ) H (Gv (plusL F l) σ ρ) H' := by
  classical
  let Hx : Hp := fun a => if a ∈ l then none else H' a
  have hx : ∀ {a : Addr}, a ∉ l → Hx a = H' a := fun {a} n => if_neg n
  have hxl : ∀ a ∈ l, Hx a = none := fun a h => if_pos h
  obtain ⟨e1, m1⟩ := e.sm (H' := Hx) (fun a o h => by
    have z : a ∉ l := fun z => by rw [hl a z] at h; cases h
    exact (sm a o h).tr fun w hw => .of (by rw [hx z]; exact hw)) (tabs_keep tb fun a u n h => by
    rw [hx fun z => by obtain ⟨o, ho, hk⟩ := ht a z; rw [ho] at h; cases h; exact n hk]; exact h)
  have exx : Ex Hx H' := fun a u h => by
    have z : a ∉ l := fun z => by rw [hxl a z] at h; cases h
    rw [hx z] at h; exact h
  obtain ⟨e2, m2⟩ := en_apart e1 hxl exx ht
  exact ⟨e2, m1.tr m2⟩
/-- C(..): a new instance that holds trees, as its __init__ leaves it -/
theorem make_ctT {n c : Nat} {Ci : CtX} {E : XK} {ps : List OP} {vs : List V} {ds : List D} {Q : VK} {Φ : AV → Prop} {Ψ : Nat → List Str → List D → Prop} (e1 : En K cp F A H0 H1 σ ρ1) (o1 : Paired (OPv K cp F σ ρ1 H1) vs ps) (hd : oks ps = some ds) (hn : ps.length = n)
    (hc : ∀ x, Ci (.dp true (.ob x c [] []) :: ds.map .sh) (fun r ρc => r = .d .non ∧ ∀ t : Tr, ρc[0]? = some (.dp true t) → Φ (.t t)) fun i ns es _ => Ψ i ns es)
    (k : ∀ v r ρ' H', Res K cp F A H0 σ ρ1 H1 v r ρ' H' → ρ' = ρ1 → Φ r → Q v H')
    (kx : ∀ i es fs dd H', En K cp F A H0 H' σ ρ1 → H' dd = some (exd dd fs) → DvA K cp (Gv F σ ρ1) H' (fs.map (·.2)) es → Ψ i (fs.map (·.1)) es → E (.ref (cp.x i)) (some dd) H') :
    tMake (cp.c c) (spX K cp (n + 1) Ci) [] E (fun σ' H' Q' => σ' = σ ∧ H' = H1 ∧ Q' vs H1) σ H1 Q := by
    refine ⟨rfl, rfl, ?_⟩
    intro x dx hx hdx hne
    have hxdx : upd H1 dx (.own x) x = none := by rw [upd_ne (fun z => hne z.symm)]; exact hx
    have ex1 : Ex H1 (upd (upd H1 dx (.own x)) x (.ins (cp.c c) dx [])) := (Ex.nw hdx).tr (Ex.nw hxdx)
    generalize hHm : upd (upd H1 dx (.own x)) x (.ins (cp.c c) dx []) = Hm at ex1 ⊢
    have hmx : Hm x = some (.ins (cp.c c) dx []) := by rw [← hHm]; exact upd_same
    have e2 := e1.plus hx ex1 hmx
    have dv := oks_ok o1 hd
    have m2 : Mv (Gv F σ ρ1) H1 (Gv (plus F x) σ ρ1) Hm := (Mv.nw hx).tr ((Mv.ex ex1).tr (Mv.sub gv_plus))
    have dv2 := DvA.mv m2 _ _ dv
    have gx : Gv (plus F x) σ ρ1 x := .inl (.inr rfl)
    have pr : ∀ {us : List V} {es : List D}, DvA K cp (Gv (plus F x) σ ρ1) Hm us es → Paired (PR K cp (Gv (plus F x) σ ρ1) Hm) us (es.map .sh) := by
      intro us
      induction us with
      | nil => intro es h; cases h; exact .nil
      | cons u us ih => intro es h; cases h with | cons a b => exact .cons a (ih b)
    have only : ∀ (i : Nat) (s : SV), (SV.dp true (.ob x c [] []) :: ds.map SV.sh)[i]? = some s → s.isOw → i = 0 := fun i s z ho => by
      cases i with
      | zero => rfl
      | succ i =>
        rw [List.getElem?_cons_succ, List.getElem?_map] at z
        cases q : ds[i]? with
        | none => rw [q] at z; cases z
        | some y => rw [q] at z; cases z; exact ho.elim
    have nF : ¬ F x := fun f => e1.notF hx (.inl f)
    have sm : ∀ {H' : Hp} {ρc : List SV} {F' : Addr → Prop}, Bk K cp (Gv (plus F x) σ ρ1) (.dp true (.ob x c [] []) :: ds.map .sh) (.ref x :: (vs ++ [])) Hm F' H' ρc → ∀ a u, H1 a = some u → Sm u H' a := fun {H' ρc F'} bk a u ha => by
      refine bk.hm a u (fun i s v h1 h2 h3 => ?_) (ex1 a u ha)
      have := only i s h1 (has_ow h3)
      subst this
      simp at h1
      subst h1
      have h3 : a ∈ [x] := h3
      rw [List.mem_singleton.mp h3, hx] at ha; cases ha
    refine ⟨Gv (plus F x) σ ρ1, _, _, _, by rw [List.length_cons, List.append_nil, dv.len, ← hn]; congr 1; exact (dv.len.symm.trans (Paired.len o1)), (.cons (show PR K cp (Gv (plus F x) σ ρ1) Hm (.ref x) (.dp true (.ob x c [] [])) from ⟨rfl, ⟨by simp [Tr.foot, feet], by simp [Tr.foot]⟩, fun a ha => by rw [List.mem_singleton.mp (show a ∈ [x] from ha)]; exact gx, .ob hmx rfl .nil⟩) (by rw [List.append_nil]; exact pr dv2)), e2.trk, fun i j a s t v w h1 h2 _ _ h5 h6 => (only i s h1 (has_ow h5)).trans (only j t h2 (has_ow h6)).symm, e2.tb, hc x, fun w r ρc H' F' φ hr bk => ?_, fun i es fs dd ρc H' F' ψ h1 h2 bk => ?_⟩
    · obtain ⟨er, φ⟩ := φ
      subst er
      refine ⟨by cases hr; rfl, ?_⟩
      obtain ⟨u, g1, g2, g3, g4⟩ := bk.hd 0 true _ (.ref x) rfl rfl
      have fresh : ∀ a ∈ u.foot, H1 a = none := fun a ha => by
        rcases g3 a ha with z | z
        · rw [List.mem_singleton.mp (show a ∈ [x] from z)]; exact hx
        · cases q : H1 a with
          | none => rfl
          | some o => rw [ex1 a o q] at z; cases z
      obtain ⟨e3, m3⟩ := e1.smL fresh (sm bk) bk.tb fun a ha => g4.there ha
      refine k _ (.t u) ρ1 H' ⟨g4.mv (Mv.sub fun a g => ?_) _ _ fun _ _ _ h _ => h, g2, fun a ha => ⟨fun f => e1.notF (fresh a ha) (.inl f), e1.none0 (fresh a ha)⟩, e3, fun y hy => (e1.io y hy).1, m3⟩ rfl (φ u g1)
      rcases g with (f | f) | o
      · exact (bk.hF a (.inl (.inl f))).1
      · exact bk.hT 0 true u a g1 f
      · exact (bk.hF a (.inr o)).1
    · obtain ⟨e3, m3⟩ := e1.sm (sm bk) bk.tb
      exact kx i es fs dd H' e3 h1 (DvA.mv (Mv.sub fun a g => (bk.hF a (gv_sub x a g)).1) _ _ h2) ψ
theorem DE.makeT {n c : Nat} {Ci : Ct} {E : XK} {t : TA} (h : DAo K cp X t ρ fun ps ρ1 => ∃ ds, oks ps = some ds ∧ ps.length = n ∧ ∀ x, Ci (.dp true (.ob x c [] []) :: ds.map .sh) fun r ρc => r = .d .non ∧ ∀ t : Tr, ρc[0]? = some (.dp true t) → Φ (.t t) ρ1) : DE K cp X (tMake (cp.c c) (spC K cp (n + 1) Ci) [] E t) ρ Φ := fun F A H0 H σ e hx Q k =>
  h F A H0 H σ e hx _ fun vs ps ρ1 H1 e1 m1 o1 ⟨ds, hd, hn, hc⟩ =>
    (make_ctT (Ci := fun ss Φ _ => Ci ss Φ) (Φ := fun r => Φ r ρ1) (Ψ := fun _ _ _ => False) e1 o1 hd hn hc (fun v r ρ' H' rs er φ => k v r ρ' H' (rs.tr m1) (er ▸ φ)) fun _ _ _ _ _ _ _ _ z => z.elim).2.2
/-- for .. in x, x a place that the turns leave as it is -/
theorem DS.forP {te : TE} {g : TG} {tb : TS} (h : DEo K cp X te ρ fun x ρ1 => ∃ (a : Addr) (ds : List DD.D) (I : Nat → List SV → Prop), x.pl ρ1 = some a ∧ I 0 ρ1 ∧ (∀ i ρ2, i ≤ ds.length → I i ρ2 → ∃ (j : Nat) (b : Bool) (t : Tr) (p : List Nat), ρ2[j]? = some (.dp b t) ∧ t.get p = some (.lst a (ds.map .sh))) ∧
    (∀ i d ρ2, ds[i]? = some d → I i ρ2 → DGo K cp g d ρ2 fun ρ3 => DS K cp X tb ρ3 (I (i + 1)) R N (I (i + 1))) ∧ ∀ ρ2, I ds.length ρ2 → N ρ2) : DS K cp X (tFor (iList K te) g tb) ρ N R B C := fun F A H0 H σ e hx Dd n r b c =>
  DEo.go h e (hx _) fun v x ρ1 H1 e1 m1 o1 ⟨a, ds, I, hp, i0, hpl, hs, hd⟩ => by
    have := pl_v e1 o1 hp
    subst this
    have at_ : ∀ {i : Nat} {σ' : L2.St} {ρ' : List SV} {H' : Hp}, i ≤ ds.length → I i ρ' → En K cp F A H0 H' σ' ρ' → ∃ vs, H' a = some (.lst vs) ∧ DvA K cp (Gv F σ' ρ') H' vs ds := fun {i σ' ρ' H'} hi q e' => by
      obtain ⟨j, b, t, p, h1, h2⟩ := hpl i ρ' hi q
      cases node_v e' h1 h2 rfl with
      | @lst _ vs _ g1 g2 => exact ⟨vs, g1, sh_dva.mp g2⟩
    obtain ⟨vs0, g0, _⟩ := at_ (Nat.zero_le _) i0 e1
    refine ⟨a, rfl, ⟨vs0, .inl (.inl g0)⟩, ?_⟩
    have w : Walk (Itl K a) ds.length (fun H => ∃ vs, H a = some (.lst vs) ∧ vs.length = ds.length) (fun i H x H' => H' = H ∧ ∀ vs, H a = some (.lst vs) → vs[i]? = some x) :=
      ⟨fun i H hi ⟨vs, q1, q2⟩ => ⟨vs, vs[i]'(by omega), .inl (.inl q1), List.getElem?_eq_getElem (by omega)⟩, fun H ⟨vs, q1, q2⟩ => ⟨vs, .inl (.inl q1), by omega⟩, fun i H x H' hi _ y => ⟨y.1, fun vs q => y.2 vs (.inl (.inl q))⟩⟩
    refine for_it w (fun i σ' H' => ∃ ρ', En K cp F A H0 H' σ' ρ' ∧ Mv (Gv F σ ρ1) H1 (Gv F σ' ρ') H' ∧ I i ρ') ⟨ρ1, e1, Mv.ex (Ex.rfl' _), i0⟩ (fun i σ' H' hi ⟨ρ', e', m', q⟩ => ?_) ?_ fun σ' H' ⟨ρ', e', m', q⟩ => n σ' ρ' H' e' (m1.tr m') (hd ρ' q)
    · obtain ⟨vs, q1, q2⟩ := at_ hi q e'
      exact ⟨vs, q1, q2.len⟩
    · rintro i x σ2 H2 H3 hi ⟨ρ2, e2, m2, q2⟩ ⟨rfl, y⟩
      obtain ⟨vs, q3, q4⟩ := at_ (Nat.le_of_lt hi) q2 e2
      obtain ⟨d, hd1, dv⟩ := q4.at (y vs q3)
      refine hs i d ρ2 hd1 q2 F A H0 H3 σ2 e2 x dv _ fun σ3 ρ3 e3 g3 q5 => ?_
      have m3 : Mv (Gv F σ ρ1) H1 (Gv F σ3 ρ3) H3 := m2.tr (Mv.sub g3)
      exact (show DS K cp X tb ρ3 (I (i + 1)) R N (I (i + 1)) from q5) F A H0 H3 σ3 e3 hx _ (fun σ4 ρ4 H4 e4 m4 q => ⟨ρ4, e4, m3.tr m4, q⟩) r (fun σ4 ρ4 H4 e4 m4 q => n σ4 ρ4 H4 e4 (m1.tr (m3.tr m4)) q) fun σ4 ρ4 H4 e4 m4 q => ⟨ρ4, e4, m3.tr m4, q⟩
end
end DD

end
section
set_option Elab.async false
set_option linter.all false
set_option maxRecDepth 100000
set_option maxHeartbeats 1000000
/-! Dicts by tuples of numbers and texts. -/
namespace DD
open PySem PySem.Spec PyProof.Rows L2 GL LamX
def keysOf : List D → Option (List Key)
  | [] => some []
  | d :: ds => match keyOf d, keysOf ds with
    | some k, some ks => some (k :: ks)
    | _, _ => none
/-- a tuple whose first is a number, as a key -/
def tkOf : D → Option (List Key)
  | .tup (.int i :: ds) => (keysOf ds).map (Sum.inl i :: ·)
  | _ => none
section
variable {K : PySem.W.Frag} {cp : Cb} {X : XC} {F : Addr → Prop} {A : Pass} {G : Addr → Prop} {H0 H H' H1 : Hp} {σ : L2.St} {v : V} {ρ ρ' ρ1 : List SV} {Φ : AV → List SV → Prop} {N B C : List SV → Prop} {R : AV → List SV → Prop}
theorem keys_dv : ∀ {ds : List D} {ks : List Key} {vs : List V}, keysOf ds = some ks → DvA K cp G H vs ds → vs = ks.map kV
  | [], ks, vs, h, dv => by cases h; cases dv; rfl
  | d :: ds, ks, vs, h, dv => by
    simp only [keysOf] at h
    split at h
    · rename_i k ks' h1 h2
      cases h
      cases dv with
      | cons a b => rw [key_dv h1 a, keys_dv h2 b]; rfl
    · cases h
theorem tk_dv {d : D} {kk : List Key} (h : tkOf d = some kk) (dv : Dv K cp G H v d) : ∃ b, v = .ref b ∧ H b = some (.tup (kk.map kV)) ∧ ¬ G b := by
  cases d with
  | tup ds =>
    cases ds with
    | nil => cases h
    | cons x ds =>
      cases x with
      | int i =>
        obtain ⟨ks, hk, rfl⟩ := Option.map_eq_some_iff.mp (show (keysOf ds).map (Sum.inl i :: ·) = some kk from h)
        cases dv with
        | @tup a vs _ h1 n h2 =>
          cases h2 with
          | cons p q => cases p; rw [keys_dv hk q] at h1; exact ⟨a, rfl, h1, n⟩
        | @kt a vs _ h1 h2 h3 => obtain ⟨x, hx⟩ := h3 _ List.mem_cons_self; cases hx
      | _ => cases h
  | _ => cases h
theorem dt_dt {ks : List (List Key)} {ds : List D} (h : Dt K cp G H v (.dt ks ds)) : ∃ a kvs, v = .ref a ∧ Rd H a (.dT kvs) ∧ kvs.map (·.1) = ks ∧ DvA K cp G H (kvs.map (·.2)) ds := by
  rcases h with h | ⟨a, rfl, u, h1, h⟩
  · cases h with | @dt a kvs _ _ h1 n e h2 => exact ⟨a, kvs, rfl, h1, e, h2⟩
  · cases h with | dt e h2 => exact ⟨a, _, rfl, .inl h1, e, h2⟩
theorem DE.dnewT (q : Φ (.n (.dt [] [])) ρ) : DE K cp X tDNewT ρ Φ := fun F A H0 H σ e hx Q k p hp =>
  k _ (.n (.dt [] [])) ρ _ (Rx.res (r := .n (.dt [] [])) e ⟨p, rfl, hp, Ex.nw hp, _, upd_same, .dt rfl .nil⟩) q
/-- d.get(k, e), k a tuple -/
theorem DE.get2T {td ty tx : TE} (h : DEo K cp X td ρ fun p ρ1 => (∃ ks ds, p.at ρ1 = some (.dt ks ds)) ∧ DEs K cp X ty ρ1 fun y ρ2 => DEs K cp X tx ρ2 fun z ρ3 => ∃ ks ds k, p.at ρ3 = some (.dt ks ds) ∧ tkOf y = some k ∧ Φ (.d ((lookK ks ds k).getD z)) ρ3) :
    DE K cp X (tDGet2 td ty tx) ρ Φ := fun F A H0 H σ e hx Q k =>
  h.go e hx fun v p ρ1 H1 e1 m1 o1 ⟨⟨ks, ds, hp⟩, q⟩ => by
    obtain ⟨a, kvs, rfl, r, _⟩ := dt_dt (o1.dt e1 hp)
    refine ⟨a, rfl, .inr ⟨kvs, r⟩, DEs.go (show DEs K cp X ty ρ1 _ from q) e1 hx fun w y ρ2 H2 e2 m2 dy q2 => DEs.go (show DEs K cp X tx ρ2 _ from q2) e2 hx fun u z ρ3 H3 e3 m3 dz ⟨ks, ds, kk, hp3, hk, φ⟩ => ?_⟩
    obtain ⟨a', kvs, q1, r, ek, dv⟩ := dt_dt (((o1.mv m2).mv m3).dt e3 hp3)
    cases q1
    have z := lookK_ok (k := kk) dv
    rw [ek] at z
    obtain ⟨b, rfl, hb, _⟩ := tk_dv hk (Dv.mv m3 _ _ dy)
    refine ⟨valV kvs kk, .inr ⟨kvs, kk, b, r, rfl, hb, rfl⟩, ?_⟩
    cases hl : lookK ks ds kk with
    | none =>
      rw [hl] at z φ
      rw [show valV kvs kk = none from z]
      exact k _ (.d _) ρ3 H3 ⟨e3, m1.tr (m2.tr m3), dz⟩ φ
    | some d =>
      rw [hl] at z φ
      obtain ⟨x, hx, dx⟩ := z
      rw [hx]
      exact k _ (.d d) ρ3 H3 ⟨e3, m1.tr (m2.tr m3), dx⟩ φ
/-- d[k], k a tuple there -/
theorem DE.dgetT {td ty : TE} (h : DEo K cp X td ρ fun p ρ1 => DEs K cp X ty ρ1 fun y ρ2 => ∃ ks ds k d, p.at ρ2 = some (.dt ks ds) ∧ tkOf y = some k ∧ lookK ks ds k = some d ∧ Φ (.d d) ρ2) :
    DE K cp X (tDGet td ty) ρ Φ := fun F A H0 H σ e hx Q k =>
  h.go e hx fun v p ρ1 H1 e1 m1 o1 q => DEs.go (show DEs K cp X ty ρ1 _ from q) e1 hx fun w y ρ2 H2 e2 m2 dy ⟨ks, ds, kk, d, hp, hk, hl, φ⟩ => by
    obtain ⟨a, kvs, rfl, r, ek, dv⟩ := dt_dt ((o1.mv m2).dt e2 hp)
    have z := lookK_ok (k := kk) dv
    rw [ek, hl] at z
    obtain ⟨x, hx, dx⟩ := z
    obtain ⟨b, rfl, hb, _⟩ := tk_dv hk dy
    exact ⟨a, x, rfl, .inr ⟨kvs, kk, b, r, rfl, hb, hx.symm⟩, k _ (.d d) ρ2 H2 ⟨e2, m1.tr m2, dx⟩ φ⟩
theorem own_dt {i : Nat} {b : Bool} {a : Addr} {ks : List (List Key)} {ds : List D} (e : En K cp F A H0 H σ ρ) (h : ρ[i]? = some (.ow b (.dt ks ds))) (ha : σ[i]? = some (some (.ref a))) : ∃ kvs, H a = some (.dT kvs) ∧ kvs.map (·.1) = ks ∧ DvA K cp (Gv F σ ρ) H (kvs.map (·.2)) ds := by
  obtain ⟨a', q1, u, q2, q3⟩ := e.sl i _ h
  rw [ha] at q1; cases q1
  cases q3 with
  | @dt kvs _ _ ek da => exact ⟨kvs, q2, ek, da⟩
/-- d[k] = e, d a name's own dict, k a tuple -/
theorem DS.dputK {i : Nat} {ty tv : TE} (h : DEs K cp X tv ρ fun y ρ1 => (∃ b c, ρ1[i]? = some (.ow b c)) ∧ DEs K cp X ty ρ1 fun z ρ2 => ∃ b ks ds kk, tkOf z = some kk ∧ ρ2[i]? = some (.ow b (.dt ks ds)) ∧ ks.Nodup ∧ ks.length < sizeLine ∧ N (ρ2.set i (.ow b (.dt (putKs ks kk) (putDs ks ds kk y))))) :
    DS K cp X (sDPut (tVar i) ty tv) ρ N R B C := fun F A H0 H σ e hx Dd n r b c =>
  h.go e (hx _) fun v y ρ1 H1 e1 m1 dv ⟨⟨b, c, hb⟩, q⟩ => by
    obtain ⟨a, ha, _⟩ := e1.sl i _ hb
    refine ⟨_, ha, DEs.go (show DEs K cp X ty ρ1 _ from q) e1 (hx _) fun w z ρ2 H2 e2 m2 dz ⟨b, ks, ds, kk, hk, hb, hnd, hl, hn⟩ => ?_⟩
    obtain ⟨kvs, q1, q2, q3⟩ := own_dt e2 hb ha
    subst q2
    obtain ⟨p1, p2⟩ := put_ok (Dv.mv m2 _ _ dv) hnd q3
    obtain ⟨e3, m3⟩ := en_upd1 (o' := .dT (putK kvs kk v)) (ds' := .dt (putKs (kvs.map (·.1)) kk) (putDs (kvs.map (·.1)) ds kk y)) e2 hb ha (.dt p1 p2)
    obtain ⟨b2, rfl, hb2, _⟩ := tk_dv hk dz
    exact ⟨a, _, rfl, .inr ⟨kvs, kk, b2, q1, rfl, hb2, by rw [List.length_map] at hl; exact hl, rfl⟩, n _ _ _ e3 (m1.tr (m2.tr m3)) hn⟩
end
end DD

end
section
set_option Elab.async false
set_option linter.all false
set_option maxRecDepth 100000
set_option maxHeartbeats 1000000
/-! What is owned, lent while a dict of it is walked (and locked the while). -/
namespace DD
open PySem PySem.Spec PyProof.Rows L2 GL LamX
def unlentF (F : Addr → Prop) (σ : L2.St) (ρ : List SV) : Addr → Prop := fun a => F a ∧ ¬ ∃ i, DD.own σ ρ i a
/-- data of a tree, a node of it as a mere place -/
def Tr.toDp : List Nat → Tr → D
  | [], t => t.link
  | _ :: _, .sh d => d
  | k :: p, .lst _ ts => .lst ((toDs ts).set k (match ts[k]? with | some u => Tr.toDp p u | none => .non))
  | k :: p, .dk _ ks ts => .dk ks ((toDs ts).set k (match ts[k]? with | some u => Tr.toDp p u | none => .non))
  | k :: p, .ob _ c ns ts => .ob c ns ((toDs ts).set k (match ts[k]? with | some u => Tr.toDp p u | none => .non))
section
variable {K : PySem.W.Frag} {cp : Cb} {X : XC} {F : Addr → Prop} {A : Pass} {G G' : Addr → Prop} {H0 H H' H1 Hu Hl : Hp} {σ : L2.St} {v : V} {ρ ρ' ρ1 ρL : List SV} {Φ : AV → List SV → Prop} {N B C : List SV → Prop} {R : AV → List SV → Prop}
/-- behind the lending -/
theorem lend_keep (e : En K cp F A H0 H σ ρ) (sm : ∀ a o, H a = some o → Sm o Hu a) (tb : LamX.Tabs cp.T Hu) {a : Addr} (g : Gv F σ ρ a) : unlentF F σ ρ a ∨ ∃ o, Hu a = some o ∧ hk true true true o := by
  by_cases z : ∃ i, DD.own σ ρ i a
  · obtain ⟨i, z⟩ := z
    obtain ⟨u, hu, hk⟩ := e.own_k z
    refine .inr ⟨u, (sm a u hu).to fun qs z => by subst z; exact hk, ?_⟩
    cases u <;> first | rfl | exact hk.elim
  · exact .inl ⟨g.elim id fun w => (z w).elim, z⟩
theorem lend_d (e : En K cp F A H0 H σ ρ) (sm : ∀ a o, H a = some o → Sm o Hu a) (tb : LamX.Tabs cp.T Hu) (hG : ∀ a, unlentF F σ ρ a → G a) {d : D} (hnl : nolK true true true d = true) (dv : Dv K cp G Hu v d) : Res K cp F A H0 σ ρ H v (.d d) ρ Hu := by
  obtain ⟨e3, m3⟩ := e.sm sm tb
  exact ⟨e3, m3, Dv.nol (fun a g => (lend_keep e sm tb g).imp_left (hG a)) _ _ hnl dv⟩
theorem lend_n (e : En K cp F A H0 H σ ρ) (sm : ∀ a o, H a = some o → Sm o Hu a) (tb : LamX.Tabs cp.T Hu) (hG : ∀ a, unlentF F σ ρ a → G a) {p : Addr} (h0 : H p = none) {vs : List V} (hu : Hu p = some (.lst vs)) {ds : List D} (hnl : nolKA true true true ds = true) (dv : DvA K cp (plus G p) Hu vs ds) : Res K cp F A H0 σ ρ H (.ref p) (.n (.lst ds)) ρ Hu := by
  let Hx : Hp := fun a => if a = p then none else Hu a
  have hx' : ∀ {a : Addr}, a ≠ p → Hx a = Hu a := fun {a} n => if_neg n
  have hxp : Hx p = none := if_pos rfl
  have sx : ∀ a o, H a = some o → Sm o Hx a := fun a o ho => by
    have ne : a ≠ p := fun z => by rw [z, h0] at ho; cases ho
    exact (sm a o ho).tr fun w hw => .of (by rw [hx' ne]; exact hw)
  have tx : LamX.Tabs cp.T Hx := tabs_keep tb fun a o n ho => by
    rw [hx' fun z => by rw [z, hu] at ho; cases ho; exact n trivial]; exact ho
  obtain ⟨e3, m3⟩ := e.sm sx tx
  have exx : Ex Hx Hu := fun a u ho => by
    have z : a ≠ p := fun z => by rw [z, hxp] at ho; cases ho
    rw [hx' z] at ho; exact ho
  have nFp : ¬ Gv F σ ρ p := fun g => by obtain ⟨o, ho, _⟩ := e.trk p g; rw [h0] at ho; cases ho
  have e4 := e3.plus hxp exx hu
  refine ⟨p, rfl, fun f => nFp (.inl f), e.none0 h0, e4, fun x hx => (e.io x hx).1, m3.tr ((Mv.nw hxp).tr ((Mv.ex exx).tr (Mv.sub gv_plus))), _, hu, .lst (DvA.nol (fun a g => ?_) _ _ hnl dv)⟩
  rcases g with (f | rfl) | o
  · exact (lend_keep e sm tb (.inl f)).imp_left fun f => .inl (hG a f)
  · exact .inl (.inr rfl)
  · exact (lend_keep e sm tb (.inr o)).imp_left fun f => .inl (hG a f)
def IsDict (u : HO) : Prop := (∃ kvs, u = .dK kvs) ∨ ∃ kvs, u = .dT kvs
theorem IsDict.k {u : HO} (h : IsDict u) : OwK u := by rcases h with ⟨_, rfl⟩ | ⟨_, rfl⟩ <;> trivial
theorem IsDict.m {u : HO} (h : IsDict u) : Mut (some u) := by rcases h with ⟨_, rfl⟩ | ⟨_, rfl⟩ <;> trivial
theorem IsDict.lock {u : HO} (h : IsDict u) {a : Addr} {od : Obj} (hu : H a = some u) : Rl H (upd H a (.frz od u)) := by rcases h with ⟨_, rfl⟩ | ⟨_, rfl⟩; exact Rl.lock hu; exact Rl.lockT hu
theorem IsDict.free {u : HO} (h : IsDict u) {a : Addr} {od : Obj} (hu : H a = some (.frz od u)) : Rl H (upd H a u) := by rcases h with ⟨_, rfl⟩ | ⟨_, rfl⟩; exact Rl.free hu; exact Rl.freeT hu
/-- an expression that only reads, what is owned lent to it, one dict of it locked -/
theorem lock_core {a : Addr} {u : HO} {od : Obj} {i : Nat} {te : TE} {Q : VK} (e : En K cp F A H0 H σ ρ) (hu : H a = some u) (hd : IsDict u) (oa : DD.own σ ρ i a) (hlen : ρL.length = ρ.length)
    (hsl : ∀ (j : Nat) (s : SV), ρL[j]? = some s → ¬ s.isOw ∧ SOk K cp (unlentF F σ ρ) (upd H a (.frz od u)) σ[j]? s)
    (h : DE K cp XC.q te ρL fun r _ => (∃ d, r = .d d ∧ nolK true true true d = true ∧ Φ (.d d) ρ) ∨ ∃ ds, r = .n (.lst ds) ∧ nolKA true true true ds = true ∧ Φ (.n (.lst ds)) ρ)
    (kk : ∀ v r ρ' H', Res K cp F A H0 σ ρ H v r ρ' H' → Φ r ρ' → Q v H') : te σ (upd H a (.frz od u)) fun v H' => H' a = some (.frz od u) ∧ Q v (upd H' a u) := by
  generalize hl : upd H a (.frz od u) = Hl at *
  have hla : Hl a = some (.frz od u) := by rw [← hl]; exact upd_same
  have hln : ∀ {x}, x ≠ a → Hl x = H x := fun {x} n => by rw [← hl]; exact upd_ne n
  have noO : ∀ i a, ¬ DD.own σ ρL i a := fun i a ⟨s, q1, q2⟩ => (hsl i s q1).1 (has_ow q2)
  have gF : ∀ a, Gv (unlentF F σ ρ) σ ρL a → unlentF F σ ρ a := fun a g => g.elim id fun ⟨i, o⟩ => (noO i a o).elim
  have tbl : LamX.Tabs cp.T Hl := tabs_keep e.tb fun x o n hx => by rw [hln fun z => by rw [z, hu] at hx; cases hx; exact n hd.k]; exact hx
  have eL : En K cp (unlentF F σ ρ) ⟨[], fun _ => false, fun _ => .non⟩ Hl Hl σ ρL := by
    refine ⟨by rw [hlen]; exact e.len, fun x f => ?_, fun a o _ h => .of h, tbl, fun y hy => (by cases hy), fun i j a o1 _ => (noO i a o1).elim, fun i b0 c0 a q1 q2 => (noO i a (.w q1 q2)).elim, fun i b0 t0 a q1 q2 => (noO i a (.t q1 q2)).elim, fun j s hs => ?_⟩
    · rw [hln fun z => f.2 ⟨i, by rw [z]; exact oa⟩]; exact e.tr x f.1
    · have q := hsl j s hs
      exact q.2.mv (Mv.sub gF) fun x w hw => (q.1 (has_ow hw)).elim
  refine h _ _ Hl Hl σ eL xq _ fun v r ρ2 H2 rs φ => ?_
  have fin : ∀ {F2 : Addr → Prop}, En K cp F2 ⟨[], fun _ => false, fun _ => .non⟩ Hl H2 σ ρ2 → H2 a = some (.frz od u) ∧ Rl H2 (upd H2 a u) ∧ (∀ x o, H x = some o → Sm o (upd H2 a u) x) ∧ LamX.Tabs cp.T (upd H2 a u) := fun {F2} e2 => by
    have h2 : H2 a = some (.frz od u) := e2.fr a _ (fun x hx => by cases hx) hla
    refine ⟨h2, hd.free h2, fun x o ho => ?_, fun p hp => ?_⟩
    · by_cases z : x = a
      · subst z; rw [hu] at ho; cases ho; exact .of upd_same
      · exact (e2.fr x o (fun x hx => by cases hx) (by rw [hln z]; exact ho)).tr fun w hw => .of (by rw [upd_ne z]; exact hw)
    · obtain ⟨ps, h1, q2, h3⟩ := e2.tb p hp
      refine ⟨ps, by rw [upd_ne (fun z => by rw [z, h2] at h1; cases h1)]; exact h1, q2, fun pos cv hc => ?_⟩
      obtain ⟨c, q, hcd⟩ := h3 pos cv hc
      exact ⟨c, q, by rw [upd_ne (fun z => by rw [z, h2] at hcd; cases hcd)]; exact hcd⟩
  rcases φ with ⟨d, rfl, hnl, φ⟩ | ⟨ds, rfl, hnl, φ⟩
  · obtain ⟨q1, q2, q3, q4⟩ := fin rs.1
    exact ⟨q1, kk v (.d d) ρ _ (lend_d e q3 q4 (fun a f => .inl f) hnl (rs.2.2.rl q2)) φ⟩
  · obtain ⟨p, rfl, nf, h0, en, ha, mv, w, hw, ow⟩ := rs
    obtain ⟨q1, q2, q3, q4⟩ := fin en
    cases ow with
    | @lst vs _ dv =>
      have ne : p ≠ a := fun z => by rw [z, hla] at h0; cases h0
      refine ⟨q1, kk _ (.n (.lst ds)) ρ _ (lend_n (G := Gv (unlentF F σ ρ) σ ρ2) (vs := vs) e q3 q4 (fun a f => .inl f) (by rw [← hln ne]; exact h0) (by rw [upd_ne ne]; exact hw) hnl (DvA.mv (Mv.sub fun x g => ?_) _ _ (dv.rl q2))) φ⟩
      rcases g with (f | f) | o
      · exact .inl (.inl f)
      · exact .inr f
      · exact .inl (.inr o)
/-- all slots lent -/
theorem lend_sl {a : Addr} {u : HO} {od : Obj} {i : Nat} (e : En K cp F A H0 H σ ρ) (hu : H a = some u) (hd : IsDict u) (oa : DD.own σ ρ i a) {j : Nat} {s : SV} (hs : ρ[j]? = some s) (hj : j ≠ i) : SOk K cp (unlentF F σ ρ) (upd H a (.frz od u)) σ[j]? (lend s) := by
  have q := e.sl j s hs
  have rl := hd.lock (od := od) hu
  have ms : Mv (Gv F σ ρ) H (unlentF F σ ρ) H := Mv.sub fun a g => .inl g.1
  have nA : ∀ x, DD.own σ ρ j x → x ≠ a := fun x o z => hj (e.dj j i a (by rw [← z]; exact o) oa)
  cases s with
  | no => trivial
  | sh d => obtain ⟨v, q1, q2⟩ := q; exact ⟨v, q1, (q2.rl rl).mv (Mv.sub fun a g => .inl g.1)⟩
  | ow b0 c =>
    obtain ⟨x, q1, w, q2, q3⟩ := q
    exact ⟨_, q1, (OwOk.sh ⟨w, q2, q3.mv ms⟩ fun g => g.2 ⟨j, .w hs q1⟩).rl rl⟩
  | dp b0 t =>
    obtain ⟨v, q1, ok, q3⟩ := q
    exact ⟨v, q1, (q3.toD ms fun x hx g => g.2 ⟨j, .t hs hx⟩).rl rl⟩
theorem toDs_len : ∀ ts : List Tr, (toDs ts).length = ts.length
  | [] => rfl
  | t :: ts => by simp [toDs, toDs_len ts]
theorem tra_toD {Hl : Hp} {d : D} : ∀ {vs : List V} {ts : List Tr} {k : Nat} {u : Tr}, TrA K cp G H vs ts → ts[k]? = some u → (∀ v, TrV K cp G H v u → Dv K cp G' Hl v d) → (∀ (j : Nat) (w : Tr), j ≠ k → ts[j]? = some w → ∀ v, TrV K cp G H v w → Dv K cp G' Hl v w.toD) → DvA K cp G' Hl vs ((toDs ts).set k d)
  | [], [], k, _, _, h, _, _ => by simp at h
  | v :: vs, t :: ts, 0, _, .cons a b, e, h1, h2 => by
    simp at e; subst e
    refine .cons (h1 _ a) ?_
    have : ∀ {vs : List V} {us : List Tr}, TrA K cp G H vs us → (∀ w ∈ us, ∀ v, TrV K cp G H v w → Dv K cp G' Hl v w.toD) → DvA K cp G' Hl vs (toDs us) := by
      intro vs
      induction vs with
      | nil => intro us h _; cases h; exact .nil
      | cons x xs ih => intro us h k; cases h with | cons a b => exact .cons (k _ List.mem_cons_self _ a) (ih b fun w hw => k w (List.mem_cons_of_mem _ hw))
    refine this b fun w hw => ?_
    obtain ⟨j, hj, e⟩ := List.mem_iff_getElem.mp hw
    exact h2 (j + 1) w (by omega) (by simpa [List.getElem?_eq_some_iff] using ⟨hj, e⟩)
  | v :: vs, t :: ts, k + 1, _, .cons a b, e, h1, h2 => .cons (h2 0 t (by omega) rfl _ a) (tra_toD b (by simpa using e) h1 fun j w n q => h2 (j + 1) w (by omega) (by simpa using q))
theorem feet_apart : ∀ {ts : List Tr} {j k : Nat} {w u : Tr} {a : Addr}, (feet ts).Nodup → ts[j]? = some w → ts[k]? = some u → j ≠ k → a ∈ w.foot → a ∈ u.foot → False
  | [], j, k, w, u, a, _, h, _, _, _, _ => by simp at h
  | x :: xs, j, k, w, u, a, nd, h1, h2, ne, a1, a2 => by
    have nd := List.nodup_append.mp (show (x.foot ++ feet xs).Nodup from nd)
    cases j with
    | zero =>
      simp at h1; subst h1
      cases k with
      | zero => exact ne rfl
      | succ k => exact nd.2.2 a a1 a (feet_mem.mpr ⟨u, List.mem_of_getElem? (show xs[k]? = some u by simpa using h2), a2⟩) rfl
    | succ j =>
      have h1 : xs[j]? = some w := by simpa using h1
      cases k with
      | zero =>
        simp at h2; subst h2
        exact nd.2.2 a a2 a (feet_mem.mpr ⟨w, List.mem_of_getElem? h1, a1⟩) rfl
      | succ k => exact feet_apart nd.2.1 h1 (show xs[k]? = some u by simpa using h2) (fun z => ne (by rw [z])) a1 a2
/-- the tree's data while a node of it is locked -/
theorem TrV.toDp {a : Addr} (rl : Rl H Hl) (hln : ∀ x, x ≠ a → Hl x = H x) (m : ∀ x, G' x → G x) : ∀ {p : List Nat} {t n : Tr} {v : V}, TrV K cp G H v t → t.foot.Nodup → (∀ x ∈ t.foot, ¬ G' x) → t.get p = some n → n.root = some a → Dv K cp G' Hl v (t.toDp p)
  | [], t, n, v, h, nd, nG, e, er => by
    cases e
    have := h.root er
    subst this
    cases t <;> first | (cases er; done) | (cases er; exact .lk _)
  | k :: p, t, n, v, h, nd, nG, e, er => by
    obtain ⟨u, hu, e⟩ := Option.bind_eq_some_iff.mp (show (t.kids[k]?).bind (Tr.get p) = some n from e)
    have hm := List.mem_of_getElem? hu
    obtain ⟨r, er2, ef⟩ := foot_kids hm
    rw [ef] at nd nG
    have nd' := List.nodup_cons.mp nd
    have an : a ∈ u.foot := get_foot e a (root_foot er)
    have uf : ∀ {w : Tr} {x}, w ∈ t.kids → x ∈ w.foot → x ∈ feet t.kids := fun {w x} hw z => feet_mem.mpr ⟨w, hw, z⟩
    have ra : r ≠ a := fun z => nd'.1 (by rw [z]; exact uf hm an)
    have nu : u.foot.Nodup := by
      have : ∀ {ts : List Tr}, (feet ts).Nodup → u ∈ ts → u.foot.Nodup := by
        intro ts
        induction ts with
        | nil => intro _ h; cases h
        | cons x xs ih =>
          intro nd h
          have nd := List.nodup_append.mp (show (x.foot ++ feet xs).Nodup from nd)
          rcases List.mem_cons.mp h with rfl | h
          · exact nd.1
          · exact ih nd.2.1 h
      exact this nd'.2 hm
    have go : ∀ {vs : List V}, TrA K cp G H vs t.kids → DvA K cp G' Hl vs ((toDs t.kids).set k (match t.kids[k]? with | some u => Tr.toDp p u | none => .non)) := fun {vs} h2 => by
      rw [hu]
      refine tra_toD h2 hu (fun v hv => TrV.toDp rl hln m hv nu (fun x hx => nG x (List.mem_cons_of_mem _ (uf hm hx))) e er) fun j w ne hw v hv => ?_
      have hwm := List.mem_of_getElem? hw
      have := (hv.rl rl _ _ fun x hx u hu => by rw [hln x fun z => feet_apart nd'.2 hw ‹_› ne hx (by rw [z]; exact an)]; exact hu)
      exact TrV.toD (Mv.sub m) (fun x hx => nG x (List.mem_cons_of_mem _ (uf hwm hx))) this
    have hr : ∀ o, H r = some o → Hl r = some o := fun o h => by rw [hln r ra]; exact h
    have nr : ¬ G' r := nG r List.mem_cons_self
    cases h with
    | sh h => simp [Tr.kids] at hu
    | lst h1 h2 => cases er2; exact .lst (hr _ h1) nr (go h2)
    | dk h1 e1 h2 => cases er2; exact .dk (.inl (hr _ h1)) nr e1 (go h2)
    | ob h1 e1 h2 => cases er2; exact .ob (hr _ h1) nr e1 (go h2)
theorem intsV : ∀ {vs : List V} {is : List Int}, DvA K cp G H vs (is.map D.int) → vs = is.map V.int
  | [], [], _ => rfl
  | _ :: _, i :: is, h => by cases h with | cons a b => cases a; rw [intsV b]; rfl
/-- a dict of a tree, of numbers, walked while all that is owned is lent -/
theorem DE.lockT {te : TE} {i : Nat} {b : Bool} {t : Tr} {p : List Nat} {a : Addr} {ks : List Key} {is : List Int} (hi : ρ[i]? = some (.dp b t)) (hg : t.get p = some (.dk a ks ((is.map D.int).map .sh)))
    (h : ∀ (od : Obj) (kvs : List (Key × V)), kvs.map (·.1) = ks → kvs.map (·.2) = is.map V.int → DE K cp XC.q (fun σ H Q => H a = some (.frz od (.dK kvs)) → te σ H Q) ((ρ.map DD.lend).set i (.sh (t.toDp p))) fun r _ => (∃ d, r = .d d ∧ nolK true true true d = true ∧ Φ (.d d) ρ) ∨ ∃ ds, r = .n (.lst ds) ∧ nolKA true true true ds = true ∧ Φ (.n (.lst ds)) ρ) :
    DE K cp X (tLockE te) ρ Φ := fun F A H0 H σ e hx Q k => by
  obtain ⟨w, hw, ok, tv⟩ := e.sl i _ hi
  have oa : DD.own σ ρ i a := .t hi (get_foot hg a (root_foot rfl))
  cases node_v e hi hg rfl with
  | @dk _ kvs _ _ h1 ek h2 =>
    have hd : IsDict (.dK kvs) := .inl ⟨_, rfl⟩
    refine ⟨a, .dK kvs, h1, hd.m, fun od => ?_⟩
    refine lock_core (ρL := (ρ.map DD.lend).set i (.sh (t.toDp p))) (te := fun σ H Q => H a = some (.frz od (.dK kvs)) → te σ H Q) e h1 hd oa (by rw [List.length_set, List.length_map]) (fun j s hs => ?_) (h od kvs ek (intsV (sh_dva.mp h2))) (fun v r ρ' H' rs φ => k v r ρ' H' rs φ) upd_same
    by_cases z : i = j
    · subst z
      rw [List.getElem?_set_self (by rw [List.length_map]; exact (List.getElem?_eq_some_iff.mp hi).1)] at hs
      cases hs
      exact ⟨id, _, hw, TrV.toDp (hd.lock h1) (fun x n => upd_ne n) (fun x g => .inl g.1) tv ok.1 (fun x hx g => g.2 ⟨i, .t hi hx⟩) hg rfl⟩
    · rw [List.getElem?_set_ne z, List.getElem?_map] at hs
      cases q : ρ[j]? with
      | none => rw [q] at hs; cases hs
      | some s0 =>
        rw [q] at hs; cases hs
        exact ⟨by cases s0 <;> exact id, lend_sl e h1 hd oa q fun z2 => z z2.symm⟩
/-- .items() of a dict that is locked, by its place -/
theorem DI.itemsL {te : TE} {a : Addr} {od : Obj} {kvs : List (Key × V)} {ks : List Key} {is : List Int} {Ψ : List D → List SV → Prop} (ek : kvs.map (·.1) = ks) (ev : kvs.map (·.2) = is.map V.int)
    (h : DE K cp X te ρ fun r ρ1 => r = .d (.lk a) ∧ Ψ ((ks.zip is).map fun p => .tup [keyD p.1, .int p.2]) ρ1) :
    DI K cp X (fun σ H R => H a = some (.frz od (.dK kvs)) → iItems te σ H R) ρ Ψ := fun F A H0 H σ e hx Q k ha =>
  h F A H0 H σ e hx _ fun v r ρ1 H1 rs ⟨er, ψ⟩ => by
    subst er
    obtain ⟨e1, m1, dv⟩ := rs
    cases dv
    have nA : ¬ Gv F σ ρ a := fun g => by obtain ⟨o, ho, hk⟩ := e.trk a g; rw [ha] at ho; cases ho; exact hk
    obtain ⟨n1, ha1⟩ := m1.k a _ nA ha
    have ha1 : H1 a = some (.frz od (.dK kvs)) := ha1
    refine ⟨a, od, kvs, rfl, ha1, k _ _ ρ1 H1 e1 m1 (wk_pair (n := kvs.length) ?_ (DD.walk_items.mono (fun H' ⟨G', m⟩ => (m.k a _ n1 ha1).2) fun _ _ _ _ _ _ y => y) fun j x y hx hy => ?_) ψ⟩
    · rw [List.length_map, List.length_zip, ← ek, List.length_map, ← List.length_map (f := V.int), ← ev, List.length_map, Nat.min_self]
    · obtain ⟨p, hp, rfl⟩ := Option.map_eq_some_iff.mp hx
      rw [hp] at hy
      cases hy
      have h1 : ks[j]? = some p.1 := by rw [← ek, List.getElem?_map, hp]; rfl
      have h2 : (is.map V.int)[j]? = some p.2 := by rw [← ev, List.getElem?_map, hp]; rfl
      rw [List.getElem?_map] at h2
      obtain ⟨z, hz, q⟩ := Option.map_eq_some_iff.mp h2
      refine ⟨keyD p.1, .int z, ?_, ?_, (show Dv K cp (Gv F σ ρ1) H1 p.2 (.int z) by rw [← q]; exact .int z)⟩
      · have hzz : (ks.zip is)[j]? = some (p.1, z) := List.getElem?_zip_eq_some.mpr ⟨h1, hz⟩
        rw [List.getElem?_map, hzz]; rfl
      · cases p.1 with
        | inl i => exact .int i
        | inr x => exact .str x
/-- [e for k, v in x.items() if t], x a dict within a tree -/
theorem DE.lcItemsT {tx : TE} {i : Nat} {b : Bool} {t : Tr} {p : List Nat} {a : Addr} {ks : List Key} {is : List Int} {g : TG} {tt : TT} {te : TE} {vs : List Nat} (hi : ρ[i]? = some (.dp b t)) (hg : t.get p = some (.dk a ks ((is.map D.int).map .sh)))
    (hx : DE K cp XC.q tx ((ρ.map DD.lend).set i (.sh (t.toDp p))) fun r ρ1 => r = .d (.lk a) ∧ ρ1 = (ρ.map DD.lend).set i (.sh (t.toDp p)))
    (h : ∀ wi : TI, (∀ Ψ : List D → List SV → Prop, Ψ ((ks.zip is).map fun p => .tup [keyD p.1, .int p.2]) ((ρ.map DD.lend).set i (.sh (t.toDp p))) → DI K cp XC.q wi ((ρ.map DD.lend).set i (.sh (t.toDp p))) Ψ) → DE K cp XC.q (tLc wi g tt te vs) ((ρ.map DD.lend).set i (.sh (t.toDp p))) fun r _ => (∃ d, r = .d d ∧ nolK true true true d = true ∧ Φ (.d d) ρ) ∨ ∃ ds, r = .n (.lst ds) ∧ nolKA true true true ds = true ∧ Φ (.n (.lst ds)) ρ) :
    DE K cp X (tLockE (tLc (iItems tx) g tt te vs)) ρ Φ :=
  DE.lockT hi hg fun od kvs ek ev => h (fun σ H R => H a = some (.frz od (.dK kvs)) → iItems tx σ H R) fun Ψ ψ => DI.itemsL ek ev (DE.mono hx fun r ρ1 q => ⟨q.1, q.2 ▸ ψ⟩)
/-- for .. in d within an expression, d a name's own dict by tuples -/
theorem DE.lcKeysT {i : Nat} {b : Bool} {ks : List (List Key)} {ds : List D} {g : TG} {tt : TT} {te : TE} {vs : List Nat} (hs : ρ[i]? = some (.ow b (.dt ks ds)))
    (h : ∀ wi : TI, (∀ Ψ : List D → List SV → Prop, Ψ (ks.map fun k => .tup (k.map keyD)) (ρ.map DD.lend) → DI K cp XC.q wi (ρ.map DD.lend) Ψ) → DE K cp XC.q (tLc wi g tt te vs) (ρ.map DD.lend) fun r _ => (∃ d, r = .d d ∧ nolK true true true d = true ∧ Φ (.d d) ρ) ∨ ∃ ds, r = .n (.lst ds) ∧ nolKA true true true ds = true ∧ Φ (.n (.lst ds)) ρ) :
    DE K cp X (tLockE (tLc (iKeys (tVar i)) g tt te vs)) ρ Φ := fun F A H0 H σ e hx Q k => by
  obtain ⟨a, ha, u, hu, how⟩ := e.sl i _ hs
  have oa : DD.own σ ρ i a := .w hs ha
  cases how with
  | @dt kvs _ _ ek da =>
    have hd : IsDict (.dT kvs) := .inr ⟨_, rfl⟩
    refine ⟨a, .dT kvs, hu, hd.m, fun od => ?_⟩
    refine lock_core (ρL := ρ.map DD.lend) (te := fun σ H Q => σ[i]? = some (some (.ref a)) → H a = some (.frz od (.dT kvs)) → tLc (iKeys (tVar i)) g tt te vs σ H Q) e hu hd oa (by rw [List.length_map]) (fun j s hs2 => ?_) ?_ (fun v r ρ' H' rs φ => k v r ρ' H' rs φ) ha upd_same
    · rw [List.getElem?_map] at hs2
      cases q : ρ[j]? with
      | none => rw [q] at hs2; cases hs2
      | some s0 =>
        rw [q] at hs2; cases hs2
        refine ⟨by cases s0 <;> exact id, ?_⟩
        by_cases z : j = i
        · subst z
          rw [hs] at q; cases q
          exact ⟨_, ha, (OwOk.sh ⟨_, hu, (OwV.dt ek da).mv (Mv.sub fun a g => .inl g.1)⟩ fun g => g.2 ⟨_, oa⟩).rl (hd.lock hu)⟩
        · exact lend_sl e hu hd oa q z
    · refine h (fun σ H R => σ[i]? = some (some (.ref a)) → H a = some (.frz od (.dT kvs)) → iKeys (tVar i) σ H R) fun Ψ ψ => fun F A H0 H σ e hx Q k h1 h2 => ?_
      have nA : ¬ Gv F σ (ρ.map DD.lend) a := fun g => by obtain ⟨o, ho, hk⟩ := e.trk a g; rw [h2] at ho; cases ho; exact hk
      refine ⟨_, h1, a, od, rfl, .inr ⟨kvs, h2, k _ _ _ H e (Mv.ex (Ex.rfl' _)) ?_ ψ⟩⟩
      have hlen : kvs.length = (ks.map fun k => D.tup (k.map keyD)).length := by rw [List.length_map, ← ek, List.length_map]
      unfold Wk
      rw [← hlen]
      refine L2.walk_keysT.mono (fun H' ⟨G', m⟩ => (m.k a _ nA h2).2) fun j H1 x H2 hj _ ⟨e1, kk, vv, q, h3, h4, h5⟩ => ?_
      subst e1
      refine ⟨Ex.rfl' _, fun G m tr => ⟨.tup (kk.map keyD), ?_, ?_⟩⟩
      · rw [List.getElem?_map, ← ek, List.getElem?_map, h3]; rfl
      · subst h4
        refine .tup h5 (fun g => by obtain ⟨o, ho, hk⟩ := tr q g; rw [h5] at ho; cases ho; exact hk) ?_
        have : ∀ ks : List Key, DvA K cp G H2 (ks.map kV) (ks.map keyD) := fun ks => by
          induction ks with
          | nil => exact .nil
          | cons k ks ih => exact .cons (by cases k with | inl i => exact .int i | inr x => exact .str x) ih
        exact this kk
end
end DD

end
section
set_option Elab.async false
set_option linter.all false
set_option maxRecDepth 100000
set_option maxHeartbeats 1000000
/-! C() with no word; three names at once, a tree the first; a loop over a list that was passed to be changed, and isn't. -/
namespace GL
open PySem PySem.Spec PyProof.Rows L2
section
variable {X : Cx} {cx : CXT} {k : Nat} {f C : Addr} {fd : FuncData} {ps : List Str} {sp : Sp} {dvs : List V} {ds : List Value} {E : XK} {x : Str} {p pos : Pos}
theorem pe_makeG0 (M : Mk X.K C f) (F : FnG X.prog X.w X.K X.mg X.base cx k f fd ps sp) (gd : X.A.guards = some []) (hr : Room (k + 1) X.A) (hg : Gl X x) (hm : X.mg x = some (.ref C)) (hb : Binds X.K fd ps ds) (hd : Vals dvs ds) (hx : Passes cx X E)
    (hdb : (x == ("__debug__" : Str)) = false := by decide) :
    PE X (.Call (.Name x p) [] [] pos) (tMake C sp dvs E tNil) := by
  refine ⟨fun pins s σ H Q I h => wpAny_Call_Name_kw (ld_glob I hg hm ?_ hdb)⟩
  exact PySem.W.callWith_K0 I.kIn M.kp (run_makeG (us := []) M F gd hr hb hd hx I .nil h)
end
end GL
namespace DD
open PySem PySem.Spec PyProof.Rows L2 GL LamX
section
variable {K : PySem.W.Frag} {cp : Cb} {X : XC} {F : Addr → Prop} {A : Pass} {G : Addr → Prop} {H0 H H' H1 : Hp} {σ : L2.St} {v : V} {ρ ρ' ρ1 : List SV} {Φ : AV → List SV → Prop} {N B C : List SV → Prop} {R : AV → List SV → Prop}
/-- x, y, z = (C(), {}, []) -/
theorem DS.par3D {i j l : Nat} {t1 : TE} (h : DE K cp X t1 ρ fun r ρ1 => ∃ t, r = .t t ∧ free ρ1 i ∧ free ρ1 j ∧ free ρ1 l ∧ i ≠ j ∧ i ≠ l ∧ j ≠ l ∧ N (((ρ1.set i (.dp false t)).set j (.ow false (.dt [] []))).set l (.ow false (.lst [])))) :
    DS K cp X (tPar3 i j l (tCons t1 (tCons tDNewT (tCons (tLst tNil) tNil)))) ρ N R B C := fun F A H0 H σ e hx Dd n r b c =>
  h F A H0 H σ e (hx _) _ fun v r ρ1 H1 rs ⟨t, hr, fi, fj, fl, hij, hil, hjl, q⟩ => by
    subst hr
    obtain ⟨tv, ok, nf, en, ha, mv⟩ := rs
    intro p hp
    refine ⟨(show 0 ≤ sizeLine by decide), fun q0 hq => ?_⟩
    refine ⟨v, .ref p, .ref q0, rfl, ?_⟩
    have e2 := en.plus hp (Ex.nw hp) (o := .dT []) upd_same
    have e3 := e2.plus hq (Ex.nw hq) (o := .lst []) upd_same
    have npq : q0 ≠ p := fun z => by rw [z, upd_same] at hq; cases hq
    have hq1 : H1 q0 = none := by rw [upd_ne npq] at hq; exact hq
    have np : p ∉ t.foot := fun z => by obtain ⟨u, hu, _⟩ := tv.there z; rw [hp] at hu; cases hu
    have nq : q0 ∉ t.foot := fun z => by obtain ⟨u, hu, _⟩ := tv.there z; rw [hq1] at hu; cases hu
    have m2 : Mv (Gv (plusL F t.foot) σ ρ1) H1 (Gv (plus (plus (plusL F t.foot) p) q0) σ ρ1) (upd (upd H1 p (.dT [])) q0 (.lst [])) :=
      ((Mv.nw hp).tr ((Mv.ex (Ex.nw hp)).tr (Mv.sub gv_plus))).tr ((Mv.nw hq).tr ((Mv.ex (Ex.nw hq)).tr (Mv.sub gv_plus)))
    have tv2 : TrV K cp (Gv (plus (plus (plusL F t.foot) p) q0) σ ρ1) (upd (upd H1 p (.dT [])) q0 (.lst [])) v t := tv.mv m2 _ _ fun x hx u hu _ => by
      rw [upd_ne fun z => nq (by rw [← z]; exact hx), upd_ne fun z => np (by rw [← z]; exact hx)]; exact hu
    have pe : plus (plus (plusL F t.foot) p) q0 = plusL (plus (plus F q0) p) t.foot := funext fun a => propext ⟨fun h => by
      rcases h with ((h | h) | h) | h
      · exact .inl (.inl (.inl h))
      · exact .inr h
      · exact .inl (.inr h)
      · exact .inl (.inl (.inr h)), fun h => by
      rcases h with ((h | h) | h) | h
      · exact .inl (.inl (.inl h))
      · exact .inr h
      · exact .inl (.inr h)
      · exact .inl (.inl (.inr h))⟩
    rw [pe] at e3 m2 tv2
    have nFp : ¬ F p := fun f => en.notF hp (.inl (.inl f))
    have nFq : ¬ F q0 := fun f => en.notF hq1 (.inl (.inl f))
    obtain ⟨e4, g4⟩ := own_newT e3 (fun a haf => ⟨fun z => by
      rcases z with (f | z) | z
      · exact (nf a haf).1 f
      · exact nq (by rw [← z]; exact haf)
      · exact np (by rw [← z]; exact haf), (nf a haf).2⟩) (fun x hx => .inl (.inl (ha x hx))) fi ok tv2
    have nsd : ∀ {t : Tr} (b : Bool) (c : D), SV.dp false t ≠ .ow b c := by rintro t b c z; cases z
    have fs : ∀ {r : List SV} {a b : Nat} {s : SV}, free r b → a ≠ b → free (r.set a s) b := fun {r a b s} f ne => ⟨by rw [List.length_set]; exact f.1, fun es z => (by rw [List.getElem?_set_ne ne] at z; exact f.2.1 es z), fun es z => (by rw [List.getElem?_set_ne ne] at z; exact f.2.2 es z)⟩
    obtain ⟨e5, g5⟩ := own_new (i := j) (p := p) (ds := .dt [] []) e4 (fun z => by
      rcases z with z | z
      · exact nFp z
      · exact npq z.symm) (en.none0 hp) (fun x hx => .inl (ha x hx)) (fs fj hij) ⟨_, by rw [upd_ne fun z => npq z.symm]; exact upd_same, .dt rfl .nil⟩
    obtain ⟨e6, g6⟩ := own_new (i := l) (p := q0) (ds := .lst []) e5 nFq (en.none0 hq1) ha (fs (fs fl hil) hjl) ⟨_, upd_same, .lst .nil⟩
    exact n _ _ _ e6 (mv.tr (m2.tr (Mv.sub fun a g => g4 a (g5 a (g6 a g))))) q
/-- for .. in x, x a list that was passed to be changed; the turns leave it as it is -/
theorem DS.forO {j : Nat} {g : TG} {tb : TS} {ds : List D} (hj : ρ[j]? = some (.ow true (.lst ds))) (I : Nat → List SV → Prop) (i0 : I 0 ρ) (hpl : ∀ i ρ2, i ≤ ds.length → I i ρ2 → ρ2[j]? = some (.ow true (.lst ds)))
    (hs : ∀ i d ρ2, ds[i]? = some d → I i ρ2 → DGo K cp g d ρ2 fun ρ3 => DS K cp X tb ρ3 (I (i + 1)) R N (I (i + 1))) (hd : ∀ ρ2, I ds.length ρ2 → N ρ2) : DS K cp X (tFor (iSeq K (tVar j) (tVar j)) g tb) ρ N R B C := fun F A H0 H σ e hx Dd n r b c => by
  obtain ⟨a, ha, u, hu, how⟩ := e.sl j _ hj
  have hA : (j, a) ∈ A := by have := e.ow j true _ a hj ha; rwa [if_pos rfl] at this
  have at_ : ∀ {i : Nat} {σ' : L2.St} {ρ' : List SV} {H' : Hp}, i ≤ ds.length → I i ρ' → En K cp F A H0 H' σ' ρ' → ∃ vs, H' a = some (.lst vs) ∧ DvA K cp (Gv F σ' ρ') H' vs ds := fun {i σ' ρ' H'} hi q e' => by
    have h1 := hpl i ρ' hi q
    obtain ⟨a', ha', u', hu', how'⟩ := e'.sl j _ h1
    have : a' = a := by
      rcases (e'.io _ hA).2 with ⟨_, es, _, q2⟩ | ⟨_, t, q1, _⟩
      · rw [ha'] at q2; cases q2; rfl
      · rw [h1] at q1; cases q1
    subst this
    cases how' with
    | @lst vs _ dv => exact ⟨vs, hu', dv⟩
  cases how with
  | @lst vs0 _ dv0 =>
    refine .inl ⟨_, ha, a, rfl, ⟨vs0, .inl (.inl hu)⟩, ?_⟩
    have w : Walk (Itl K a) ds.length (fun H => ∃ vs, H a = some (.lst vs) ∧ vs.length = ds.length) (fun i H x H' => H' = H ∧ ∀ vs, H a = some (.lst vs) → vs[i]? = some x) :=
      ⟨fun i H hi ⟨vs, q1, q2⟩ => ⟨vs, vs[i]'(by omega), .inl (.inl q1), List.getElem?_eq_getElem (by omega)⟩, fun H ⟨vs, q1, q2⟩ => ⟨vs, .inl (.inl q1), by omega⟩, fun i H x H' hi _ y => ⟨y.1, fun vs q => y.2 vs (.inl (.inl q))⟩⟩
    refine for_it w (fun i σ' H' => ∃ ρ', En K cp F A H0 H' σ' ρ' ∧ Mv (Gv F σ ρ) H (Gv F σ' ρ') H' ∧ I i ρ') ⟨ρ, e, Mv.ex (Ex.rfl' _), i0⟩ (fun i σ' H' hi ⟨ρ', e', m', q⟩ => ?_) ?_ fun σ' H' ⟨ρ', e', m', q⟩ => n σ' ρ' H' e' m' (hd ρ' q)
    · obtain ⟨vs, q1, q2⟩ := at_ hi q e'
      exact ⟨vs, q1, q2.len⟩
    · rintro i x σ2 H2 H3 hi ⟨ρ2, e2, m2, q2⟩ ⟨rfl, y⟩
      obtain ⟨vs, q3, q4⟩ := at_ (Nat.le_of_lt hi) q2 e2
      obtain ⟨d, hd1, dv⟩ := q4.at (y vs q3)
      refine hs i d ρ2 hd1 q2 F A H0 H3 σ2 e2 x dv _ fun σ3 ρ3 e3 g3 q5 => ?_
      have m3 : Mv (Gv F σ ρ) H (Gv F σ3 ρ3) H3 := m2.tr (Mv.sub g3)
      exact (show DS K cp X tb ρ3 (I (i + 1)) R N (I (i + 1)) from q5) F A H0 H3 σ3 e3 hx _ (fun σ4 ρ4 H4 e4 m4 q => ⟨ρ4, e4, m3.tr m4, q⟩) r (fun σ4 ρ4 H4 e4 m4 q => n σ4 ρ4 H4 e4 (m3.tr m4) q) fun σ4 ρ4 H4 e4 m4 q => ⟨ρ4, e4, m3.tr m4, q⟩
/-- .. by what has been walked -/
theorem DS.forOM {j : Nat} {g : TG} {tb : TS} {T : Type} {enc : T → D} {xs : List T} (hj : ρ[j]? = some (.ow true (.lst (xs.map enc)))) (I : List T → List SV → Prop) (i0 : I [] ρ) (hpl : ∀ l r ρ2, xs = l ++ r → I l ρ2 → ρ2[j]? = some (.ow true (.lst (xs.map enc))))
    (hs : ∀ l x r ρ2, xs = l ++ x :: r → I l ρ2 → DGo K cp g (enc x) ρ2 fun ρ3 => DS K cp X tb ρ3 (I (l ++ [x])) R N (I (l ++ [x]))) (hd : ∀ ρ2, I xs ρ2 → N ρ2) : DS K cp X (tFor (iSeq K (tVar j) (tVar j)) g tb) ρ N R B C := by
  refine DS.forO hj (fun i ρ => I (xs.take i) ρ) (by show I (xs.take 0) ρ; rw [List.take_zero]; exact i0) (fun i ρ2 hi q => hpl _ (xs.drop i) ρ2 (List.take_append_drop ..).symm q) (fun i d ρ2 hi q => ?_) fun ρ2 q => ?_
  · rw [List.getElem?_map] at hi
    obtain ⟨x, hx, rfl⟩ := Option.map_eq_some_iff.mp hi
    have ht : xs.take (i + 1) = xs.take i ++ [x] := by rw [List.take_add_one, hx]; rfl
    show DGo K cp g (enc x) ρ2 fun ρ3 => DS K cp X tb ρ3 (I (xs.take (i + 1))) R N (I (xs.take (i + 1)))
    rw [ht]
    refine hs _ x (xs.drop (i + 1)) ρ2 ?_ q
    obtain ⟨hl, he⟩ := List.getElem?_eq_some_iff.mp hx
    rw [← he, ← List.drop_eq_getElem_cons hl, List.take_append_drop]
  · refine hd ρ2 ?_
    have q : I (xs.take (xs.map enc).length) ρ2 := q
    rw [List.length_map, List.take_length] at q
    exact q
/-- the same of a place in a tree -/
theorem DS.forPM {te : TE} {g : TG} {tb : TS} {T : Type} (enc : T → D) (h : DEo K cp X te ρ fun x ρ1 => ∃ (a : Addr) (xs : List T) (I : List T → List SV → Prop), x.pl ρ1 = some a ∧ I [] ρ1 ∧ (∀ l r ρ2, xs = l ++ r → I l ρ2 → ∃ (j : Nat) (b : Bool) (t : Tr) (p : List Nat), ρ2[j]? = some (.dp b t) ∧ t.get p = some (.lst a ((xs.map enc).map .sh))) ∧
    (∀ l x r ρ2, xs = l ++ x :: r → I l ρ2 → DGo K cp g (enc x) ρ2 fun ρ3 => DS K cp X tb ρ3 (I (l ++ [x])) R N (I (l ++ [x]))) ∧ ∀ ρ2, I xs ρ2 → N ρ2) : DS K cp X (tFor (iList K te) g tb) ρ N R B C := by
  refine DS.forP fun F A H0 H σ e hx Q k => h F A H0 H σ e hx Q fun v r ρ1 H1 rs φ => k v r ρ1 H1 rs ?_
  have go : ∀ {x : OP}, (∃ (a : Addr) (xs : List T) (I : List T → List SV → Prop), x.pl ρ1 = some a ∧ I [] ρ1 ∧ (∀ l r ρ2, xs = l ++ r → I l ρ2 → ∃ (j : Nat) (b : Bool) (t : Tr) (p : List Nat), ρ2[j]? = some (.dp b t) ∧ t.get p = some (.lst a ((xs.map enc).map .sh))) ∧
    (∀ l x r ρ2, xs = l ++ x :: r → I l ρ2 → DGo K cp g (enc x) ρ2 fun ρ3 => DS K cp X tb ρ3 (I (l ++ [x])) R N (I (l ++ [x]))) ∧ ∀ ρ2, I xs ρ2 → N ρ2) → ∃ (a : Addr) (ds : List DD.D) (I : Nat → List SV → Prop), x.pl ρ1 = some a ∧ I 0 ρ1 ∧ (∀ i ρ2, i ≤ ds.length → I i ρ2 → ∃ (j : Nat) (b : Bool) (t : Tr) (p : List Nat), ρ2[j]? = some (.dp b t) ∧ t.get p = some (.lst a (ds.map .sh))) ∧
    (∀ i d ρ2, ds[i]? = some d → I i ρ2 → DGo K cp g d ρ2 fun ρ3 => DS K cp X tb ρ3 (I (i + 1)) R N (I (i + 1))) ∧ ∀ ρ2, I ds.length ρ2 → N ρ2 := fun {x} ⟨a, xs, I, hp, i0, hpl, hs, hd⟩ => by
    refine ⟨a, xs.map enc, fun i ρ => I (xs.take i) ρ, hp, by show I (xs.take 0) ρ1; rw [List.take_zero]; exact i0, fun i ρ2 hi q => hpl _ (xs.drop i) ρ2 (List.take_append_drop ..).symm q, fun i d ρ2 hi q => ?_, fun ρ2 q => ?_⟩
    · rw [List.getElem?_map] at hi
      obtain ⟨x, hx, rfl⟩ := Option.map_eq_some_iff.mp hi
      have ht : xs.take (i + 1) = xs.take i ++ [x] := by rw [List.take_add_one, hx]; rfl
      show DGo K cp g (enc x) ρ2 fun ρ3 => DS K cp X tb ρ3 (I (xs.take (i + 1))) R N (I (xs.take (i + 1)))
      rw [ht]
      refine hs _ x (xs.drop (i + 1)) ρ2 ?_ q
      obtain ⟨hl, he⟩ := List.getElem?_eq_some_iff.mp hx
      rw [← he, ← List.drop_eq_getElem_cons hl, List.take_append_drop]
    · refine hd ρ2 ?_
      have q : I (xs.take (xs.map enc).length) ρ2 := q
      rw [List.length_map, List.take_length] at q
      exact q
  exact go φ
end
end DD

end
section
set_option Elab.async false
set_option linter.all false
set_option maxRecDepth 100000
set_option maxHeartbeats 1000000
/-! list(range(n)) -/
namespace DD
open PySem PySem.Spec PyProof.Rows L2 GL LamX
section
variable {K : PySem.W.Frag} {cp : Cb} {X : XC} {F : Addr → Prop} {A : Pass} {G : Addr → Prop} {H0 H : Hp} {ρ : List SV} {Φ : AV → List SV → Prop}
theorem rg_dva {n : Nat} : DvA K cp G H (rgV 0 (n : Int)) ((List.range n).map fun (i : Nat) => D.int (i : Int)) := by
  have key : ∀ is : List Int, DvA K cp G H (is.map V.int) (is.map D.int) := fun is => by
    induction is with
    | nil => exact .nil
    | cons i is ih => exact .cons (.int i) ih
  have e : rgV 0 (n : Int) = ((List.range n).map fun (i : Nat) => (i : Int)).map V.int := by simp [rgV]
  rw [e, show ((List.range n).map fun (i : Nat) => D.int (i : Int)) = ((List.range n).map fun (i : Nat) => (i : Int)).map D.int by rw [List.map_map]; rfl]
  exact key _
theorem DE.lstRg {ta : TE} (h : DEs K cp X ta ρ fun d ρ1 => ∃ n : Nat, d = .int (n : Int) ∧ n ≤ 900000 ∧ Φ (.n (.lst ((List.range n).map fun (i : Nat) => D.int (i : Int)))) ρ1) : DE K cp X (tLstRg (tRg1 ta)) ρ Φ := fun F A H0 H σ e hx Q k =>
  h.go e hx fun v d ρ1 H1 e1 m1 dv ⟨n, hd, hn, φ⟩ => by
    subst hd
    refine ⟨(n : Int), dv_int dv, ?_, fun q hq => ?_⟩
    · exact RgOk.of_le (by omega) (by omega) (by omega) (by omega)
    · exact k _ (.n (.lst _)) ρ1 _ ((Rx.res (r := .n (.lst _)) e1 ⟨q, rfl, hq, Ex.nw hq, _, upd_same, .lst rg_dva⟩).tr m1) φ
end
end DD

end
section
set_option Elab.async false
set_option linter.all false
set_option maxRecDepth 100000
set_option maxHeartbeats 4000000
/-! a name set to a dict comprehension. -/
namespace GL
open PySem PySem.Spec PyProof.Rows L2
section
variable {X : Cx}
theorem ps_setDc {i : Nat} {y : Str} {py : Pos} {kx vx tg iter : Expr} {ifs : List Expr} {scope : Scope} {own : List (Str × Nat)} {pos spos : Pos} {wi : TI} {g : TG} {tt : TT} {tk tv : TE} (hc : X.calm = true) (hN : X.N.Nodup) (hy : X.N[i]? = some y) (hyl : X.env.scope.names.lookup y = some .local)
    (hsw : swapsWith (.DictComp kx vx [⟨tg, iter, ifs, 0⟩] scope pos) (some (.Name y py)) spos.line X.env = pure true) (hi : PI X tg iter wi) (ok : BlkOk X.N X.env.scope scope own)
    (hg : ∀ (s : Shared) (H : Hp) (C : Addr) (cl : List (Str × Addr)) (fp : List Addr), PG (X.blk s H scope (compEnvC scope cl C X.env) fp) tg g) (ht : ∀ (s : Shared) (H : Hp) (C : Addr) (cl : List (Str × Addr)) (fp : List Addr), PTs (X.blk s H scope (compEnvC scope cl C X.env) fp) ifs tt)
    (hk : ∀ (s : Shared) (H : Hp) (C : Addr) (cl : List (Str × Addr)) (fp : List Addr), PE (X.blk s H scope (compEnvC scope cl C X.env) fp) kx tk)
    (he : ∀ (s : Shared) (H : Hp) (C : Addr) (cl : List (Str × Addr)) (fp : List Addr), PE (X.blk s H scope (compEnvC scope cl C X.env) fp) vx tv) (hs : ∀ x, foldedSetIterable iter X.env x = pure x := by intro _; rfl) :
    PS X (.Assign [.Name y py] (.DictComp kx vx [⟨tg, iter, ifs, 0⟩] scope pos) spos) (tAsg (tDc wi g tt tk tv (own.map (·.2))) (gName i)) := by
  refine ⟨fun pins s σ H D I h => ?_⟩
  rw [exec_Assign_Name_used _ _ _ _ hsw]
  refine wpAny_bind (wpAny_standAt (wpAny_bind ?_))
  have h : tDc wi g tt tk tv (own.map (·.2)) σ H (fun x H1 => gName i x σ H1 D.nx) := h
  refine wpAny_bind (thn (dc_core (Qf := fun _ s' => SP X pins D .next s') hc hN I hi ok hg ht hk he hs h fun L C s' m H' I' q hn f => ?_) fun _ s' hq => wpAny_pure (wpAny_pure hq))
  show wpAny _ _ (assign (.Name y py) X.env (.ref L)) _ _ _
  refine wpAny_assign_Name (store_ok2 (v := V.ref L) I' hN hy (.inl hyl) rfl (fun s2 I2 ⟨a, sb, ha⟩ => ?_) (.inr hyl))
  obtain ⟨f0, f1, f2, f3, f4, f5⟩ := f
  have haC : C ≠ a := by
    rcases ha with z | z
    · rw [z]; exact f1
    · exact fun e => f4 y a z e.symm
  refine ⟨m, hn.sameBut sb haC, fun h3 sb3 => ?_⟩
  exact ⟨_, H', I2.turned (t' := s2.toks) (fun b o hb e => (sb3.2 b hb).trans e) f0 f1 f3 f4 f5, q⟩
theorem sw_trueD {kx vx : Expr} {gs : List Comprehension} {scope : Scope} {pos py : Pos} {y : Str} {l : Nat} {env : Env} (hk : env.scope.kind = .function) (hy : env.scope.names.lookup y = some .local) (hl : (py.line == pos.line) = true)
    (ha : (scope.names.any fun (n, k) => n == y && (k == .local || k == .cell)) = false) : swapsWith (.DictComp kx vx gs scope pos) (some (.Name y py)) l env = pure true := by
  have ky : env.kindOf y = some .local := hy
  have hb : env.blockKind = .function := by unfold Env.blockKind; rw [hk]; rfl
  unfold swapsWith
  simp only [hb, ky, ha, Expr.pos, hl]
  rfl
end
end GL

end
section
set_option Elab.async false
set_option linter.all false
set_option maxRecDepth 100000
set_option maxHeartbeats 1000000
/-! for x in d.items(), x a name: each pair stays as it was handed out. -/
namespace GL
open PySem PySem.W PySem.Calls PyProof.Rows PyProof.V PySem.Spec
section
variable {pg : Program} {w : World} {A : Around} {E : Value → Shared → Prop} {s : Shared}
theorem alive_or {a : Addr} {Q : Option Obj → Shared → Prop} (h : Q (s.heap.get? a) s) : wpAny (model pg w) A (loadIfAlive a) Q E s := fun _ _ _ => h
/-- the next pair, once one has been handed out and kept or not -/
theorem next_pair {it d a0 : Addr} {fl : Bool} {i ep : Nat} {rows : Array DictEntry} {k0 v0 : Value} {Q : Option Value → Shared → Prop} (ht : KdxIt s.heap it d i rows.size ep k0 v0 a0 fl) (hr : DT.Raw s.heap d rows ep) (hlt : i < rows.size)
    (fin : ∀ (h' : Heap) (k1 v1 : Value) (a1 : Addr) (f1 : Bool), KdxIt h' it d (i + 1) rows.size ep k1 v1 a1 f1 → h'.get? s.heap.objs.size = some { cls := .type "tuple", data := .seq #[rows[i].key, rows[i].val] } → h'.objs.size = s.heap.objs.size + 1 → (∀ b o, b ≠ it → s.heap.get? b = some o → h'.get? b = some o) → Q (some (.ref s.heap.objs.size)) { s with heap := h' }) :
    wpAny (model pg w) A (pyNext (.ref it)) Q E s := by
  obtain ⟨H, gg, dd, tt, oo⟩ := s
  obtain ⟨ob, o1, o2, o3⟩ := id hr
  have ty : Shared.TypeIs ⟨H, gg, dd, tt, oo⟩ (.ref it) "dict_itemiterator" := ⟨_, ht, rfl⟩
  unfold pyNext
  refine wpAny_bind (wpAny_attempt (wpAny_callSpecial?_slot (name := Str.ofString "__next__") ty PySem.F.slot_dict_itemiterator_next (wpAny_call_entry PySem.F.slot_dict_itemiterator_next ty PySem.F.entry_dict_itemiterator_next ?_ (PySem.F.args_dict_itemiterator_next_1 _))))
  refine wpAny_bind (wpAny_pure (wpAny_bind (wpAny_bind ?_)))
  first | refine wpAny_bind (wpAny_typeNameOfWhole_itemiter ty (wpAny_pure ?_)) | refine wpAny_bind (wpAny_typeNameOf_itemiter ty (wpAny_pure ?_))
  refine wpAny_bind (wpAny_fieldsOf ht rfl ?_)
  rw [if_pos (show Builtin.Dict_items.ownsTuple "dict_itemiterator" = true by decide)]
  show wpAny _ _ (if (Value.ref d == Value.none) = true then _ else _) _ _ ⟨H, gg, dd, tt, oo⟩
  rw [if_neg (fun z : (Value.ref d == Value.none) = true => (show False from Bool.noConfusion (show false = true from z)))]
  refine wpAny_bind (wpAny_pure (wpAny_bind (wpAny_dictEntries o1 o3 ?_)))
  rw [if_neg (by simp)]
  refine wpAny_bind (wpAny_pure (wpAny_bind (wpAny_dictEpoch o1 o3 ?_)))
  rw [if_neg (by simp)]
  refine wpAny_pure ?_
  simp only [show ¬ ((i : Int) < 0) by omega, if_false, Int.toNat_natCast, Array.getElem?_eq_getElem hlt]
  refine wpAny_bind ?_
  first | refine wpAny_bind (wpAny_typeNameOfWhole_itemiter ty (wpAny_pure ?_)) | refine wpAny_bind (wpAny_typeNameOf_itemiter ty (wpAny_pure ?_))
  refine wpAny_bind (wpAny_isOneOf_itemiter ty ?_)
  show wpAny _ _ (setField (.ref it) 3 (rawInt ((i : Int) + 1)) >>= _) _ _ ⟨H, gg, dd, tt, oo⟩
  refine wpAny_bind (wpAny_setField_rec ht (by simp) fun H1 q1 b1 => ?_)
  have b1 : Heap.SameBut it H H1 := b1
  have q1 : KdxIt H1 it d (i + 1) rows.size ep k0 v0 a0 fl := by
    have e : ((i + 1 : Nat) : Int) = (i : Int) + 1 := by omega
    unfold KdxIt; rw [e]; simpa [rawInt] using q1
  have ty1 : Shared.TypeIs ⟨H1, gg, dd, tt, oo⟩ (.ref it) "dict_itemiterator" := ⟨_, q1, rfl⟩
  refine wpAny_bind (wpAny_holding (wpAny_bind (wpAny_isOneOf_itemiter ty1 (wpAny_bind (wpAny_isOneOf_itemiter ty1 ?_)))))
  show wpAny _ _ (Builtin.Dict_items.pairFromOwner (.ref it) 6 rows[i].key rows[i].val) _ _ ⟨H1, gg, dd, tt, oo⟩
  unfold Builtin.Dict_items.pairFromOwner
  refine wpAny_bind (wpAny_newTuple ?_)
  have q2 : KdxIt (H1.push { cls := .type "tuple", data := .seq #[rows[i].key, rows[i].val] }) it d (i + 1) rows.size ep k0 v0 a0 fl := Heap.get?_push_of_some _ q1
  generalize e2 : H1.push { cls := .type "tuple", data := .seq #[rows[i].key, rows[i].val] } = H2 at q2
  have z1 : H1.objs.size = H.objs.size := b1.1
  have lt0 : it < H.objs.size := Heap.lt_size ht
  have t2 : H2.get? H.objs.size = some { cls := .type "tuple", data := .seq #[rows[i].key, rows[i].val] } := by rw [← e2, ← z1]; exact Heap.get?_push_size _ rfl
  have z2 : H2.objs.size = H.objs.size + 1 := by rw [← e2, Heap.size_push, z1]
  have kp : ∀ b o, b ≠ it → H.get? b = some o → H2.get? b = some o := fun b o n e => by rw [← e2]; exact Heap.get?_push_of_some _ (b1.extBut b o n e)
  have fin2 : ∀ (H3 : Heap) (k1 v1 : Value) (a1 : Addr) (f1 : Bool), KdxIt H3 it d (i + 1) rows.size ep k1 v1 a1 f1 → Heap.SameBut it H2 H3 → Q (some (.ref H.objs.size)) ⟨H3, gg, dd, tt, oo⟩ := fun H3 k1 v1 a1 f1 q b =>
    fin H3 k1 v1 a1 f1 q (b.extBut _ _ (Nat.ne_of_gt lt0) t2) (by show H3.objs.size = H.objs.size + 1; rw [b.1, z2]) fun x o n e => b.extBut x o n (kp x o n e)
  show wpAny _ _ (Builtin.Dict_items.ownedTupleIsFree (.ref it) >>= _) _ _ ⟨H2, gg, dd, tt, oo⟩
  rw [z1]
  refine wpAny_bind ?_
  unfold Builtin.Dict_items.ownedTupleIsFree
  refine wpAny_bind (wpAny_field q2 rfl (x := rawInt a0) rfl ?_)
  show wpAny _ _ (loadIfAlive ((a0 : Int).toNat) >>= _) _ _ _
  rw [Int.toNat_natCast]
  refine wpAny_bind (alive_or ?_)
  cases hq : H2.get? a0 with
  | some o0 =>
    show wpAny _ _ _ _ _ _
    simp only [hq, Option.isNone_some, Bool.false_eq_true, if_false]
    refine wpAny_bind (wpAny_field q2 rfl (x := .bool fl) rfl ?_)
    cases fl with
    | true =>
      rw [if_neg (show ¬ (Value.bool true != Value.bool true) = true by decide)]
      refine wpAny_pure ?_
      simp only [Bool.false_eq_true, if_false]
      exact wpAny_pure (wpAny_pure ⟨_, rfl, wpAny_pure (fin2 H2 _ _ _ _ q2 (Heap.SameBut.refl _ _))⟩)
    | false =>
      rw [if_pos (show (Value.bool false != Value.bool true) = true from rfl)]
      refine wpAny_bind (wpAny_setField_rec q2 (by simp) fun H3 q3 b3 => ?_)
      refine wpAny_pure ?_
      simp only [Bool.false_eq_true, if_false]
      exact wpAny_pure (wpAny_pure ⟨_, rfl, wpAny_pure (fin2 H3 k0 v0 a0 true q3 b3)⟩)
  | none =>
    show wpAny _ _ _ _ _ _
    simp only [hq, Option.isNone_none, if_true]
    refine wpAny_pure ?_
    simp only [if_true]
    refine wpAny_bind (wpAny_field q2 rfl (x := k0) rfl (wpAny_bind (wpAny_field q2 rfl (x := v0) rfl ?_)))
    refine wpAny_bind (wpAny_setField_rec q2 (by simp) fun H3 q3 b3 => ?_)
    have q3 : KdxIt H3 it d (i + 1) rows.size ep rows[i].key v0 a0 fl := q3
    refine wpAny_bind (wpAny_setField_rec q3 (by simp) fun H4 q4 b4 => ?_)
    have q4 : KdxIt H4 it d (i + 1) rows.size ep rows[i].key rows[i].val a0 fl := q4
    refine wpAny_bind (wpAny_setField_rec q4 (by simp) fun H5 q5 b5 => ?_)
    have q5 : KdxIt H5 it d (i + 1) rows.size ep rows[i].key rows[i].val H.objs.size fl := q5
    refine wpAny_bind (wpAny_setField_rec q5 (by simp) fun H6 q6 b6 => ?_)
    have q6 : KdxIt H6 it d (i + 1) rows.size ep rows[i].key rows[i].val H.objs.size false := q6
    have b3 : Heap.SameBut it H2 H3 := b3
    have b4 : Heap.SameBut it H3 H4 := b4
    have b5 : Heap.SameBut it H4 H5 := b5
    have b6 : Heap.SameBut it H5 H6 := b6
    refine wpAny_bind (wpAny_letGo (wpAny_pure (wpAny_pure ⟨_, rfl, wpAny_pure (fin H6 _ _ _ _ q6 ?_ ?_ ?_)⟩)))
    · exact b6.extBut _ _ (Nat.ne_of_gt lt0) (b5.extBut _ _ (Nat.ne_of_gt lt0) (b4.extBut _ _ (Nat.ne_of_gt lt0) (b3.extBut _ _ (Nat.ne_of_gt lt0) t2)))
    · show H6.objs.size = H.objs.size + 1
      rw [b6.1, b5.1, b4.1, b3.1, z2]
    · exact fun x o n e => b6.extBut x o n (b5.extBut x o n (b4.extBut x o n (b3.extBut x o n (kp x o n e))))
end
end GL
namespace GL
open PySem PySem.Spec PyProof.Rows L2
section
/-- where the walk stands: nothing handed out, or some -/
def PairSt (h : Heap) (it d : Addr) (i n ep : Nat) : Prop := (i = 0 ∧ ∃ k0 v0, IsItemIter h it d 0 n ep k0 v0) ∨ ∃ k0 v0 a0 fl, PySem.W.KdxIt h it d i n ep k0 v0 a0 fl
variable {P : Program} {w : World} {K : PySem.W.Frag} {d : Addr} {o : Obj} {es : Array DictEntry} {ep : Nat} {x : Str} {np : Pos}
theorem turn_pairs {kvs : List (Key × V)} (it : Addr) (hod : o.data = .dict es ep) : Turn P w K (.Name x np) (Iti d o kvs) [it] it (fun i h => PairSt h it d i kvs.length ep) where
  mem := List.mem_singleton.mpr rfl
  obj := fun i h st b hb => by
    rw [List.mem_singleton.mp hb]
    rcases st with ⟨_, k0, v0, e⟩ | ⟨k0, v0, a0, fl, e⟩ <;> exact ⟨_, e, fun v z => nomatch z⟩
  keep := fun i h h' st k => by
    rcases st with ⟨z, k0, v0, e⟩ | ⟨k0, v0, a0, fl, e⟩
    · exact .inl ⟨z, k0, v0, k it (List.mem_singleton.mpr rfl) _ e⟩
    · exact .inr ⟨k0, v0, a0, fl, k it (List.mem_singleton.mpr rfl) _ e⟩
  item := by
    intro X hP hw hK hc i pins s σ H E I hf st hg
    subst hP hw hK
    obtain ⟨hd, hi⟩ := hg
    obtain ⟨_, _, _, es1, ep1, vs, hdt, _, kv, hm⟩ := I.frzK hd
    obtain ⟨rfl, rfl⟩ := dict_ep hod hdt
    obtain ⟨⟨k, v⟩, hkv⟩ : ∃ p, kvs[i]? = some p := ⟨_, List.getElem?_eq_getElem hi⟩
    obtain ⟨u, hu, ru⟩ := kv_get kv hkv
    have len : kvs.length = vs.length := Paired.length kv
    have go : ∀ (h' : Heap) (key : Value), keyIs k key = true → PairSt h' it d (i + 1) kvs.length ep1 → h'.get? s.heap.objs.size = some { cls := .type "tuple", data := .seq #[key, u] } → (∀ b ob, b ≠ it → s.heap.get? b = some ob → h'.get? b = some ob) → it < s.heap.objs.size →
        ∃ u0, some (Value.ref s.heap.objs.size) = some u0 ∧ wpAny (model X.prog X.w) X.A (letOwnedTupleGo (.Name x np) (.ref it) u0) (fun _ s2 => ∃ y H', Inv X pins σ H' s2 ∧ RelV y u0 ∧ (Iti d o kvs).yld i H y H' ∧ PairSt s2.heap it d (i + 1) kvs.length ep1 ∧ ∀ b ∈ [it], H' b = none) E { s with heap := h' } := fun h' key hk st2 hT kp lt => by
      refine ⟨_, rfl, ?_⟩
      have new : ObjOk X.prog X.w (upd H s.heap.objs.size (.tup [kV k, v])) h' s.heap.objs.size (.tup [kV k, v]) :=
        ⟨(show 2 ≤ sizeLine by decide), [key, u], .cons (relV_key hk) (.cons ru .nil), ⟨_, hT, rfl, _, rfl⟩⟩
      have J := I.turnedNew (t' := s.toks) (ch := [it]) (fun b ob hb e => kp b ob (fun z => hb (List.mem_singleton.mpr z)) e) hf (Nat.le_refl _) new
      refine (show wpAny _ _ (letOwnedTupleGo (.Name x np) (.ref it) (.ref s.heap.objs.size)) _ _ _ from wpAny_pure ⟨V.ref s.heap.objs.size, _, J, rfl, ⟨_, k, v, hkv, rfl, I.hok.fresh (Nat.le_refl _), rfl⟩, st2, fun b hb => ?_⟩)
      rw [List.mem_singleton.mp hb, upd_ne (Nat.ne_of_lt lt)]
      exact (hf it (List.mem_singleton.mpr rfl)).1
    rcases st with ⟨z, k0, v0, e⟩ | ⟨k0, v0, a0, fl, e⟩
    · subst z
      rw [len] at e
      exact wpAny_pyNext_items_item e hm hu fun key h' hkey out hT hz kp => go h' key hkey (.inr ⟨_, _, _, _, by rw [len]; exact out⟩) hT kp (Heap.lt_size e)
    · obtain ⟨es2, hr, hz, he⟩ := hm.raw
      rw [len, ← hz] at e
      have hi2 : i < es2.size := by omega
      refine next_pair e hr hi2 fun h' k1 v1 a1 f1 q hT hz2 kp => ?_
      obtain ⟨r1, r2⟩ := he i hi2 k u hu
      rw [r2] at hT
      exact go h' _ r1 (.inr ⟨_, _, _, _, by rw [len, ← hz]; exact q⟩) hT kp (Heap.lt_size e)
  done := by
    intro X hP hw hK hc i pins s σ H E I hf st hg
    subst hP hw hK
    obtain ⟨hd, hi⟩ := hg
    obtain ⟨f0, f1, f2, f3, f4, f5⟩ := hf it (List.mem_singleton.mpr rfl)
    obtain ⟨_, _, _, es1, ep1, vs, hdt, _, kv, hm⟩ := I.frzK hd
    obtain ⟨rfl, rfl⟩ := dict_ep hod hdt
    have len : kvs.length = vs.length := Paired.length kv
    have no : vs[i]? = none := List.getElem?_eq_none (by omega)
    have fin : ∀ h', Heap.ExtBut it s.heap h' → (none : Option Value) = none ∧ Inv X pins σ H { s with heap := h' } := fun h' eb => ⟨rfl, I.turned (t' := s.toks) (fun b ob hb e => eb b ob hb e) f0 f1 f3 f4 f5⟩
    rcases st with ⟨z, k0, v0, e⟩ | ⟨k0, v0, a0, fl, e⟩
    · subst z
      rw [len] at e
      exact wpAny_pyNext_items_end (I.ok.hd hc) e hm no fin
    · rw [len] at e
      exact PySem.W.kdx_end_out (I.ok.hd hc) e hm no fin
  self := fun A i s Q E st h => by
    rcases st with ⟨z, k0, v0, e⟩ | ⟨k0, v0, a0, fl, e⟩
    · subst z; exact PySem.W.kcp_self e h
    · have ty : s.TypeIs (.ref it) "dict_itemiterator" := ⟨_, e, rfl⟩
      refine wpAny_pyIter_slot ty PySem.F.slot_dict_itemiterator_iter (wpAny_call_entry PySem.F.slot_dict_itemiterator_iter ty PySem.W.kcp_entry ?_ (PySem.F.args_dict_itemiterator_iter_1 _))
      exact (show wpAny _ _ (ret (.ref it)) _ _ s from wpAny_pure ⟨_, rfl, "dict_itemiterator", _, ty, PySem.F.slot_dict_itemiterator_next.lookup, h⟩)
variable {X : Cx} {e : Expr} {td : TE} {apos cpos : Pos}
theorem pi_itemsN (he : PE X e td) (hbase : attributeBase e "items" X.env (eval e X.env) = eval e X.env := by rfl) (hline : (apos.endLine == cpos.line) = true := by rfl) : PI X (.Name x np) (.Call (.Attribute e "items" apos) [] [] cpos) (iItems td) := by
  refine ⟨fun pins s σ H R I h => wpAny_Call_method (T := "dict") (id := "dict.items") hbase rfl hline PySem.F.plainAttrs_dict PySem.F.slot_dict_items PySem.F.type_dict_items (thn (he.run pins s σ H _ I h) ?_)⟩
  rintro u s1 ⟨y, H1, I1, ry, d, o, kvs, ey, hd, q⟩
  subst ey
  obtain rfl : u = Value.ref d := ry
  obtain ⟨hs, hgd, hx, es, ep, vs, hdt, hsz, kv, hm⟩ := I1.frzK hd
  have len : kvs.length = vs.length := Paired.length kv
  refine ⟨hm.dictOf.typeIs, hm.dictOf.mapOf.noDict, ?_⟩
  have J : Inv X pins σ H1 { s1 with heap := s1.heap.push { cls := .type "dict_items", data := .fields #[.ref d] } } := I1.kept (t' := s1.toks) fun b ob z => Heap.get?_push_of_some _ z
  refine (show wpAny _ _ (callWith cpos (.builtin "dict.items") [.ref d] [] []) _ X.xe s1 from method_meetsIn PySem.F.slot_dict_items PySem.F.entry_dict_items rfl (PySem.evalArgs_none ⟨rfl, hm.dictOf.typeIs, PySem.F.args_dict_items_1 _, _, meets_dict_items (mixKind X.prog X.w) d hs, ⟨vs, hm.dictOf⟩, ?_⟩))
  refine wpAny_pyIter_items (d := d) (knd := mixKind X.prog X.w) ⟨_, Heap.get?_push_size _ rfl, rfl, rfl⟩ (hm.push _) (pi_one (tk := s1.toks) J _ (turn_pairs _ hdt) (.inl ⟨rfl, .none, .none, ?_⟩) q)
  rw [len]
  exact Heap.get?_push_size _ rfl
end
end GL

end
section
set_option Elab.async false
set_option linter.all false
set_option maxHeartbeats 400000
/-! Prices: cheapest sizes, steepness. -/
namespace PM
theorem lt_cancel {a b c : Int} (hc : 0 < c) (h : a * c < b * c) : a < b := Int.lt_of_mul_lt_mul_right h (Int.le_of_lt hc)
theorem le_cancel {a b c : Int} (hc : 0 < c) (h : a * c ≤ b * c) : a ≤ b := Int.le_of_mul_le_mul_right h hc
theorem eq_cancel {a b c : Int} (hc : 0 < c) (h : a * c = b * c) : a = b := Int.eq_of_mul_eq_mul_right (Int.ne_of_gt hc) h
theorem m_le {a b c : Int} (h : a ≤ b) (hc : 0 ≤ c) : a * c ≤ b * c := Int.mul_le_mul_of_nonneg_right h hc
theorem m_lt {a b c : Int} (h : a < b) (hc : 0 < c) : a * c < b * c := Int.mul_lt_mul_of_pos_right h hc
theorem m_pos {a b : Int} (h : 0 < a) (h2 : 0 < b) : 0 < a * b := Int.mul_pos h h2
/-- a/b ≤ c/d < e/f -/
theorem fr_le_lt {a b c d e f : Int} (hb : 0 < b) (hd : 0 < d) (hf : 0 < f) (h1 : a * d ≤ c * b) (h2 : c * f < e * d) : a * f < e * b := by
  refine lt_cancel hd ?_
  have x1 := m_le h1 (Int.le_of_lt hf)
  have x2 := m_lt h2 hb
  have e1 : a * f * d = a * d * f := by rw [Int.mul_right_comm]
  have e2 : c * b * f = c * f * b := by rw [Int.mul_right_comm]
  have e3 : e * b * d = e * d * b := by rw [Int.mul_right_comm]
  rw [e1, e3]
  rw [e2] at x1
  omega
theorem fr_le_le {a b c d e f : Int} (hb : 0 < b) (hd : 0 < d) (hf : 0 < f) (h1 : a * d ≤ c * b) (h2 : c * f ≤ e * d) : a * f ≤ e * b := by
  refine le_cancel hd ?_
  have x1 := m_le h1 (Int.le_of_lt hf)
  have x2 := m_le h2 (Int.le_of_lt hb)
  have e1 : a * f * d = a * d * f := by rw [Int.mul_right_comm]
  have e2 : c * b * f = c * f * b := by rw [Int.mul_right_comm]
  have e3 : e * b * d = e * d * b := by rw [Int.mul_right_comm]
  rw [e1, e3]
  rw [e2] at x1
  omega
theorem fr_lt_le {a b c d e f : Int} (hb : 0 < b) (hd : 0 < d) (hf : 0 < f) (h1 : a * d < c * b) (h2 : c * f ≤ e * d) : a * f < e * b := by
  refine lt_cancel hd ?_
  have x1 := m_lt h1 hf
  have x2 := m_le h2 (Int.le_of_lt hb)
  have e1 : a * f * d = a * d * f := by rw [Int.mul_right_comm]
  have e2 : c * b * f = c * f * b := by rw [Int.mul_right_comm]
  have e3 : e * b * d = e * d * b := by rw [Int.mul_right_comm]
  rw [e1, e3]
  rw [e2] at x1
  omega
/-! ### the first cheapest size -/
def ch (f : Nat → Int) : Nat → Nat
  | 0 => 1
  | s + 1 => if f (s + 1) * (ch f s : Int) < f (ch f s) * ((s + 1 : Nat) : Int) then s + 1 else ch f s
section
variable {f : Nat → Int} {n : Nat}
def Pos (f : Nat → Int) (n : Nat) : Prop := ∀ i, 1 ≤ i → i ≤ n → 0 < f i
theorem ch_rng : ∀ s, 1 ≤ ch f s ∧ (1 ≤ s → ch f s ≤ s) ∧ (s = 0 → ch f s = 1)
  | 0 => ⟨Nat.le_refl _, fun h => by omega, fun _ => rfl⟩
  | s + 1 => by
    obtain ⟨a, b, c⟩ := ch_rng s
    refine ⟨?_, fun _ => ?_, fun h => by omega⟩
    · unfold ch; split <;> omega
    · unfold ch
      split
      · omega
      · by_cases h : 1 ≤ s
        · have := b h; omega
        · have := c (by omega); omega
theorem ch_min (hp : Pos f n) : ∀ s, s ≤ n → ∀ u : Nat, 1 ≤ u → u ≤ s → f (ch f s) * (u : Int) ≤ f u * (ch f s : Int) ∧ (f (ch f s) * (u : Int) = f u * (ch f s : Int) → ch f s ≤ u)
  | 0, _, u, h1, h2 => by omega
  | s + 1, hn, u, h1, h2 => by
    have ih := ch_min hp s (by omega)
    obtain ⟨c1, c2, c3⟩ := ch_rng (f := f) s
    have hc : (0 : Int) < (ch f s : Int) := by omega
    have hu : (0 : Int) < (u : Int) := by omega
    have hs : (0 : Int) < ((s + 1 : Nat) : Int) := by omega
    by_cases hlt : f (s + 1) * (ch f s : Int) < f (ch f s) * ((s + 1 : Nat) : Int)
    · have e : ch f (s + 1) = s + 1 := by rw [ch, if_pos hlt]
      rw [e]
      by_cases hus : u = s + 1
      · subst hus; exact ⟨Int.le_refl _, fun _ => Nat.le_refl _⟩
      · have q := (ih u h1 (by omega)).1
        have : f (s + 1) * (u : Int) < f u * ((s + 1 : Nat) : Int) := fr_lt_le hs hc hu hlt q
        exact ⟨Int.le_of_lt this, fun z => by omega⟩
    · have e : ch f (s + 1) = ch f s := by rw [ch, if_neg hlt]
      rw [e]
      by_cases hus : u = s + 1
      · subst hus
        refine ⟨by omega, fun _ => ?_⟩
        by_cases h : 1 ≤ s
        · have := c2 h; omega
        · have := c3 (by omega); omega
      · exact ih u h1 (by omega)
/-- the size that tells most against t -/
def up (f : Nat → Int) (n t : Nat) : Nat := ch f (min n (2 ^ (t.log2 + 1) - 1))
theorem log_lt {t : Nat} : t < 2 ^ (t.log2 + 1) := by
  by_cases h : t = 0
  · subst h; exact Nat.pow_pos (by decide)
  · exact (Nat.log2_lt h).mp (by omega)
theorem log_le {t r : Nat} (h : t < 2 ^ (r + 1)) : t.log2 ≤ r := by
  by_cases z : t = 0
  · subst z; simp
  · have := (Nat.log2_lt z).mpr h; omega
theorem log_mono {a b : Nat} (h : a ≤ b) : a.log2 ≤ b.log2 := log_le (Nat.lt_of_le_of_lt h log_lt)
theorem up_ok (hp : Pos f n) {t : Nat} (h1 : 1 ≤ t) (h2 : t ≤ n) : 1 ≤ up f n t ∧ up f n t ≤ n ∧ (up f n t).log2 ≤ t.log2 ∧
    ∀ u : Nat, 1 ≤ u → u ≤ n → u.log2 ≤ t.log2 → f (up f n t) * (u : Int) ≤ f u * (up f n t : Int) ∧ (f (up f n t) * (u : Int) = f u * (up f n t : Int) → up f n t ≤ u) := by
  have hm : 1 ≤ min n (2 ^ (t.log2 + 1) - 1) := by
    have := log_lt (t := t)
    omega
  obtain ⟨c1, c2, _⟩ := ch_rng (f := f) (min n (2 ^ (t.log2 + 1) - 1))
  have c3 := c2 hm
  refine ⟨c1, by unfold up; omega, log_le (by unfold up; have := log_lt (t := t); omega), fun u u1 u2 u3 => ?_⟩
  have hu : u < 2 ^ (t.log2 + 1) := Nat.lt_of_lt_of_le log_lt (Nat.pow_le_pow_right (by decide) (by omega))
  exact ch_min hp _ (by omega) u u1 (by omega)
/-- t and u are the first pair, of those with t up to s, that is as steep as any -/
structure StP (f : Nat → Int) (n s t u : Nat) : Prop where
  t1 : 1 ≤ t
  t2 : t ≤ n
  u1 : 1 ≤ u
  u2 : u ≤ n
  r : u.log2 ≤ t.log2
  all : ∀ t' u' : Nat, 1 ≤ t' → t' ≤ s → 1 ≤ u' → u' ≤ n → u'.log2 ≤ t'.log2 → f t' * (u' : Int) * (f u * (t : Int)) ≤ f t * (u : Int) * (f u' * (t' : Int)) ∧
    (f t' * (u' : Int) * (f u * (t : Int)) = f t * (u : Int) * (f u' * (t' : Int)) → t < t' ∨ (t = t' ∧ u ≤ u'))
theorem StP.zero (h : 1 ≤ n) : StP f n 0 1 1 := ⟨by omega, h, by omega, h, Nat.le_refl _, fun t' u' a b => by omega⟩
theorem pos2 (hp : Pos f n) {t u : Nat} (a : 1 ≤ t) (b : t ≤ n) (c : 1 ≤ u) : 0 < f t * (u : Int) := m_pos (hp t a b) (by omega)
/-- one t more; g, h: as steep as the best so far -/
theorem StP.step (hp : Pos f n) {s t u : Nat} {g h : Int} (S : StP f n s t u) (hs : s + 1 ≤ n) (hst : t ≤ max 1 s) (hh : 0 < h) (hg : g * (f u * (t : Int)) = f t * (u : Int) * h) :
    (g * (f (up f n (s + 1)) * ((s + 1 : Nat) : Int)) < f (s + 1) * (up f n (s + 1) : Int) * h → StP f n (s + 1) (s + 1) (up f n (s + 1))) ∧
    (¬ g * (f (up f n (s + 1)) * ((s + 1 : Nat) : Int)) < f (s + 1) * (up f n (s + 1) : Int) * h → StP f n (s + 1) t u) := by
  obtain ⟨a1, a2, a3, a4⟩ := up_ok hp (t := s + 1) (by omega) hs
  generalize up f n (s + 1) = U at a1 a2 a3 a4
  have ht : 0 < f u * (t : Int) := pos2 hp S.u1 S.u2 S.t1
  have hU : 0 < f U * ((s + 1 : Nat) : Int) := pos2 hp a1 a2 (by omega)
  have fs : 0 < f (s + 1) := hp _ (by omega) hs
  have ss : (0 : Int) < ((s + 1 : Nat) : Int) := by omega
  -- the same t, another u
  have same : ∀ u' : Nat, 1 ≤ u' → u' ≤ n → u'.log2 ≤ (s + 1).log2 → f (s + 1) * (u' : Int) * (f U * ((s + 1 : Nat) : Int)) ≤ f (s + 1) * (U : Int) * (f u' * ((s + 1 : Nat) : Int)) ∧
      (f (s + 1) * (u' : Int) * (f U * ((s + 1 : Nat) : Int)) = f (s + 1) * (U : Int) * (f u' * ((s + 1 : Nat) : Int)) → U ≤ u') := fun u' b1 b2 b3 => by
    obtain ⟨c1, c2⟩ := a4 u' b1 b2 b3
    have e1 : f (s + 1) * (u' : Int) * (f U * ((s + 1 : Nat) : Int)) = f U * (u' : Int) * (f (s + 1) * ((s + 1 : Nat) : Int)) := by
      simp only [Int.mul_assoc, Int.mul_comm, Int.mul_left_comm]
    have e2 : f (s + 1) * (U : Int) * (f u' * ((s + 1 : Nat) : Int)) = f u' * (U : Int) * (f (s + 1) * ((s + 1 : Nat) : Int)) := by
      simp only [Int.mul_assoc, Int.mul_comm, Int.mul_left_comm]
    rw [e1, e2]
    have hq := m_pos fs ss
    exact ⟨m_le c1 (Int.le_of_lt hq), fun z => c2 (eq_cancel hq z)⟩
  -- the best, as g / h
  have gh : ∀ {a b : Int}, 0 < b → (a * (f u * (t : Int)) ≤ f t * (u : Int) * b ↔ a * h ≤ g * b) := fun {a b} hb => by
    constructor
    · intro z; exact fr_le_le hb ht hh z (by rw [← hg]; exact Int.le_refl _)
    · intro z; exact fr_le_le hb hh ht z (by rw [hg]; exact Int.le_refl _)
  constructor
  · intro hlt
    have q : f t * (u : Int) * (f U * ((s + 1 : Nat) : Int)) < f (s + 1) * (U : Int) * (f u * (t : Int)) := fr_le_lt ht hh hU (by rw [← hg]; exact Int.le_refl _) hlt
    refine ⟨by omega, hs, a1, a2, a3, fun t' u' b1 b2 b3 b4 b5 => ?_⟩
    by_cases z : t' = s + 1
    · subst z
      obtain ⟨c1, c2⟩ := same u' b3 b4 b5
      exact ⟨c1, fun w => .inr ⟨rfl, c2 w⟩⟩
    · have c1 := (S.all t' u' b1 (by omega) b3 b4 b5).1
      have hb := pos2 hp b3 b4 b1
      have := fr_le_lt hb ht hU c1 q
      exact ⟨Int.le_of_lt this, fun w => by omega⟩
  · intro hle
    refine ⟨S.t1, S.t2, S.u1, S.u2, S.r, fun t' u' b1 b2 b3 b4 b5 => ?_⟩
    by_cases z : t' = s + 1
    · subst z
      obtain ⟨c1, c2⟩ := same u' b3 b4 b5
      have hb := pos2 hp b3 b4 (by omega : 1 ≤ s + 1)
      have q : f (s + 1) * (U : Int) * (f u * (t : Int)) ≤ f t * (u : Int) * (f U * ((s + 1 : Nat) : Int)) := (gh hU).mpr (by omega)
      refine ⟨fr_le_le hb hU ht c1 q, fun _ => ?_⟩
      by_cases w : t < s + 1
      · exact .inl w
      · have t1 : t = s + 1 := by omega
        have s0 : s = 0 := by omega
        subst s0
        have t2 : t = 1 := by omega
        subst t2
        refine .inr ⟨rfl, ?_⟩
        have : u.log2 ≤ (1 : Nat).log2 := S.r
        have u1 : u < 2 := by
          have h2 := log_lt (t := u)
          have : u.log2 = 0 := by
            have e : (1 : Nat).log2 = 0 := by decide
            omega
          rw [this] at h2; exact h2
        omega
    · exact S.all t' u' b1 (by omega) b3 b4 b5
/-! ### no prices are steeper than 2 -/
structure Pr (f : Nat → Int) (n : Nat) : Prop where
  up : ∀ i, 1 ≤ i → i + 1 ≤ n → f i ≤ f (i + 1)
  sub : ∀ i j, 1 ≤ i → 1 ≤ j → i + j ≤ n → f (i + j) ≤ f i + f j
theorem Pr.mono (p : Pr f n) {i j : Nat} (h1 : 1 ≤ i) (h2 : i ≤ j) (h3 : j ≤ n) : f i ≤ f j := by
  obtain ⟨d, rfl⟩ : ∃ d, j = i + d := ⟨j - i, by omega⟩
  clear h2
  induction d with
  | zero => exact Int.le_refl _
  | succ d ih =>
    have a := ih (by omega)
    have b := p.up (i + d) (by omega) (by omega)
    rw [show i + (d + 1) = i + d + 1 by omega]
    omega
theorem Pr.times (p : Pr f n) {u r : Nat} (hu : 1 ≤ u) (hun : u ≤ n) (hr : 1 ≤ r) (hru : r ≤ u) : ∀ k : Nat, k * u + r ≤ n → f (k * u + r) ≤ ((k : Int) + 1) * f u
  | 0, h => by
    have := p.mono hr hru hun
    simp only [Nat.zero_mul, Nat.zero_add]
    omega
  | k + 1, h => by
    have e : (k + 1) * u + r = (k * u + r) + u := by rw [Nat.succ_mul]; omega
    rw [e] at h ⊢
    have a := Pr.times p hu hun hr hru k (by omega)
    have b := p.sub (k * u + r) u (by omega) hu h
    have : (((k + 1 : Nat) : Int) + 1) * f u = ((k : Int) + 1) * f u + f u := by
      rw [Int.natCast_add, Int.add_mul]; simp
    rw [this]
    omega
theorem Pr.steep (p : Pr f n) (hp : Pos f n) {t u : Nat} (t1 : 1 ≤ t) (t2 : t ≤ n) (u1 : 1 ≤ u) (u2 : u ≤ n) (rl : u.log2 ≤ t.log2) : f t * (u : Int) ≤ 2 * (f u * (t : Int)) := by
  have fu := hp u u1 u2
  have key : ∀ {m : Int}, m ≤ 2 * (t : Int) → f u * m ≤ 2 * (f u * (t : Int)) := fun {m} h => by
    have := Int.mul_le_mul_of_nonneg_left h (Int.le_of_lt fu)
    rw [Int.mul_left_comm] at this
    exact this
  by_cases h : u ≤ t
  · obtain ⟨k, r, rfl, r1, r2⟩ : ∃ k r : Nat, t = k * u + r ∧ 1 ≤ r ∧ r ≤ u := by
      refine ⟨(t - 1) / u, (t - 1) % u + 1, ?_, by omega, ?_⟩
      · have := Nat.div_add_mod' (t - 1) u
        omega
      · have := Nat.mod_lt (t - 1) (show u > 0 by omega)
        omega
    have a := p.times u1 u2 r1 r2 k t2
    have b := m_le a (show (0 : Int) ≤ (u : Int) by omega)
    have e : ((k : Int) + 1) * f u * (u : Int) = f u * (((k : Int) + 1) * (u : Int)) := by rw [Int.mul_comm _ (f u), Int.mul_assoc]
    rw [e] at b
    refine Int.le_trans b (key ?_)
    have : ((k * u + r : Nat) : Int) = (k : Int) * (u : Int) + (r : Int) := by simp
    rw [this, Int.add_mul]
    have hk : (0 : Int) ≤ (k : Int) * (u : Int) := Int.mul_nonneg (by omega) (by omega)
    by_cases k0 : k = 0
    · subst k0; simp at h ⊢; omega
    · have hku : (u : Int) ≤ (k : Int) * (u : Int) := by
        have := m_le (show (1 : Int) ≤ (k : Int) by omega) (show (0 : Int) ≤ (u : Int) by omega)
        omega
      omega
  · have l := log_mono (show t ≤ u by omega)
    have hu := log_lt (t := u)
    have ht : 2 ^ t.log2 ≤ t := by
      have := Nat.log2_self_le (show t ≠ 0 by omega)
      exact this
    have e : u.log2 = t.log2 := by omega
    rw [e, Nat.pow_succ] at hu
    have a := m_le (p.mono t1 (show t ≤ u by omega) u2) (show (0 : Int) ≤ (u : Int) by omega)
    exact Int.le_trans a (key (by omega))
/-- rounded up -/
def cdiv (N l : Int) : Int := -((-N) / l)
theorem cdiv_ok {N l : Int} (hl : 0 < l) : N ≤ cdiv N l * l ∧ (cdiv N l - 1) * l < N := by
  unfold cdiv
  have a := Int.ediv_mul_le (-N) (Int.ne_of_gt hl)
  have b := Int.lt_ediv_add_one_mul_self (-N) hl
  generalize (-N) / l = q at a b
  have e1 : -q * l = -(q * l) := Int.neg_mul ..
  have e2 : (-q - 1) * l = -((q + 1) * l) := by rw [← Int.neg_mul]; congr 1; omega
  rw [e1, e2]
  omega
theorem cdiv_le {N l m : Int} (hl : 0 < l) (h : N ≤ m * l) : cdiv N l ≤ m := by
  have := (cdiv_ok (N := N) hl).2
  have : (cdiv N l - 1) * l < m * l := by omega
  have := lt_cancel hl this
  omega
end
end PM

end
section
set_option Elab.async false
set_option linter.all false
set_option maxHeartbeats 400000
/-! Sinking: the greatest prices below numbers. -/
namespace PM
open DD
def Sub1 (f : List Int) (i : Nat) : Prop := (i + 1 ≤ f.length → nth f i ≤ nth f (i + 1)) ∧ ∀ p q, 1 ≤ p → 1 ≤ q → p + q = i → nth f i ≤ nth f p + nth f q
structure Bel (ns gs : List Int) : Prop where
  len : gs.length = ns.length
  le : ∀ i, 1 ≤ i → i ≤ ns.length → nth gs i ≤ nth ns i
  pr : Pr (nth gs) ns.length
  gt : ∀ h : Nat → Int, Pr h ns.length → (∀ i, 1 ≤ i → i ≤ ns.length → h i ≤ nth ns i) → ∀ i, 1 ≤ i → i ≤ ns.length → h i ≤ nth gs i
/-- what has sunk so far -/
structure Snk (ns f : List Int) : Prop where
  len : f.length = ns.length
  le : ∀ i, 1 ≤ i → i ≤ ns.length → nth f i ≤ nth ns i
  gt : ∀ h : Nat → Int, Pr h ns.length → (∀ i, 1 ≤ i → i ≤ ns.length → h i ≤ nth ns i) → ∀ i, 1 ≤ i → i ≤ ns.length → h i ≤ nth f i
theorem Snk.start (ns : List Int) : Snk ns ns := ⟨rfl, fun _ _ _ => Int.le_refl _, fun _ _ h => h⟩
theorem nth_set {f : List Int} {a i : Nat} {m : Int} (ha : a < f.length) (hi : 1 ≤ i) : nth (f.set a m) i = if i = a + 1 then m else nth f i := by
  unfold nth
  rw [List.getD_eq_getElem?_getD, List.getD_eq_getElem?_getD]
  by_cases e : i = a + 1
  · rw [if_pos e, e, Nat.add_sub_cancel, List.getElem?_set_self ha]; rfl
  · rw [if_neg e, List.getElem?_set_ne (by omega)]
theorem sum_set : ∀ {f : List Int} {a : Nat} {m : Int}, a < f.length → (f.set a m).sum = f.sum - nth f (a + 1) + m
  | [], a, m, h => by simp at h
  | x :: f, 0, m, h => by simp [nth]; omega
  | x :: f, a + 1, m, h => by
    have ih := sum_set (f := f) (a := a) (m := m) (by simpa using h)
    have e : nth (x :: f) (a + 1 + 1) = nth f (a + 1) := by simp [nth]
    rw [e]
    simp only [List.set_cons_succ, List.sum_cons, ih]
    omega
/-- a step: m is the least of those that f may sink to at place a -/
def Cand (f : List Int) (a : Nat) (m : Int) : Prop := m = nth f (a + 1) ∨ (a + 2 ≤ f.length ∧ m = nth f (a + 2)) ∨ ∃ p q, 1 ≤ p ∧ 1 ≤ q ∧ p + q = a + 1 ∧ m = nth f p + nth f q
theorem Snk.step {ns f : List Int} {a : Nat} {m : Int} (S : Snk ns f) (ha : a < ns.length) (hc : Cand f a m) (hm : m ≤ nth f (a + 1)) : Snk ns (f.set a m) := by
  have hl := S.len
  refine ⟨by rw [List.length_set]; exact hl, fun i h1 h2 => ?_, fun h hp hb i h1 h2 => ?_⟩
  · rw [nth_set (by omega) h1]
    split
    · rename_i e; subst e; have := S.le (a + 1) h1 h2; omega
    · exact S.le i h1 h2
  · rw [nth_set (by omega) h1]
    split
    · rename_i e
      subst e
      rcases hc with e | ⟨h3, e⟩ | ⟨p, q, hp1, hq1, epq, e⟩
      · rw [e]; exact S.gt h hp hb _ h1 h2
      · rw [e]
        have a1 := hp.up (a + 1) (by omega) (by omega)
        have a2 := S.gt h hp hb (a + 2) (by omega) (by omega)
        have e2 : a + 1 + 1 = a + 2 := by omega
        rw [e2] at a1
        omega
      · rw [e]
        have a1 := hp.sub p q hp1 hq1 (by omega)
        have a2 := S.gt h hp hb p hp1 (by omega)
        have a3 := S.gt h hp hb q hq1 (by omega)
        rw [epq] at a1
        omega
    · exact S.gt h hp hb i h1 h2
theorem Snk.fix {ns f : List Int} (S : Snk ns f) (h : ∀ i, 1 ≤ i → i ≤ ns.length → Sub1 f i) : Bel ns f := by
  have hl := S.len
  exact ⟨S.len, S.le, ⟨fun i h1 h2 => (h i h1 (by omega)).1 (by omega), fun i j h1 h2 h3 => (h (i + j) (by omega) h3).2 i j h1 h2 rfl⟩, S.gt⟩
theorem Pr.const (n : Nat) {c : Int} (hc : 0 ≤ c) : Pr (fun _ => c) n := ⟨fun _ _ _ => Int.le_refl _, fun _ _ _ _ _ => by omega⟩
theorem nth_all {P : Int → Prop} {f : List Int} (h : ∀ i, 1 ≤ i → i ≤ f.length → P (nth f i)) : ∀ x ∈ f, P x := fun x hx => by
  obtain ⟨j, hj, e⟩ := List.getElem_of_mem hx
  have := h (j + 1) (by omega) (by omega)
  unfold nth at this
  rw [Nat.add_sub_cancel, List.getD_eq_getElem?_getD, List.getElem?_eq_getElem hj, Option.getD_some, e] at this
  exact this
theorem Snk.low {ns f : List Int} {c : Int} (S : Snk ns f) (hc : 0 ≤ c) (h : ∀ n ∈ ns, c ≤ n) : ∀ x ∈ f, c ≤ x :=
  nth_all fun i h1 h2 => S.gt _ (Pr.const _ hc) (fun i h1 h2 => h _ (nth_mem h1 h2)) i h1 (by rw [← S.len]; exact h2)
theorem Snk.high {ns f : List Int} {c : Int} (S : Snk ns f) (h : ∀ n ∈ ns, n < c) : ∀ x ∈ f, x < c :=
  nth_all fun i h1 h2 => Int.lt_of_le_of_lt (S.le i h1 (by rw [← S.len]; exact h2)) (h _ (nth_mem h1 (by rw [← S.len]; exact h2)))
theorem Bel.snk {ns f : List Int} (b : Bel ns f) : Snk ns f := ⟨b.len, b.le, b.gt⟩
theorem sum_nn : ∀ {f : List Int}, (∀ x ∈ f, 0 ≤ x) → 0 ≤ f.sum
  | [], _ => by simp
  | x :: f, h => by
    have a := h x (by simp)
    have b := sum_nn (f := f) fun y hy => h y (by simp [hy])
    rw [List.sum_cons]; omega
end PM

end
section
set_option Elab.async false
set_option linter.all false
set_option maxHeartbeats 400000
/-! Steepest pairs, by a list of all pairs; of numbers so many times as great. -/
namespace PM
open DD
theorem StP.congr {f g : Nat → Int} {n s t u : Nat} (h : ∀ i, 1 ≤ i → i ≤ n → g i = f i) (hs : s ≤ n) (S : StP f n s t u) : StP g n s t u := by
  refine ⟨S.t1, S.t2, S.u1, S.u2, S.r, fun t' u' a b c d e => ?_⟩
  rw [h t' a (by omega), h u S.u1 S.u2, h t S.t1 S.t2, h u' c d]
  exact S.all t' u' a b c d e
theorem StP.scale {f : Nat → Int} {n s t u : Nat} {c : Int} (hc : 0 < c) (S : StP f n s t u) : StP (fun i => c * f i) n s t u := by
  refine ⟨S.t1, S.t2, S.u1, S.u2, S.r, fun t' u' a b x d e => ?_⟩
  obtain ⟨h1, h2⟩ := S.all t' u' a b x d e
  have e1 : c * f t' * (u' : Int) * (c * f u * (t : Int)) = f t' * (u' : Int) * (f u * (t : Int)) * (c * c) := by simp only [Int.mul_assoc, Int.mul_comm, Int.mul_left_comm]
  have e2 : c * f t * (u : Int) * (c * f u' * (t' : Int)) = f t * (u : Int) * (f u' * (t' : Int)) * (c * c) := by simp only [Int.mul_assoc, Int.mul_comm, Int.mul_left_comm]
  have hcc := m_pos hc hc
  rw [e1, e2]
  exact ⟨m_le h1 (Int.le_of_lt hcc), fun z => h2 (eq_cancel hcc z)⟩
theorem nth_map {ns : List Int} {c : Int} {i : Nat} (h1 : 1 ≤ i) (h2 : i ≤ ns.length) : nth (ns.map fun x => c * x) i = c * nth ns i := by
  unfold nth
  have h : i - 1 < ns.length := by omega
  rw [List.getD_eq_getElem?_getD, List.getD_eq_getElem?_getD, List.getElem?_map, List.getElem?_eq_getElem h]
  rfl
theorem StP.one {f : Nat → Int} : StP f 1 1 1 1 := ⟨by omega, by omega, by omega, by omega, Nat.le_refl _, fun t' u' a b c d e => by
  have h1 : t' = 1 := by omega
  have h2 : u' = 1 := by omega
  subst h1 h2
  exact ⟨Int.le_refl _, fun _ => .inr ⟨rfl, Nat.le_refl _⟩⟩⟩
theorem StP.ge1 {f : Nat → Int} {n t u : Nat} (hp : Pos f n) (h1 : 1 ≤ n) (S : StP f n n t u) : f u * (t : Int) ≤ f t * (u : Int) := by
  have h2 := (S.all 1 1 (by omega) h1 (by omega) h1 (Nat.le_refl _)).1
  have hq := hp 1 (by omega) h1
  have e : ((1 : Nat) : Int) = 1 := rfl
  rw [e, Int.mul_one, Int.mul_comm] at h2
  exact le_cancel hq h2
def lx (p q : Nat × Nat) : Prop := p.1 < q.1 ∨ (p.1 = q.1 ∧ p.2 < q.2)
/-- the pairs told so far -/
structure PL (n i j : Nat) (L : List (Nat × Nat)) : Prop where
  ok : ∀ p ∈ L, 1 ≤ p.1 ∧ p.1 ≤ n ∧ 1 ≤ p.2 ∧ p.2 ≤ n ∧ p.2.log2 ≤ p.1.log2 ∧ (p.1 ≤ i ∨ (p.1 = i + 1 ∧ p.2 ≤ j))
  all : ∀ t u : Nat, 1 ≤ t → t ≤ n → 1 ≤ u → u ≤ n → u.log2 ≤ t.log2 → (t ≤ i ∨ (t = i + 1 ∧ u ≤ j)) → (t, u) ∈ L
  srt : L.Pairwise lx
  len : L.length ≤ i * n + j
theorem PL.start (n : Nat) : PL n 0 0 [] := ⟨fun p h => by simp at h, fun t u h1 h2 h3 h4 h5 h => by omega, List.Pairwise.nil, by simp⟩
theorem PL.next {n i : Nat} {L : List (Nat × Nat)} (h : PL n i n L) : PL n (i + 1) 0 L :=
  ⟨fun p hp => by obtain ⟨a, b, c, d, e, f⟩ := h.ok p hp; exact ⟨a, b, c, d, e, by omega⟩, fun t u h1 h2 h3 h4 h5 hh => h.all t u h1 h2 h3 h4 h5 (by omega), h.srt, by have := h.len; rw [Nat.succ_mul]; omega⟩
theorem PL.skip {n i j : Nat} {L : List (Nat × Nat)} (h : PL n i j L) (hr : ¬ (j + 1).log2 ≤ (i + 1).log2) : PL n i (j + 1) L :=
  ⟨fun p hp => by obtain ⟨a, b, c, d, e, f⟩ := h.ok p hp; exact ⟨a, b, c, d, e, by omega⟩, fun t u h1 h2 h3 h4 h5 hh => by
    by_cases z : t = i + 1 ∧ u = j + 1
    · obtain ⟨rfl, rfl⟩ := z; exact absurd h5 hr
    · exact h.all t u h1 h2 h3 h4 h5 (by omega), h.srt, by have := h.len; omega⟩
theorem PL.take {n i j : Nat} {L : List (Nat × Nat)} (h : PL n i j L) (hi : i < n) (hj : j < n) (hr : (j + 1).log2 ≤ (i + 1).log2) : PL n i (j + 1) (L ++ [(i + 1, j + 1)]) := by
  refine ⟨fun p hp => ?_, fun t u h1 h2 h3 h4 h5 hh => ?_, ?_, ?_⟩
  · rcases List.mem_append.mp hp with hp | hp
    · obtain ⟨a, b, c, d, e, f⟩ := h.ok p hp; exact ⟨a, b, c, d, e, by omega⟩
    · rw [List.mem_singleton.mp hp]; exact ⟨by omega, by omega, by omega, by omega, hr, .inr ⟨rfl, Nat.le_refl _⟩⟩
  · by_cases z : t = i + 1 ∧ u = j + 1
    · obtain ⟨rfl, rfl⟩ := z; exact List.mem_append.mpr (.inr (List.mem_singleton.mpr rfl))
    · exact List.mem_append.mpr (.inl (h.all t u h1 h2 h3 h4 h5 (by omega)))
  · refine List.pairwise_append.mpr ⟨h.srt, List.pairwise_singleton _ _, fun p hp q hq => ?_⟩
    rw [List.mem_singleton.mp hq]
    obtain ⟨a, b, c, d, e, f⟩ := h.ok p hp
    unfold lx
    show p.1 < i + 1 ∨ (p.1 = i + 1 ∧ p.2 < j + 1)
    omega
  · have := h.len; rw [List.length_append]; simp; omega
/-- b is the first of the steepest of the first k -/
structure PB (f : Nat → Int) (L : List (Nat × Nat)) (k : Nat) (b : Nat × Nat) : Prop where
  m : b ∈ L.take (k + 1)
  all : ∀ p ∈ L.take k, f p.1 * (p.2 : Int) * (f b.2 * (b.1 : Int)) ≤ f b.1 * (b.2 : Int) * (f p.2 * (p.1 : Int)) ∧
    (f p.1 * (p.2 : Int) * (f b.2 * (b.1 : Int)) = f b.1 * (b.2 : Int) * (f p.2 * (p.1 : Int)) → b.1 < p.1 ∨ (b.1 = p.1 ∧ b.2 ≤ p.2))
theorem PB.start {f : Nat → Int} {L : List (Nat × Nat)} {b : Nat × Nat} (h : L[0]? = some b) : PB f L 0 b := by
  refine ⟨?_, fun p hp => by simp at hp⟩
  cases L with
  | nil => cases h
  | cons x r => cases h; simp
theorem PB.step {f : Nat → Int} {n k : Nat} {L : List (Nat × Nat)} {b p : Nat × Nat} (hp : Pos f n) (pl : PL n n 0 L) (B : PB f L k b) (h : L[k]? = some p) :
    (f b.1 * (b.2 : Int) * (f p.2 * (p.1 : Int)) < f p.1 * (p.2 : Int) * (f b.2 * (b.1 : Int)) → PB f L (k + 1) p) ∧ (¬ f b.1 * (b.2 : Int) * (f p.2 * (p.1 : Int)) < f p.1 * (p.2 : Int) * (f b.2 * (b.1 : Int)) → PB f L (k + 1) b) := by
  have ht : L.take (k + 1) = L.take k ++ [p] := by rw [List.take_add_one, h]; rfl
  have mb : b ∈ L := List.mem_of_mem_take B.m
  have mp : p ∈ L := List.mem_of_getElem? h
  obtain ⟨b1, b2, b3, b4, _, _⟩ := pl.ok b mb
  obtain ⟨p1, p2, p3, p4, _, _⟩ := pl.ok p mp
  have pb : 0 < f b.2 * (b.1 : Int) := pos2 hp b3 b4 b1
  have pp : 0 < f p.2 * (p.1 : Int) := pos2 hp p3 p4 p1
  have up : L.take (k + 1) ⊆ L.take (k + 1 + 1) := fun x hx => by
    rw [List.take_add_one (i := k + 1)]; exact List.mem_append.mpr (.inl hx)
  constructor
  · intro hlt
    refine ⟨up (by rw [ht]; simp), fun q hq => ?_⟩
    rw [ht] at hq
    rcases List.mem_append.mp hq with hq | hq
    · obtain ⟨q1, q2, q3, q4, _, _⟩ := pl.ok q (List.mem_of_mem_take hq)
      have pq : 0 < f q.2 * (q.1 : Int) := pos2 hp q3 q4 q1
      have := fr_le_lt pq pb pp (B.all q hq).1 hlt
      exact ⟨Int.le_of_lt this, fun e => by omega⟩
    · rw [List.mem_singleton.mp hq]; exact ⟨Int.le_refl _, fun _ => .inr ⟨rfl, Nat.le_refl _⟩⟩
  · intro hle
    refine ⟨up B.m, fun q hq => ?_⟩
    rw [ht] at hq
    rcases List.mem_append.mp hq with hq | hq
    · exact B.all q hq
    · rw [List.mem_singleton.mp hq]
      refine ⟨by omega, fun _ => ?_⟩
      have hb := B.m
      rw [ht] at hb
      rcases List.mem_append.mp hb with hb | hb
      · have hs : (L.take (k + 1)).Pairwise lx := pl.srt.sublist (List.take_sublist _ _)
        rw [ht] at hs
        have := (List.pairwise_append.mp hs).2.2 b hb p (List.mem_singleton.mpr rfl)
        unfold lx at this
        omega
      · rw [List.mem_singleton.mp hb]; exact .inr ⟨rfl, Nat.le_refl _⟩
theorem PB.stp {f : Nat → Int} {n : Nat} {L : List (Nat × Nat)} {b : Nat × Nat} (pl : PL n n 0 L) (B : PB f L L.length b) : StP f n n b.1 b.2 := by
  have mb : b ∈ L := List.mem_of_mem_take B.m
  obtain ⟨b1, b2, b3, b4, b5, _⟩ := pl.ok b mb
  refine ⟨b1, b2, b3, b4, b5, fun t u a c d e g => ?_⟩
  have h := B.all (t, u) (by rw [List.take_of_length_le (Nat.le_refl _)]; exact pl.all t u a c d e g (.inl c))
  exact h
end PM

end
section
set_option Elab.async false
set_option linter.all false
set_option maxHeartbeats 400000
/-! The greatest prices below numbers, by what covers cost at least; built prices. -/
namespace PM
open DD
/-- c s: the least that a cover of s costs, for s up to m -/
structure DP (ns : List Int) (m : Nat) (c : Nat → Int) : Prop where
  z : c 0 = 0
  at_ : ∀ s, 1 ≤ s → s ≤ m → ∃ f, 1 ≤ f ∧ f ≤ ns.length ∧ c s = nth ns f + c (s - f)
  le : ∀ s f, 1 ≤ s → s ≤ m → 1 ≤ f → f ≤ ns.length → c s ≤ nth ns f + c (s - f)
section
variable {ns : List Int} {m : Nat} {c : Nat → Int}
theorem DP.nn (d : DP ns m c) (h0 : ∀ n ∈ ns, 0 ≤ n) : ∀ s, s ≤ m → 0 ≤ c s := by
  intro s
  induction s using Nat.strongRecOn with
  | ind s ih =>
    intro h
    by_cases e : s = 0
    · subst e; rw [d.z]; omega
    · obtain ⟨f, f1, f2, e2⟩ := d.at_ s (by omega) h
      have := ih (s - f) (by omega) (by omega)
      have := h0 _ (nth_mem f1 f2)
      omega
theorem DP.mono1 (d : DP ns m c) (h0 : ∀ n ∈ ns, 0 ≤ n) : ∀ s, s + 1 ≤ m → c s ≤ c (s + 1) := by
  intro s
  induction s using Nat.strongRecOn with
  | ind s ih =>
    intro h
    obtain ⟨f, f1, f2, e⟩ := d.at_ (s + 1) (by omega) h
    by_cases z : s = 0
    · subst z
      rw [d.z]; exact d.nn h0 _ h
    · have a := d.le s f (by omega) (by omega) f1 f2
      by_cases g : f ≤ s
      · have b := ih (s - f) (by omega) (by omega)
        rw [show s - f + 1 = s + 1 - f by omega] at b
        omega
      · rw [show s - f = 0 by omega] at a
        rw [show s + 1 - f = 0 by omega] at e
        omega
theorem DP.mono (d : DP ns m c) (h0 : ∀ n ∈ ns, 0 ≤ n) {i j : Nat} (h : i ≤ j) (hj : j ≤ m) : c i ≤ c j := by
  obtain ⟨k, rfl⟩ : ∃ k, j = i + k := ⟨j - i, by omega⟩
  clear h
  induction k with
  | zero => exact Int.le_refl _
  | succ k ih =>
    have a := ih (by omega)
    have b := d.mono1 h0 (i + k) (by omega)
    rw [show i + (k + 1) = i + k + 1 by omega]
    omega
theorem DP.sub (d : DP ns m c) (h0 : ∀ n ∈ ns, 0 ≤ n) : ∀ i j, 1 ≤ i → 1 ≤ j → i + j ≤ m → c (i + j) ≤ c i + c j := by
  intro i
  induction i using Nat.strongRecOn with
  | ind i ih =>
    intro j h1 h2 h3
    obtain ⟨f, f1, f2, e⟩ := d.at_ i h1 (by omega)
    have a := d.le (i + j) f (by omega) h3 f1 f2
    by_cases g : f < i
    · have b := ih (i - f) (by omega) j (by omega) h2 (by omega)
      rw [show i - f + j = i + j - f by omega] at b
      omega
    · rw [show i - f = 0 by omega, d.z] at e
      have b := d.mono h0 (show i + j - f ≤ j by omega) (by omega)
      omega
theorem DP.gt (d : DP ns m c) {h : Nat → Int} (hp : Pr h ns.length) (hb : ∀ i, 1 ≤ i → i ≤ ns.length → h i ≤ nth ns i) : ∀ s, 1 ≤ s → s ≤ m → s ≤ ns.length → h s ≤ c s := by
  intro s
  induction s using Nat.strongRecOn with
  | ind s ih =>
    intro h1 h2 h3
    obtain ⟨f, f1, f2, e⟩ := d.at_ s h1 h2
    have b := hb f f1 f2
    by_cases g : f < s
    · have a := ih (s - f) (by omega) (by omega) (by omega) (by omega)
      have q := hp.sub f (s - f) f1 (by omega) (by omega)
      rw [show f + (s - f) = s by omega] at q
      omega
    · rw [show s - f = 0 by omega, d.z] at e
      have q := hp.mono h1 (show s ≤ f by omega) f2
      omega
/-- what stands behind the first 0 -/
theorem nth_tail {x : Int} {cs : List Int} {i : Nat} (h : 1 ≤ i) : nth cs i = (x :: cs).getD i 0 := by
  obtain ⟨j, rfl⟩ : ∃ j, i = j + 1 := ⟨i - 1, by omega⟩
  unfold nth
  rw [Nat.add_sub_cancel]
  simp
theorem DP.bel {cs : List Int} (d : DP ns ns.length fun s => (0 :: cs).getD s 0) (hl : cs.length = ns.length) (h0 : ∀ n ∈ ns, 0 ≤ n) : Bel ns cs := by
  have e : ∀ i, 1 ≤ i → nth cs i = (0 :: cs).getD i 0 := fun i h => nth_tail h
  refine ⟨hl, fun i h1 h2 => ?_, ⟨fun i h1 h2 => ?_, fun i j h1 h2 h3 => ?_⟩, fun h hp hb i h1 h2 => ?_⟩
  · rw [e i h1]
    have := d.le i i h1 h2 h1 h2
    rw [Nat.sub_self, d.z] at this
    omega
  · rw [e i h1, e (i + 1) (by omega)]
    exact d.mono1 h0 i h2
  · rw [e (i + j) (by omega), e i h1, e j h2]
    exact d.sub h0 i j h1 h2 h3
  · rw [e i h1]
    exact d.gt hp hb i h1 h2 h2
end
theorem nth_ext {xs ys : List Int} (hl : xs.length = ys.length) (h : ∀ i, 1 ≤ i → i ≤ xs.length → nth xs i = nth ys i) : xs = ys := by
  refine List.ext_getElem hl fun i h1 h2 => ?_
  have := h (i + 1) (by omega) (by omega)
  unfold nth at this
  rw [Nat.add_sub_cancel, List.getD_eq_getElem?_getD, List.getD_eq_getElem?_getD, List.getElem?_eq_getElem h1, List.getElem?_eq_getElem h2] at this
  exact this
theorem Bel.uniq {ns a b : List Int} (x : Bel ns a) (y : Bel ns b) : a = b := by
  refine nth_ext (by rw [x.len, y.len]) fun i h1 h2 => ?_
  rw [x.len] at h2
  exact Int.le_antisymm (y.gt _ x.pr x.le i h1 h2) (x.gt _ y.pr y.le i h1 h2)
theorem Bel.self {ns : List Int} (p : Pr (nth ns) ns.length) : Bel ns ns := ⟨rfl, fun _ _ _ => Int.le_refl _, p, fun _ _ h => h⟩
theorem Bel.mono {ns ms a b : List Int} (hl : ns.length ≤ ms.length) (h : ∀ i, 1 ≤ i → i ≤ ns.length → nth ns i ≤ nth ms i) (x : Bel ns a) (y : Bel (ms.take ns.length) b) : ∀ i, 1 ≤ i → i ≤ ns.length → nth a i ≤ nth b i := by
  have el : (ms.take ns.length).length = ns.length := by rw [List.length_take]; omega
  intro i h1 h2
  refine y.gt (nth a) (by rw [el]; exact x.pr) (fun j j1 j2 => ?_) i h1 (by rw [el]; exact h2)
  rw [el] at j2
  have q := x.le j j1 j2
  have e : nth (ms.take ns.length) j = nth ms j := by
    unfold nth
    rw [List.getD_eq_getElem?_getD, List.getD_eq_getElem?_getD, List.getElem?_take, if_pos (by omega)]
  rw [e]
  have := h j j1 j2
  omega
/-! ### built prices -/
theorem nth_rng {f : Nat → Int} {m i : Nat} (h1 : 1 ≤ i) (h2 : i ≤ m) : nth ((List.range m).map f) i = f (i - 1) := by
  unfold nth
  rw [List.getD_eq_getElem?_getD, List.getElem?_map, List.getElem?_range (by omega)]
  rfl
theorem pr_rng {g : Nat → Int} {m : Nat} (p : Pr g m) : Pr (nth ((List.range m).map fun i => g (i + 1))) ((List.range m).map fun i => g (i + 1)).length := by
  rw [List.length_map, List.length_range]
  have e : ∀ i, 1 ≤ i → i ≤ m → nth ((List.range m).map fun i => g (i + 1)) i = g i := fun i h1 h2 => by
    rw [nth_rng h1 h2, show i - 1 + 1 = i by omega]
  exact ⟨fun i h1 h2 => by rw [e i h1 (by omega), e (i + 1) (by omega) h2]; exact p.up i h1 h2, fun i j h1 h2 h3 => by rw [e (i + j) (by omega) h3, e i h1 (by omega), e j h2 (by omega)]; exact p.sub i j h1 h2 h3⟩
theorem Pr.lin {m : Nat} {a b : Int} (ha : 0 ≤ a) (hb : 0 ≤ b) : Pr (fun s => a + b * (s : Int)) m :=
  ⟨fun i _ _ => by
    have : b * ((i + 1 : Nat) : Int) = b * (i : Int) + b := by rw [Int.natCast_add, Int.mul_add]; simp
    rw [this]; omega, fun i j _ _ _ => by
    have : b * ((i + j : Nat) : Int) = b * (i : Int) + b * (j : Int) := by rw [Int.natCast_add, Int.mul_add]
    show a + b * ((i + j : Nat) : Int) ≤ a + b * (i : Int) + (a + b * (j : Int))
    rw [this]; omega⟩
theorem Pr.min {m : Nat} {f g : Nat → Int} (p : Pr f m) (q : Pr g m) (hfg : ∀ i j, 1 ≤ i → 1 ≤ j → i + j ≤ m → g (i + j) ≤ f i + g j ∨ f (i + j) ≤ f i + g j) : Pr (fun s => if g s < f s then g s else f s) m := by
  refine ⟨fun i h1 h2 => ?_, fun i j h1 h2 h3 => ?_⟩
  · have a := p.up i h1 h2
    have b := q.up i h1 h2
    show (if g i < f i then g i else f i) ≤ (if g (i + 1) < f (i + 1) then g (i + 1) else f (i + 1))
    split <;> split <;> omega
  · have a := p.sub i j h1 h2 h3
    have b := q.sub i j h1 h2 h3
    have c := hfg i j h1 h2 h3
    have d := hfg j i h2 h1 (by omega)
    rw [show j + i = i + j by omega] at d
    show (if g (i + j) < f (i + j) then g (i + j) else f (i + j)) ≤ (if g i < f i then g i else f i) + (if g j < f j then g j else f j)
    split <;> split <;> split <;> omega
theorem Pr.ceil {m : Nat} {a b : Int} (ha : 0 ≤ a) (hb : 0 < b) : Pr (fun s => a * (((s : Int) + b - 1) / b)) m := by
  have key : ∀ x y : Int, x / b + 1 ≤ y / b ∨ x / b ≥ y / b := fun x y => by omega
  refine ⟨fun i _ _ => ?_, fun i j _ _ _ => ?_⟩
  · refine Int.mul_le_mul_of_nonneg_left ?_ ha
    exact Int.ediv_le_ediv hb (by omega)
  · have : ((((i + j : Nat) : Int) + b - 1) / b) ≤ (((i : Int) + b - 1) / b) + (((j : Int) + b - 1) / b) := by
      refine Int.le_of_lt_add_one ((Int.ediv_lt_iff_lt_mul hb).mpr ?_)
      have h1 := Int.lt_ediv_add_one_mul_self ((i : Int) + b - 1) hb
      have h2 := Int.lt_ediv_add_one_mul_self ((j : Int) + b - 1) hb
      generalize ((i : Int) + b - 1) / b = x at h1 h2 ⊢
      generalize ((j : Int) + b - 1) / b = y at h1 h2 ⊢
      have e1 : (x + 1) * b = x * b + b := by rw [Int.add_mul]; omega
      have e2 : (y + 1) * b = y * b + b := by rw [Int.add_mul]; omega
      have e3 : (x + y + 1) * b = x * b + y * b + b := by rw [Int.add_mul, Int.add_mul]; omega
      rw [e1] at h1
      rw [e2] at h2
      rw [e3]
      have : ((i + j : Nat) : Int) = (i : Int) + (j : Int) := by omega
      rw [this]
      omega
    have h3 := Int.mul_le_mul_of_nonneg_left this ha
    rw [Int.mul_add] at h3
    exact h3
end PM
namespace PM
open DD
theorem getD_app {cs : List Int} {m : Int} {s : Nat} : (cs ++ [m]).getD s 0 = if s < cs.length then cs.getD s 0 else if s = cs.length then m else 0 := by
  rw [List.getD_eq_getElem?_getD, List.getElem?_append]
  split
  · rw [List.getD_eq_getElem?_getD]
  · rename_i h
    by_cases e : s = cs.length
    · rw [if_pos e, e]; simp
    · rw [if_neg e]
      have : 1 ≤ s - cs.length := by omega
      rw [List.getElem?_eq_none (by simp; omega)]; rfl
theorem DP.start (ns : List Int) : DP ns 0 fun s => [(0 : Int)].getD s 0 := ⟨rfl, fun s h1 h2 => by omega, fun s f h1 h2 => by omega⟩
theorem DP.step {ns cs : List Int} {i : Nat} {m : Int} (hl : cs.length = i + 1) (d : DP ns i fun s => cs.getD s 0) (hm : ∃ f, 1 ≤ f ∧ f ≤ ns.length ∧ m = nth ns f + cs.getD (i + 1 - f) 0) (hle : ∀ f, 1 ≤ f → f ≤ ns.length → m ≤ nth ns f + cs.getD (i + 1 - f) 0) : DP ns (i + 1) fun s => (cs ++ [m]).getD s 0 := by
  have e1 : ∀ s, s ≤ i → (cs ++ [m]).getD s 0 = cs.getD s 0 := fun s h => by rw [getD_app, if_pos (by omega)]
  have e2 : (cs ++ [m]).getD (i + 1) 0 = m := by rw [getD_app, if_neg (by omega), if_pos hl.symm]
  refine ⟨?_, fun s h1 h2 => ?_, fun s f h1 h2 f1 f2 => ?_⟩
  · show (cs ++ [m]).getD 0 0 = 0
    rw [e1 0 (by omega)]; exact d.z
  · by_cases z : s = i + 1
    · subst z
      obtain ⟨f, f1, f2, e⟩ := hm
      refine ⟨f, f1, f2, ?_⟩
      show (cs ++ [m]).getD (i + 1) 0 = _ + (cs ++ [m]).getD (i + 1 - f) 0
      rw [e2, e1 _ (by omega)]; exact e
    · obtain ⟨f, f1, f2, e⟩ := d.at_ s h1 (by omega)
      refine ⟨f, f1, f2, ?_⟩
      show (cs ++ [m]).getD s 0 = _ + (cs ++ [m]).getD (s - f) 0
      rw [e1 _ (by omega), e1 _ (by omega)]; exact e
  · show (cs ++ [m]).getD s 0 ≤ _ + (cs ++ [m]).getD (s - f) 0
    by_cases z : s = i + 1
    · subst z
      rw [e2, e1 _ (by omega)]; exact hle f f1 f2
    · rw [e1 _ (by omega), e1 _ (by omega)]; exact d.le s f h1 (by omega) f1 f2
end PM

end
section
set_option Elab.async false
set_option linter.all false
set_option maxRecDepth 100000
set_option maxHeartbeats 1000000
/-! Layouts, as plain lists. -/
namespace LY
open PySem PySem.Spec PyProof.Rows L2 GL DD
inductive Wd where | file | hole | gone | shade
  deriving DecidableEq
def Wd.nm : Wd → Str
  | .file => "file" | .hole => "hole" | .gone => "gone" | .shade => "shade"
structure Th where
  w : Wd
  s : Int
  z : Int
  deriving DecidableEq
structure Rg where
  r : Int
  p : List Th
  m : List Th
  deriving DecidableEq
def eT (t : Th) : D := .tup [.str t.w.nm, .int t.s, .int t.z]
def eTs (ts : List Th) : D := .tup (ts.map eT)
def eR (g : Rg) : D := .tup [.int g.r, eTs g.p, eTs g.m]
def eRs (gs : List Rg) : D := .tup (gs.map eR)
def cells (ts : List Th) : Int := (ts.map (·.z)).sum
def room (q : Int) (g : Rg) : Int := cells g.p / q
def fr (q : Int) (g : Rg) : Int := room q g - cells g.m
/-- the rank of a size from 1 on -/
def rk (z : Int) : Int := (z.toNat.log2 : Int)
theorem rk_eq {z : Int} {r : Nat} (h1 : 2 ^ r ≤ z.toNat) (h2 : z.toNat < 2 ^ (r + 1)) : rk z = r := by
  unfold rk
  have h0 : z.toNat ≠ 0 := by have : 0 < 2 ^ r := Nat.pow_pos (by decide); omega
  have a : z.toNat.log2 < r + 1 := (Nat.log2_lt h0).mpr h2
  have b : r ≤ z.toNat.log2 := (Nat.le_log2 h0).mpr h1
  omega
end LY

end
section
set_option Elab.async false
set_option linter.all false
set_option maxRecDepth 100000
set_option maxHeartbeats 4000000
namespace Mine
open PySem PySem.Spec PyProof.Rows L2 GL LamX DD
def topS (i : Nat) : Stmt := PySem.Challenge.pw_priceblind_k03_a_disk_by_an_own_one.main.body.getD i (.Pass ⟨0, 0, 0, 0⟩)
def clsBody : Stmt → List Stmt
  | .ClassDef _ _ _ b _ _ _ _ _ _ _ => b
  | _ => []
abbrev s_is_integer : Stmt := topS 2
abbrev N_is_integer : List Str := ["value"]
abbrev P_is_integer : List Str := ["value"]
theorem sc_is_integer : FnScope N_is_integer P_is_integer (defScope s_is_integer) := ⟨rfl, rfl, rfl, by decide +kernel, rfl, by decide +kernel, by decide +kernel⟩
abbrev s_is_within : Stmt := topS 3
abbrev N_is_within : List Str := ["value", "least", "most"]
abbrev P_is_within : List Str := ["value", "least", "most"]
theorem sc_is_within : FnScope N_is_within P_is_within (defScope s_is_within) := ⟨rfl, rfl, rfl, by decide +kernel, rfl, by decide +kernel, by decide +kernel⟩
abbrev s_are_integers : Stmt := topS 4
abbrev N_are_integers : List Str := ["value", "item"]
abbrev P_are_integers : List Str := ["value"]
theorem sc_are_integers : FnScope N_are_integers P_are_integers (defScope s_are_integers) := ⟨rfl, rfl, rfl, by decide +kernel, rfl, by decide +kernel, by decide +kernel⟩
abbrev s_is_lot : Stmt := topS 5
abbrev N_is_lot : List Str := ["value", "many", "least", "number"]
abbrev P_is_lot : List Str := ["value", "many"]
theorem sc_is_lot : FnScope N_is_lot P_is_lot (defScope s_is_lot) := ⟨rfl, rfl, rfl, by decide +kernel, rfl, by decide +kernel, by decide +kernel⟩
abbrev s_may_be_held : Stmt := topS 15
abbrev N_may_be_held : List Str := ["value"]
abbrev P_may_be_held : List Str := ["value"]
theorem sc_may_be_held : FnScope N_may_be_held P_may_be_held (defScope s_may_be_held) := ⟨rfl, rfl, rfl, by decide +kernel, rfl, by decide +kernel, by decide +kernel⟩
abbrev s_check_track : Stmt := topS 16
abbrev N_check_track : List Str := ["track"]
abbrev P_check_track : List Str := ["track"]
theorem sc_check_track : FnScope N_check_track P_check_track (defScope s_check_track) := ⟨rfl, rfl, rfl, by decide +kernel, rfl, by decide +kernel, by decide +kernel⟩
abbrev s_check_cell : Stmt := topS 17
abbrev N_check_cell : List Str := ["track", "at"]
abbrev P_check_cell : List Str := ["track", "at"]
theorem sc_check_cell : FnScope N_check_cell P_check_cell (defScope s_check_cell) := ⟨rfl, rfl, rfl, by decide +kernel, rfl, by decide +kernel, by decide +kernel⟩
abbrev s_Umost_from : Stmt := topS 18
abbrev N_Umost_from : List Str := ["at"]
abbrev P_Umost_from : List Str := ["at"]
theorem sc_Umost_from : FnScope N_Umost_from P_Umost_from (defScope s_Umost_from) := ⟨rfl, rfl, rfl, by decide +kernel, rfl, by decide +kernel, by decide +kernel⟩
abbrev s_Umay_be_written : Stmt := topS 19
abbrev N_Umay_be_written : List Str := ["values", "at", "value"]
abbrev P_Umay_be_written : List Str := ["values", "at"]
theorem sc_Umay_be_written : FnScope N_Umay_be_written P_Umay_be_written (defScope s_Umay_be_written) := ⟨rfl, rfl, rfl, by decide +kernel, rfl, by decide +kernel, by decide +kernel⟩
abbrev s_Disk_init : Stmt := (clsBody (topS 20)).getD 0 (.Pass ⟨0, 0, 0, 0⟩)
abbrev N_Disk_init : List Str := ["self", "_"]
abbrev P_Disk_init : List Str := ["self"]
theorem sc_Disk_init : FnScope N_Disk_init P_Disk_init (defScope s_Disk_init) := ⟨rfl, rfl, rfl, by decide +kernel, rfl, by decide +kernel, by decide +kernel⟩
abbrev s_Disk_write : Stmt := (clsBody (topS 20)).getD 1 (.Pass ⟨0, 0, 0, 0⟩)
abbrev N_Disk_write : List Str := ["self", "track", "at", "values", "value"]
abbrev P_Disk_write : List Str := ["self", "track", "at", "values"]
theorem sc_Disk_write : FnScope N_Disk_write P_Disk_write (defScope s_Disk_write) := ⟨rfl, rfl, rfl, by decide +kernel, rfl, by decide +kernel, by decide +kernel⟩
abbrev s_Disk_flush : Stmt := (clsBody (topS 20)).getD 2 (.Pass ⟨0, 0, 0, 0⟩)
abbrev N_Disk_flush : List Str := ["self"]
abbrev P_Disk_flush : List Str := ["self"]
theorem sc_Disk_flush : FnScope N_Disk_flush P_Disk_flush (defScope s_Disk_flush) := ⟨rfl, rfl, rfl, by decide +kernel, rfl, by decide +kernel, by decide +kernel⟩
abbrev s_Disk_read : Stmt := (clsBody (topS 20)).getD 3 (.Pass ⟨0, 0, 0, 0⟩)
abbrev N_Disk_read : List Str := ["self", "track", "at", "many", "landed", "latest", "cell"]
abbrev P_Disk_read : List Str := ["self", "track", "at", "many"]
theorem sc_Disk_read : FnScope N_Disk_read P_Disk_read (defScope s_Disk_read) := ⟨rfl, rfl, rfl, by decide +kernel, rfl, by decide +kernel, by decide +kernel⟩
abbrev s_Disk_kept : Stmt := (clsBody (topS 20)).getD 4 (.Pass ⟨0, 0, 0, 0⟩)
abbrev N_Disk_kept : List Str := ["self", "track", "pair"]
abbrev P_Disk_kept : List Str := ["self", "track"]
theorem sc_Disk_kept : FnScope N_Disk_kept P_Disk_kept (defScope s_Disk_kept) := ⟨rfl, rfl, rfl, by decide +kernel, rfl, by decide +kernel, by decide +kernel⟩
abbrev s_Disk_waiting : Stmt := (clsBody (topS 20)).getD 5 (.Pass ⟨0, 0, 0, 0⟩)
abbrev N_Disk_waiting : List Str := ["self"]
abbrev P_Disk_waiting : List Str := ["self"]
theorem sc_Disk_waiting : FnScope N_Disk_waiting P_Disk_waiting (defScope s_Disk_waiting) := ⟨rfl, rfl, rfl, by decide +kernel, rfl, by decide +kernel, by decide +kernel⟩
abbrev s_Disk_cut : Stmt := (clsBody (topS 20)).getD 6 (.Pass ⟨0, 0, 0, 0⟩)
abbrev N_Disk_cut : List Str := ["self", "lands", "number"]
abbrev P_Disk_cut : List Str := ["self", "lands"]
theorem sc_Disk_cut : FnScope N_Disk_cut P_Disk_cut (defScope s_Disk_cut) := ⟨rfl, rfl, rfl, by decide +kernel, rfl, by decide +kernel, by decide +kernel⟩
abbrev s_Disk__spend : Stmt := (clsBody (topS 20)).getD 9 (.Pass ⟨0, 0, 0, 0⟩)
abbrev N_Disk__spend : List Str := ["self"]
abbrev P_Disk__spend : List Str := ["self"]
theorem sc_Disk__spend : FnScope N_Disk__spend P_Disk__spend (defScope s_Disk__spend) := ⟨rfl, rfl, rfl, by decide +kernel, rfl, by decide +kernel, by decide +kernel⟩
abbrev s_Disk__land : Stmt := (clsBody (topS 20)).getD 10 (.Pass ⟨0, 0, 0, 0⟩)
abbrev N_Disk__land : List Str := ["self", "strokes", "track", "at", "value"]
abbrev P_Disk__land : List Str := ["self", "strokes"]
theorem sc_Disk__land : FnScope N_Disk__land P_Disk__land (defScope s_Disk__land) := ⟨rfl, rfl, rfl, by decide +kernel, rfl, by decide +kernel, by decide +kernel⟩
abbrev s_Disk__forget_strokes : Stmt := (clsBody (topS 20)).getD 11 (.Pass ⟨0, 0, 0, 0⟩)
abbrev N_Disk__forget_strokes : List Str := ["self", "_"]
abbrev P_Disk__forget_strokes : List Str := ["self"]
theorem sc_Disk__forget_strokes : FnScope N_Disk__forget_strokes P_Disk__forget_strokes (defScope s_Disk__forget_strokes) := ⟨rfl, rfl, rfl, by decide +kernel, rfl, by decide +kernel, by decide +kernel⟩
abbrev s_Lrig : Stmt := topS 22
abbrev N_Lrig : List Str := ["script", "cell"]
abbrev P_Lrig : List Str := ["script"]
theorem sc_Lrig : FnScope N_Lrig P_Lrig (defScope s_Lrig) := ⟨rfl, rfl, rfl, by decide +kernel, rfl, by decide +kernel, by decide +kernel⟩
abbrev s_Lhaul : Stmt := topS 23
abbrev N_Lhaul : List Str := ["rig", "many", "rest", "at", "cell", "mixed"]
abbrev P_Lhaul : List Str := ["rig", "many"]
theorem sc_Lhaul : FnScope N_Lhaul P_Lhaul (defScope s_Lhaul) := ⟨rfl, rfl, rfl, by decide +kernel, rfl, by decide +kernel, by decide +kernel⟩
abbrev s_Lpick : Stmt := topS 24
abbrev N_Lpick : List Str := ["rig", "some"]
abbrev P_Lpick : List Str := ["rig", "some"]
theorem sc_Lpick : FnScope N_Lpick P_Lpick (defScope s_Lpick) := ⟨rfl, rfl, rfl, by decide +kernel, rfl, by decide +kernel, by decide +kernel⟩
abbrev s_Llot : Stmt := topS 25
abbrev N_Llot : List Str := ["rig", "many", "number"]
abbrev P_Llot : List Str := ["rig", "many"]
theorem sc_Llot : FnScope N_Llot P_Llot (defScope s_Llot) := ⟨rfl, rfl, rfl, by decide +kernel, rfl, by decide +kernel, by decide +kernel⟩
abbrev s_Lland : Stmt := topS 26
abbrev N_Lland : List Str := ["lies", "waits", "lands", "number", "place", "value"]
abbrev P_Lland : List Str := ["lies", "waits", "lands"]
theorem sc_Lland : FnScope N_Lland P_Lland (defScope s_Lland) := ⟨rfl, rfl, rfl, by decide +kernel, rfl, by decide +kernel, by decide +kernel⟩
abbrev s_Lkept : Stmt := topS 27
abbrev N_Lkept : List Str := ["lies", "track", "place"]
abbrev P_Lkept : List Str := ["lies", "track"]
theorem sc_Lkept : FnScope N_Lkept P_Lkept (defScope s_Lkept) := ⟨rfl, rfl, rfl, by decide +kernel, rfl, by decide +kernel, by decide +kernel⟩
abbrev s_Lreads : Stmt := topS 28
abbrev N_Lreads : List Str := ["lies", "waits", "track", "at", "many", "found", "each", "last", "place", "value"]
abbrev P_Lreads : List Str := ["lies", "waits", "track", "at", "many"]
theorem sc_Lreads : FnScope N_Lreads P_Lreads (defScope s_Lreads) := ⟨rfl, rfl, rfl, by decide +kernel, rfl, by decide +kernel, by decide +kernel⟩
abbrev s_Lis : Stmt := topS 29
abbrev N_Lis : List Str := ["disk", "lies", "waits", "told"]
abbrev P_Lis : List Str := ["disk", "lies", "waits"]
theorem sc_Lis : FnScope N_Lis P_Lis (defScope s_Lis) := ⟨rfl, rfl, rfl, by decide +kernel, rfl, by decide +kernel, by decide +kernel⟩
abbrev s_Lvalues : Stmt := topS 30
abbrev N_Lvalues : List Str := ["rig", "turn"]
abbrev P_Lvalues : List Str := ["rig"]
theorem sc_Lvalues : FnScope N_Lvalues P_Lvalues (defScope s_Lvalues) := ⟨rfl, rfl, rfl, by decide +kernel, rfl, by decide +kernel, by decide +kernel⟩
abbrev s_Lplace : Stmt := topS 31
abbrev N_Lplace : List Str := ["rig", "home"]
abbrev P_Lplace : List Str := ["rig", "home"]
theorem sc_Lplace : FnScope N_Lplace P_Lplace (defScope s_Lplace) := ⟨rfl, rfl, rfl, by decide +kernel, rfl, by decide +kernel, by decide +kernel⟩
abbrev s_Ldone : Stmt := topS 32
abbrev N_Ldone : List Str := ["rig", "disk", "lies", "waits", "home", "way", "told", "track", "at", "values", "handed", "number", "value", "lands"]
abbrev P_Ldone : List Str := ["rig", "disk", "lies", "waits", "home"]
theorem sc_Ldone : FnScope N_Ldone P_Ldone (defScope s_Ldone) := ⟨rfl, rfl, rfl, by decide +kernel, rfl, by decide +kernel, by decide +kernel⟩
abbrev s_law : Stmt := topS 33
abbrev N_law : List Str := ["script", "rig", "disk", "lies", "waits", "home", "turn", "track", "at", "many"]
abbrev P_law : List Str := ["script"]
theorem sc_law : FnScope N_law P_law (defScope s_law) := ⟨rfl, rfl, rfl, by decide +kernel, rfl, by decide +kernel, by decide +kernel⟩

structure Txt (K : PySem.W.Frag) (mg : Str → Option Value) (fs : Nat → Addr) (fd : Nat → FuncData) (tk : Nat → Tok) (cp : Nat → Addr) : Prop where
  f_is_integer : Fun K "is_integer" "is_integer" s_is_integer (fs 0) (fd 0)
  m_is_integer : mg "is_integer" = some (.ref (fs 0))
  f_is_within : Fun K "is_within" "is_within" s_is_within (fs 1) (fd 1)
  m_is_within : mg "is_within" = some (.ref (fs 1))
  f_are_integers : Fun K "are_integers" "are_integers" s_are_integers (fs 2) (fd 2)
  m_are_integers : mg "are_integers" = some (.ref (fs 2))
  f_is_lot : Fun K "is_lot" "is_lot" s_is_lot (fs 3) (fd 3)
  m_is_lot : mg "is_lot" = some (.ref (fs 3))
  f_may_be_held : Fun K "may_be_held" "may_be_held" s_may_be_held (fs 4) (fd 4)
  m_may_be_held : mg "may_be_held" = some (.ref (fs 4))
  f_check_track : Fun K "check_track" "check_track" s_check_track (fs 5) (fd 5)
  m_check_track : mg "check_track" = some (.ref (fs 5))
  f_check_cell : Fun K "check_cell" "check_cell" s_check_cell (fs 6) (fd 6)
  m_check_cell : mg "check_cell" = some (.ref (fs 6))
  f_Umost_from : Fun K "_most_from" "_most_from" s_Umost_from (fs 7) (fd 7)
  m_Umost_from : mg "_most_from" = some (.ref (fs 7))
  f_Umay_be_written : Fun K "_may_be_written" "_may_be_written" s_Umay_be_written (fs 8) (fd 8)
  m_Umay_be_written : mg "_may_be_written" = some (.ref (fs 8))
  f_Disk_init : Fun K "__init__" "Disk.__init__" s_Disk_init (fs 9) (fd 9)
  f_Disk_write : Fun K "write" "Disk.write" s_Disk_write (fs 10) (fd 10)
  f_Disk_flush : Fun K "flush" "Disk.flush" s_Disk_flush (fs 11) (fd 11)
  f_Disk_read : Fun K "read" "Disk.read" s_Disk_read (fs 12) (fd 12)
  f_Disk_kept : Fun K "kept" "Disk.kept" s_Disk_kept (fs 13) (fd 13)
  f_Disk_waiting : Fun K "waiting" "Disk.waiting" s_Disk_waiting (fs 14) (fd 14)
  f_Disk_cut : Fun K "cut" "Disk.cut" s_Disk_cut (fs 15) (fd 15)
  f_Disk__spend : Fun K "_spend" "Disk._spend" s_Disk__spend (fs 16) (fd 16)
  f_Disk__land : Fun K "_land" "Disk._land" s_Disk__land (fs 17) (fd 17)
  f_Disk__forget_strokes : Fun K "_forget_strokes" "Disk._forget_strokes" s_Disk__forget_strokes (fs 18) (fd 18)
  f_Lrig : Fun K "_law_rig" "_law_rig" s_Lrig (fs 19) (fd 19)
  m_Lrig : mg "_law_rig" = some (.ref (fs 19))
  f_Lhaul : Fun K "_law_haul" "_law_haul" s_Lhaul (fs 20) (fd 20)
  m_Lhaul : mg "_law_haul" = some (.ref (fs 20))
  f_Lpick : Fun K "_law_pick" "_law_pick" s_Lpick (fs 21) (fd 21)
  m_Lpick : mg "_law_pick" = some (.ref (fs 21))
  f_Llot : Fun K "_law_lot" "_law_lot" s_Llot (fs 22) (fd 22)
  m_Llot : mg "_law_lot" = some (.ref (fs 22))
  f_Lland : Fun K "_law_land" "_law_land" s_Lland (fs 23) (fd 23)
  m_Lland : mg "_law_land" = some (.ref (fs 23))
  f_Lkept : Fun K "_law_kept" "_law_kept" s_Lkept (fs 24) (fd 24)
  m_Lkept : mg "_law_kept" = some (.ref (fs 24))
  f_Lreads : Fun K "_law_reads" "_law_reads" s_Lreads (fs 25) (fd 25)
  m_Lreads : mg "_law_reads" = some (.ref (fs 25))
  f_Lis : Fun K "_law_is" "_law_is" s_Lis (fs 26) (fd 26)
  m_Lis : mg "_law_is" = some (.ref (fs 26))
  f_Lvalues : Fun K "_law_values" "_law_values" s_Lvalues (fs 27) (fd 27)
  m_Lvalues : mg "_law_values" = some (.ref (fs 27))
  f_Lplace : Fun K "_law_place" "_law_place" s_Lplace (fs 28) (fd 28)
  m_Lplace : mg "_law_place" = some (.ref (fs 28))
  f_Ldone : Fun K "_law_done" "_law_done" s_Ldone (fs 29) (fd 29)
  m_Ldone : mg "_law_done" = some (.ref (fs 29))
  f_law : Fun K "law" "law" s_law (fs 30) (fd 30)
  m_law : mg "law" = some (.ref (fs 30))
  c_TRACKS : mg "TRACKS" = some (.int 3 (tk 0))
  c_LAST_CELL : mg "LAST_CELL" = some (.int 10000000 (tk 1))
  c_GREATEST_VALUE : mg "GREATEST_VALUE" = some (.int 9223372036854775807 (tk 2))
  c_MOST_AT_ONCE : mg "MOST_AT_ONCE" = some (.int 4096 (tk 3))
  z_abs : mg "abs" = none
  z_all : mg "all" = none
  z_bool : mg "bool" = none
  z_enumerate : mg "enumerate" = none
  z_int : mg "int" = none
  z_isinstance : mg "isinstance" = none
  z_len : mg "len" = none
  z_list : mg "list" = none
  z_min : mg "min" = none
  z_range : mg "range" = none
  z_repr : mg "repr" = none
  z_sorted : mg "sorted" = none
  z_tuple : mg "tuple" = none
  m_Disk : mg "Disk" = some (.ref (cp 0))
  k_Disk : Mk K (cp 0) (fs 9)
  c_Disk : Cls K (cp 0)
  t_Disk : InsC K (cp 0)
  n_Disk_cells : NoAttr K (cp 0) "cells"
  n_Disk_strokes : NoAttr K (cp 0) "strokes"
  n_Disk_latest : NoAttr K (cp 0) "latest"
  n_Disk_left : NoAttr K (cp 0) "left"
  mt_Disk_write : Meth K (cp 0) "write" (fs 10)
  mt_Disk_flush : Meth K (cp 0) "flush" (fs 11)
  mt_Disk_read : Meth K (cp 0) "read" (fs 12)
  mt_Disk_kept : Meth K (cp 0) "kept" (fs 13)
  mt_Disk_waiting : Meth K (cp 0) "waiting" (fs 14)
  mt_Disk_cut : Meth K (cp 0) "cut" (fs 15)
  mt_Disk__spend : Meth K (cp 0) "_spend" (fs 16)
  mt_Disk__land : Meth K (cp 0) "_land" (fs 17)
  mt_Disk__forget_strokes : Meth K (cp 0) "_forget_strokes" (fs 18)
section
variable {K : PySem.W.Frag} {mg : Str → Option Value} {fs : Nat → Addr} {fd : Nat → FuncData} {tk : Nat → Tok} {cp : Nat → Addr}
theorem b_is_integer (T : Txt K mg fs fd tk cp) : Binds K (fd 0) P_is_integer [] := T.f_is_integer.binds fun _ _ _ _ _ _ us hl => match us, hl with | [_], _ => rfl
theorem b_is_within (T : Txt K mg fs fd tk cp) : Binds K (fd 1) P_is_within [] := T.f_is_within.binds fun _ _ _ _ _ _ us hl => match us, hl with | [_, _, _], _ => rfl
theorem b_are_integers (T : Txt K mg fs fd tk cp) : Binds K (fd 2) P_are_integers [] := T.f_are_integers.binds fun _ _ _ _ _ _ us hl => match us, hl with | [_], _ => rfl
theorem b_is_lot (T : Txt K mg fs fd tk cp) : Binds K (fd 3) P_is_lot [] := T.f_is_lot.binds fun _ _ _ _ _ _ us hl => match us, hl with | [_, _], _ => rfl
theorem b_may_be_held (T : Txt K mg fs fd tk cp) : Binds K (fd 4) P_may_be_held [] := T.f_may_be_held.binds fun _ _ _ _ _ _ us hl => match us, hl with | [_], _ => rfl
theorem b_check_track (T : Txt K mg fs fd tk cp) : Binds K (fd 5) P_check_track [] := T.f_check_track.binds fun _ _ _ _ _ _ us hl => match us, hl with | [_], _ => rfl
theorem b_check_cell (T : Txt K mg fs fd tk cp) : Binds K (fd 6) P_check_cell [] := T.f_check_cell.binds fun _ _ _ _ _ _ us hl => match us, hl with | [_, _], _ => rfl
theorem b_Umost_from (T : Txt K mg fs fd tk cp) : Binds K (fd 7) P_Umost_from [] := T.f_Umost_from.binds fun _ _ _ _ _ _ us hl => match us, hl with | [_], _ => rfl
theorem b_Umay_be_written (T : Txt K mg fs fd tk cp) : Binds K (fd 8) P_Umay_be_written [] := T.f_Umay_be_written.binds fun _ _ _ _ _ _ us hl => match us, hl with | [_, _], _ => rfl
theorem b_Disk_init (T : Txt K mg fs fd tk cp) : Binds K (fd 9) P_Disk_init [] := T.f_Disk_init.binds fun _ _ _ _ _ _ us hl => match us, hl with | [_], _ => rfl
theorem b_Disk_write (T : Txt K mg fs fd tk cp) : Binds K (fd 10) P_Disk_write [] := T.f_Disk_write.binds fun _ _ _ _ _ _ us hl => match us, hl with | [_, _, _, _], _ => rfl
theorem b_Disk_flush (T : Txt K mg fs fd tk cp) : Binds K (fd 11) P_Disk_flush [] := T.f_Disk_flush.binds fun _ _ _ _ _ _ us hl => match us, hl with | [_], _ => rfl
theorem b_Disk_read (T : Txt K mg fs fd tk cp) : Binds K (fd 12) P_Disk_read [] := T.f_Disk_read.binds fun _ _ _ _ _ _ us hl => match us, hl with | [_, _, _, _], _ => rfl
theorem b_Disk_kept (T : Txt K mg fs fd tk cp) : Binds K (fd 13) P_Disk_kept [] := T.f_Disk_kept.binds fun _ _ _ _ _ _ us hl => match us, hl with | [_, _], _ => rfl
theorem b_Disk_waiting (T : Txt K mg fs fd tk cp) : Binds K (fd 14) P_Disk_waiting [] := T.f_Disk_waiting.binds fun _ _ _ _ _ _ us hl => match us, hl with | [_], _ => rfl
theorem b_Disk_cut (T : Txt K mg fs fd tk cp) : Binds K (fd 15) P_Disk_cut [] := T.f_Disk_cut.binds fun _ _ _ _ _ _ us hl => match us, hl with | [_, _], _ => rfl
theorem b_Disk__spend (T : Txt K mg fs fd tk cp) : Binds K (fd 16) P_Disk__spend [] := T.f_Disk__spend.binds fun _ _ _ _ _ _ us hl => match us, hl with | [_], _ => rfl
theorem b_Disk__land (T : Txt K mg fs fd tk cp) : Binds K (fd 17) P_Disk__land [] := T.f_Disk__land.binds fun _ _ _ _ _ _ us hl => match us, hl with | [_, _], _ => rfl
theorem b_Disk__forget_strokes (T : Txt K mg fs fd tk cp) : Binds K (fd 18) P_Disk__forget_strokes [] := T.f_Disk__forget_strokes.binds fun _ _ _ _ _ _ us hl => match us, hl with | [_], _ => rfl
theorem b_Lrig (T : Txt K mg fs fd tk cp) : Binds K (fd 19) P_Lrig [] := T.f_Lrig.binds fun _ _ _ _ _ _ us hl => match us, hl with | [_], _ => rfl
theorem b_Lhaul (T : Txt K mg fs fd tk cp) : Binds K (fd 20) P_Lhaul [] := T.f_Lhaul.binds fun _ _ _ _ _ _ us hl => match us, hl with | [_, _], _ => rfl
theorem b_Lpick (T : Txt K mg fs fd tk cp) : Binds K (fd 21) P_Lpick [] := T.f_Lpick.binds fun _ _ _ _ _ _ us hl => match us, hl with | [_, _], _ => rfl
theorem b_Llot (T : Txt K mg fs fd tk cp) : Binds K (fd 22) P_Llot [] := T.f_Llot.binds fun _ _ _ _ _ _ us hl => match us, hl with | [_, _], _ => rfl
theorem b_Lland (T : Txt K mg fs fd tk cp) : Binds K (fd 23) P_Lland [] := T.f_Lland.binds fun _ _ _ _ _ _ us hl => match us, hl with | [_, _, _], _ => rfl
theorem b_Lkept (T : Txt K mg fs fd tk cp) : Binds K (fd 24) P_Lkept [] := T.f_Lkept.binds fun _ _ _ _ _ _ us hl => match us, hl with | [_, _], _ => rfl
theorem b_Lreads (T : Txt K mg fs fd tk cp) : Binds K (fd 25) P_Lreads [] := T.f_Lreads.binds fun _ _ _ _ _ _ us hl => match us, hl with | [_, _, _, _, _], _ => rfl
theorem b_Lis (T : Txt K mg fs fd tk cp) : Binds K (fd 26) P_Lis [] := T.f_Lis.binds fun _ _ _ _ _ _ us hl => match us, hl with | [_, _, _], _ => rfl
theorem b_Lvalues (T : Txt K mg fs fd tk cp) : Binds K (fd 27) P_Lvalues [] := T.f_Lvalues.binds fun _ _ _ _ _ _ us hl => match us, hl with | [_], _ => rfl
theorem b_Lplace (T : Txt K mg fs fd tk cp) : Binds K (fd 28) P_Lplace [] := T.f_Lplace.binds fun _ _ _ _ _ _ us hl => match us, hl with | [_, _], _ => rfl
theorem b_Ldone (T : Txt K mg fs fd tk cp) : Binds K (fd 29) P_Ldone [] := T.f_Ldone.binds fun _ _ _ _ _ _ us hl => match us, hl with | [_, _, _, _, _], _ => rfl
theorem b_law (T : Txt K mg fs fd tk cp) : Binds K (fd 30) P_law [] := T.f_law.binds fun _ _ _ _ _ _ us hl => match us, hl with | [_], _ => rfl
def g_kw_Disk_kept_1_track {α : Type} (us ws : List α) : List α := match us, ws with
  | [u0], [w0] => [u0, w0]
  | _, _ => []
theorem kw_Disk_kept_1_track (T : Txt K mg fs fd tk cp) : KwB K (fd 13) P_Disk_kept 1 ["track"] g_kw_Disk_kept_1_track := by
  obtain ⟨oc, od, kV, doc, pm, an, cd, ct, osl, e, _⟩ := T.f_Disk_kept.ex
  refine ⟨fun s us ws h1 h2 => ?_, fun {vs us zs ws} h1 h2 r1 r2 => ?_⟩
  · rw [e]
    exact match us, ws, h1, h2 with | [_], [_], _, _ => .of_eq rfl
  · exact match vs, us, zs, ws, r1, r2, h1, h2 with | [_], [_], [_], [_], (.cons ru0 (.nil)), (.cons rw0 (.nil)), _, _ => .cons ru0 (.cons rw0 (.nil))
def g_kw_Disk_write_1_values_at_track {α : Type} (us ws : List α) : List α := match us, ws with
  | [u0], [w0, w1, w2] => [u0, w2, w1, w0]
  | _, _ => []
theorem kw_Disk_write_1_values_at_track (T : Txt K mg fs fd tk cp) : KwB K (fd 10) P_Disk_write 1 ["values", "at", "track"] g_kw_Disk_write_1_values_at_track := by
  obtain ⟨oc, od, kV, doc, pm, an, cd, ct, osl, e, _⟩ := T.f_Disk_write.ex
  refine ⟨fun s us ws h1 h2 => ?_, fun {vs us zs ws} h1 h2 r1 r2 => ?_⟩
  · rw [e]
    exact match us, ws, h1, h2 with | [_], [_, _, _], _, _ => .of_eq rfl
  · exact match vs, us, zs, ws, r1, r2, h1, h2 with | [_], [_], [_, _, _], [_, _, _], (.cons ru0 (.nil)), (.cons rw0 (.cons rw1 (.cons rw2 (.nil)))), _, _ => .cons ru0 (.cons rw2 (.cons rw1 (.cons rw0 (.nil))))
def g_kw_Disk_cut_1_lands {α : Type} (us ws : List α) : List α := match us, ws with
  | [u0], [w0] => [u0, w0]
  | _, _ => []
theorem kw_Disk_cut_1_lands (T : Txt K mg fs fd tk cp) : KwB K (fd 15) P_Disk_cut 1 ["lands"] g_kw_Disk_cut_1_lands := by
  obtain ⟨oc, od, kV, doc, pm, an, cd, ct, osl, e, _⟩ := T.f_Disk_cut.ex
  refine ⟨fun s us ws h1 h2 => ?_, fun {vs us zs ws} h1 h2 r1 r2 => ?_⟩
  · rw [e]
    exact match us, ws, h1, h2 with | [_], [_], _, _ => .of_eq rfl
  · exact match vs, us, zs, ws, r1, r2, h1, h2 with | [_], [_], [_], [_], (.cons ru0 (.nil)), (.cons rw0 (.nil)), _, _ => .cons ru0 (.cons rw0 (.nil))
def g_kw_Disk_read_1_many_track_at {α : Type} (us ws : List α) : List α := match us, ws with
  | [u0], [w0, w1, w2] => [u0, w1, w2, w0]
  | _, _ => []
theorem kw_Disk_read_1_many_track_at (T : Txt K mg fs fd tk cp) : KwB K (fd 12) P_Disk_read 1 ["many", "track", "at"] g_kw_Disk_read_1_many_track_at := by
  obtain ⟨oc, od, kV, doc, pm, an, cd, ct, osl, e, _⟩ := T.f_Disk_read.ex
  refine ⟨fun s us ws h1 h2 => ?_, fun {vs us zs ws} h1 h2 r1 r2 => ?_⟩
  · rw [e]
    exact match us, ws, h1, h2 with | [_], [_, _, _], _, _ => .of_eq rfl
  · exact match vs, us, zs, ws, r1, r2, h1, h2 with | [_], [_], [_, _, _], [_, _, _], (.cons ru0 (.nil)), (.cons rw0 (.cons rw1 (.cons rw2 (.nil)))), _, _ => .cons ru0 (.cons rw1 (.cons rw2 (.cons rw0 (.nil))))
end
def spLaw (K : PySem.W.Frag) : Sp := fun vs H Q _ => ∃ (a : Addr) (ns : List Int), vs = [.ref a] ∧ SqL K H a (ns.map V.int) ∧ ns.length ≤ 63 ∧ ∀ H', Q (.bl true) H'
theorem law_pre {K : PySem.W.Frag} {H : Hp} {a : Addr} {ns : List Int} (hl : ns.length ≤ 63) (hS : SqL K H a (ns.map V.int)) : spLaw K [.ref a] H (fun v _ => v = .bl true) fun _ _ _ => False := ⟨a, ns, rfl, hS, hl, fun _ => rfl⟩
end Mine

end
namespace Mine
open PySem PySem.Spec PyProof.Rows L2 GL DD
set_option hygiene false in
local macro_rules | `(tactic| walk_at "rz") => `(tactic| ((with_reducible refine' DS.raise1 rfl rfl ?rzcl ?_); (case rzcl => fail)))
local macro_rules | `(tactic| walk_at "n") => `(tactic| (try dsimp only [sh_d, sh_n, upds, slots, List.length_cons, List.length_nil, of_d, of_n, of_o, at_d, cxOf, Cx.nox, Cx.wish, List.cons_append, List.nil_append, List.map_cons, List.map_nil, Int.reduceToNat, List.set, List.getElem?_cons_zero, List.getElem?_cons_succ, List.set_cons_zero, List.set_cons_succ]))
local macro_rules | `(tactic| walk_at "1DE") => `(tactic| first
  | (with_reducible refine' DE.and ?_)
  | (with_reducible refine' DE.or ?_)
  | (with_reducible refine' DE.not ?_)
  | (with_reducible refine' DE.ite ?_)
  | ((with_reducible refine' DE.var ?h ?q); (case h => rfl))
  | ((with_reducible refine' DE.own ?h ?q); (case h => rfl))
  | ((with_reducible refine' DE.c ?h ?q); (case h => constructor))
  | ((with_reducible refine' DE.isX ?c ?q); (case c => decide))
  | ((with_reducible refine' DE.isX2 ?c ?c2 ?q); (case c => decide); (case c2 => decide))
  | ((with_reducible refine' DE.isO ?h ?q); (case h => assumption))
  | (with_reducible refine' DE.strO ?_)
  | (with_reducible refine' DE.join ?_)
  | (with_reducible refine' DE.joined ?_)
  | (with_reducible refine' DE.tupOf ?_)
  | (with_reducible refine' DE.cb ?_)
  | (with_reducible refine' DE.call ?_)
  | ((with_reducible refine' DE.callY ?hE ?_); (case hE => rfl))
  | ((with_reducible refine' DE.makeY ?hE ?_); (case hE => rfl))
  | (with_reducible refine' DE.make ?_)
  | (with_reducible refine' DE.fld ?_)
  | (with_reducible refine' DE.chain ?_)
  | (with_reducible refine' DE.neg ?_)
  | (with_reducible refine' DE.dnew ?_)
  | (with_reducible refine' DE.dget ?_)
  | (with_reducible refine' DE.get2 ?_)
  | (with_reducible refine' DE.din ?_)
  | ((with_reducible refine' DE.kwX ?hE ?_); (case hE => rfl))
  | (with_reducible refine' DE.kwC ?_)
  | (with_reducible refine' DE.opO ?_)
  | (with_reducible refine' DE.opT (r := rRepT _) ?_)
  | (with_reducible refine' DE.opT (r := rCatA _) ?_)
  | (with_reducible refine' DE.op ?_)
  | (with_reducible refine' DE.bits ?_)
  | (with_reducible refine' DE.tup ?_)
  | (with_reducible refine' DE.lst ?_)
  | (with_reducible refine' DE.opT ?_)
  | (with_reducible refine' DE.cbT ?_)
  | (with_reducible refine' DE.append ?_)
  | (with_reducible refine' DE.extend ?_)
  | (with_reducible refine' DE.slL ?_)
  | (with_reducible refine' DE.slT ?_))
local macro_rules | `(tactic| walk_at "1DS") => `(tactic| first
  | (with_reducible refine' DS.seq ?_)
  | (with_reducible refine' DS.next ?_)
  | ((with_reducible refine' DS.ret (DE.move ?h ?q)); (case h => rfl))
  | (with_reducible refine' DS.ret ?_)
  | (with_reducible refine' DS.ite ?_)
  | (with_reducible refine' DS.drop ?_)
  | walk_at "rz"
  | (with_reducible refine' DS.fldN ?_)
  | (with_reducible refine' DS.setL ?_)
  | (with_reducible refine' DS.dput ?_)
  | (with_reducible refine' DS.asg ?_)
  | (with_reducible refine' DS.aug ?_)
  | (with_reducible refine' DS.par ?_)
  | (with_reducible refine' DS.par3 ?_))
local macro_rules | `(tactic| walk_at "1ex") => `(tactic| first
  | (with_reducible assumption)
  | (refine ⟨_, rfl, rfl, List.nodup_nil, ?_⟩)
  | (refine ⟨_, rfl, rfl, (show List.Nodup _ by decide), ?_⟩)
  | (refine ⟨_, _, _, _, rfl, rfl, rfl, ?_⟩)
  | (refine ⟨_, rfl, ?_⟩)
  | (refine ⟨_, _, rfl, rfl, ?_⟩)
  | (refine ⟨_, _, _, rfl, rfl, ?_⟩)
  | (refine ⟨_, _, _, rfl, ?_⟩)
  | (refine ⟨_, _, rfl, ?_⟩)
  | (refine ⟨(show List.Nodup _ by decide), ?_⟩)
  | (refine ⟨⟨_, _, rfl⟩, ?_⟩)
  | (refine ⟨free_of rfl, ?_⟩)
  | (refine ⟨free_so rfl, ?_⟩)
  | (refine ⟨trivial, ?_⟩)
  | (refine ⟨rfl, ?_⟩)
  | (refine And.intro (by assumption) ?_)
  | (refine ⟨(show _ ≤ sizeLine by unfold sizeLine; first | decide | omega | (simp; done) | (simp; omega)), ?_⟩)
  | (refine ⟨(show _ < sizeLine by unfold sizeLine; first | omega | (simp; omega)), ?_⟩)
  | (refine ⟨_, _, rfl, (by assumption), ?_⟩)
  | (refine ⟨_, _, _, rfl, (by assumption), ?_⟩)
  | (refine ⟨_, _, _, _, rfl, (by assumption), ?_⟩))
local macro_rules | `(tactic| walk_at "1DAo") => `(tactic| first
  | (with_reducible refine' DAo.nil ?_)
  | (with_reducible refine' DAo.cons ?_))
local macro_rules | `(tactic| walk_at "1DT") => `(tactic| first
  | (with_reducible refine' DT.val ?_)
  | (with_reducible refine' DT.test ?_)
  | (with_reducible refine' DT.not ?_)
  | (with_reducible refine' DT.and ?_)
  | (with_reducible refine' DT.or ?_)
  | (with_reducible refine' DT.yes ?_))
local macro_rules | `(tactic| walk_at "1If") => `(tactic| first
  | ((with_reducible refine' ifP ?h ?q); (case h => first | assumption | rfl | decide))
  | ((with_reducible refine' ifN ?h ?q); (case h => first | assumption | (intro z; cases z; done) | decide)))
local macro_rules | `(tactic| walk_at "1DGo") => `(tactic| first
  | ((with_reducible refine' DGo.name ?h ?q); (case h => first | exact free_of rfl | exact free_so rfl))
  | ((with_reducible refine' DGo.tup ?h ?h2 ?q); (case h => rfl); (case h2 => rfl)))
local macro_rules | `(tactic| walk_at "1DI") => `(tactic| first
  | ((with_reducible refine' DI.seqV ?h ?h2 ?q); (case h => rfl); (case h2 => first | assumption | rfl))
  | (with_reducible refine' DI.list ?_)
  | (with_reducible refine' DI.tup ?_)
  | (with_reducible refine' DI.zip ?_)
  | (with_reducible refine' DI.enum ?_)
  | (with_reducible refine' DI.rng2 ?_)
  | (with_reducible refine' DI.rng1 ?_)
  | (with_reducible refine' DI.enumT ?_))
local macro_rules | `(tactic| walk_at "1DG") => `(tactic| first
  | ((with_reducible refine' DG.name ?h ?q); (case h => first | exact free_of rfl | exact free_so rfl))
  | ((with_reducible refine' DG.tup ?h ?h2 ?q); (case h => rfl); (case h2 => rfl)))
local macro_rules | `(tactic| walk_at "1DGos") => `(tactic| first
  | (with_reducible refine' DGos.cons ?_)
  | (with_reducible refine' DGos.nil ?_))
local macro_rules | `(tactic| walk_at "1DGs") => `(tactic| first
  | (with_reducible refine' DGs.cons ?_)
  | (with_reducible refine' DGs.nil ?_))
local macro_rules | `(tactic| walk_at "1r2") => `(tactic| first
  | ((with_reducible refine' r2_int ?h ?q); (case h => constructor))
  | ((with_reducible refine' r2_isN ?h ?q); (case h => rfl))
  | ((with_reducible refine' r2_notN ?h ?q); (case h => rfl))
  | ((with_reducible refine' r2_eq ?h ?h2 ?h3 ?q); (case h => rfl); (case h2 => rfl); (case h3 => rfl))
  | ((with_reducible refine' r2_ne ?h ?h2 ?h3 ?q); (case h => rfl); (case h2 => rfl); (case h3 => rfl))
  | ((with_reducible refine' r2_fdiv ?h ?q); (case h => exact ⟨by first | omega | decide, by first | omega | decide⟩))
  | ((with_reducible refine' r2_fdivW ?h ?q); (case h => first | exact cdivW2 (by first | omega | decide) (by first | omega | decide)))
  | ((with_reducible refine' r2_mulW ?h ?q); (case h => exact cmulW 64 64 (by first | omega | decide) (by first | omega | decide) (by decide) (by decide) (by decide)))
  | ((with_reducible refine' r2_shl ?h ?q); (case h => exact cshl (by first | omega | decide) (by first | omega | decide) (by first | omega | decide)))
  | ((with_reducible refine' r2_ixTx ?h ?h2 ?q); (case h => rfl); (case h2 => first | rfl | assumption))
  | ((with_reducible refine' r2_ixLx ?h ?h2 ?q); (case h => rfl); (case h2 => first | rfl | assumption))
  | ((with_reducible refine' r2_catTx ?h ?h2 ?h3 ?q); (case h => rfl); (case h2 => rfl); (case h3 => unfold sizeLine; first | omega | (simp; done) | (simp; omega)))
  | ((with_reducible refine' r2_cat ?h ?q); (case h => unfold sizeLine; first | omega | (simp; done) | (simp; omega)))
  | ((with_reducible refine' r2_ix ?h ?h2 ?q); (case h => first | rfl | assumption); (case h2 => first | rfl | assumption))
  | (with_reducible refine' r2_isBl ?_)
  | (with_reducible refine' r2_neInts ?_)
  | ((with_reducible refine' r2_mul ?h ?q); (case h => first | exact .inl ⟨by first | decide | omega, by first | decide | omega⟩ | exact .inr ⟨by first | decide | omega, by first | decide | omega⟩))
  | ((with_reducible refine' r2_mod ?h ?q); (case h => first | assumption | decide | omega))
  | ((with_reducible refine' r2_pow ?h ?q); (case h => exact ⟨by first | decide | omega, by first | decide | omega, by first | assumption | decide | omega⟩)))
local macro_rules | `(tactic| walk_at "1rl") => `(tactic| first
  | ((with_reducible refine' rl_lenV ?h ?q); (case h => rfl))
  | ((with_reducible refine' rl_len ?h ?q); (case h => rfl))
  | ((with_reducible refine' rl_int ?h ?q); (case h => rfl))
  | (with_reducible refine' rl_abs ?_)
  | (with_reducible refine' rl_max2 ?_)
  | (with_reducible refine' rl_min2 ?_)
  | (with_reducible refine' rl_sumM ?_)
  | (with_reducible refine' rl_allM ?_)
  | (with_reducible refine' rl_anyM ?_)
  | (with_reducible refine' rl_sum ?_)
  | (with_reducible refine' rl_all ?_)
  | (with_reducible refine' rl_any ?_))
local macro_rules | `(tactic| walk_at "1z") => `(tactic| first
  | (with_reducible refine' DJ.nil ?_)
  | (with_reducible refine' DJ.cons ?_)
  | (with_reducible refine' DO.nil ?_)
  | (with_reducible refine' DO.one ?_)
  | (with_reducible assumption)
  | (with_reducible intro (_ : List SV))
  | (refine ⟨_, rfl, rfl, List.nodup_nil, ?_⟩)
  | (refine ⟨_, rfl, rfl, (show List.Nodup _ by decide), ?_⟩)
  | (refine ⟨_, _, _, _, rfl, rfl, rfl, ?_⟩)
  | (refine ⟨_, rfl, ?_⟩)
  | (refine ⟨_, _, rfl, rfl, ?_⟩)
  | (refine ⟨_, _, _, rfl, rfl, ?_⟩)
  | (refine ⟨_, _, _, rfl, ?_⟩)
  | (refine ⟨_, _, rfl, ?_⟩)
  | (refine ⟨(show List.Nodup _ by decide), ?_⟩)
  | (refine ⟨⟨_, _, rfl⟩, ?_⟩)
  | (refine ⟨free_of rfl, ?_⟩)
  | (refine ⟨free_so rfl, ?_⟩)
  | (refine ⟨trivial, ?_⟩)
  | (refine ⟨rfl, ?_⟩)
  | (refine And.intro (by assumption) ?_)
  | (refine ⟨(show _ ≤ sizeLine by unfold sizeLine; first | decide | omega | (simp; done) | (simp; omega)), ?_⟩)
  | (refine ⟨(show _ < sizeLine by unfold sizeLine; first | omega | (simp; omega)), ?_⟩)
  | (refine ⟨_, _, rfl, (by assumption), ?_⟩)
  | (refine ⟨_, _, _, rfl, (by assumption), ?_⟩)
  | (refine ⟨_, _, _, _, rfl, (by assumption), ?_⟩))
local macro_rules | `(tactic| walk_at "1") => `(tactic| first
  | ((with_reducible refine' gDE ?_); walk_at "1DE")
  | ((with_reducible refine' gDS ?_); walk_at "1DS")
  | ((with_reducible refine' gEx ?_); walk_at "1ex")
  | ((with_reducible refine' gAnd ?_); walk_at "1ex")
  | ((with_reducible refine' gDAo ?_); walk_at "1DAo")
  | ((with_reducible refine' gDT ?_); walk_at "1DT")
  | ((with_reducible refine' gIf ?_); walk_at "1If")
  | ((with_reducible refine' gDGo ?_); walk_at "1DGo")
  | ((with_reducible refine' gDI ?_); walk_at "1DI")
  | ((with_reducible refine' gDG ?_); walk_at "1DG")
  | ((with_reducible refine' gDGos ?_); walk_at "1DGos")
  | ((with_reducible refine' gDGs ?_); walk_at "1DGs")
  | ((first | (with_reducible refine' gR2d ?_) | (with_reducible refine' gR2t ?_)); walk_at "1r2")
  | ((with_reducible refine' gRLd ?_); walk_at "1rl")
  | walk_at "1z")
local macro_rules | `(tactic| walk_at "go") => `(tactic| (walk_at "n"; repeat (walk_at "1"; walk_at "n")))
local macro_rules | `(tactic| walk_at "goi") => `(tactic| (walk_at "go"; (try split); all_goals walk_at "go"))
local macro_rules | `(tactic| walk_at "own") => `(tactic| (refine' DS.seq (DS.own ?_); walk_at "go"))
local macro_rules | `(tactic| walk_at "gof") => `(tactic| (walk_at "n"; repeat (first | ((with_reducible refine' DE.frz ?h ?q); (case h => rfl)) | walk_at "1"); walk_at "n"))
local macro_rules | `(tactic| walk_at "pg1") => `(tactic| (intro P vs zs h1 h2; cases h1; cases h2 with | cons b1 h2 => cases h2; exact .cons b1 .nil))
local macro_rules | `(tactic| walk_at "pg2") => `(tactic| (intro P vs zs h1 h2; cases h1; cases h2 with | cons b1 h2 => (cases h2 with | cons b2 h2 => (cases h2; first | exact .cons b1 (.cons b2 .nil) | exact .cons b2 (.cons b1 .nil)))))
local macro_rules | `(tactic| walk_at "pg3") => `(tactic| (intro P vs zs h1 h2; cases h1; cases h2 with | cons b1 h2 => (cases h2 with | cons b2 h2 => (cases h2 with | cons b3 h2 => (cases h2; first | exact .cons b1 (.cons b2 (.cons b3 .nil)) | exact .cons b1 (.cons b3 (.cons b2 .nil)) | exact .cons b2 (.cons b1 (.cons b3 .nil)) | exact .cons b2 (.cons b3 (.cons b1 .nil)) | exact .cons b3 (.cons b1 (.cons b2 .nil)) | exact .cons b3 (.cons b2 (.cons b1 .nil)))))))

section
set_option Elab.async false
set_option linter.all false
set_option maxRecDepth 100000
set_option maxHeartbeats 400000
open PySem PySem.Spec PyProof.Rows L2 GL DD


section
variable {P : Program} {w : World} {K : PySem.W.Frag} {mg : Str → Option Value} {base : Heap} {fs : Nat → Addr} {fd : Nat → FuncData} {tk : Nat → Tok} {cp : Cb}
def isI : D → Bool
  | .int _ => true
  | _ => false
def cInt : Ct := fun ss Φ => ∃ d, ss = [.sh d] ∧ Nob d ∧ ∀ ss', Φ (.d (.bl (isI d))) ss'
theorem ok_is_integer (T : Txt K mg fs fd tk cp.c) : FnG P w K mg base CX0 1 (fs 0) (fd 0) P_is_integer (spC K cp 1 cInt) := by
  refine okD (nos := []) T.f_is_integer sc_is_integer rfl fun cd A out s H E gd hr ss Φ hc hl => ⟨_, PSs.nox ((pss_one (ps_ret (pe_and (pe_callB call_isi (by rfl) T.z_isinstance (by decide +kernel) (pa_cons (pv 0) (pa_cons (pe_bltn (v := .ty "int") (u := .type "int") (by rfl) T.z_int (by decide +kernel) rfl) pa_nil))) (pe_one (pe_not (pe_callB call_isi (by rfl) T.z_isinstance (by decide +kernel) (pa_cons (pv 0) (pa_cons (pe_bltn (v := .ty "bool") (u := .type "bool") (by rfl) T.z_bool (by decide +kernel) rfl) pa_nil))))))))), ?_⟩
  obtain ⟨d, rfl, nd, q⟩ := hc
  cases d <;> walk_at "go" <;> first | exact q _ | exact (show False from nd).elim
theorem by_eq {Φ : AV → List SV → Prop} {d d' : D} {ρ : List SV} (q : ∀ ss', Φ (.d d) ss') (e : d = d') : Φ (.d d') ρ := e ▸ q ρ
def Bnd : D → Prop
  | .non => True
  | .int _ => True
  | _ => False
def withinD (d l m : D) : Bool := match d with
  | .int i => (match l with | .int j => decide (j ≤ i) | _ => true) && (match m with | .int j => decide (i ≤ j) | _ => true)
  | _ => false
def cWithin : Ct := fun ss Φ => ∃ d l m, ss = [.sh d, .sh l, .sh m] ∧ Nob d ∧ Bnd l ∧ Bnd m ∧ ∀ ss', Φ (.d (.bl (withinD d l m))) ss'
theorem ok_is_within (T : Txt K mg fs fd tk cp.c) : FnG P w K mg base CX0 2 (fs 1) (fd 1) P_is_within (spC K cp 3 cWithin) := by
  refine okD (nos := []) T.f_is_within sc_is_within rfl fun cd A out s H E gd hr ss Φ hc hl => ⟨_, PSs.nox ((pss_cons (ps_if (pt_not (pt_val (pg_call (ok_is_integer T) gd (hr.mono (by decide)) (by rfl) T.m_is_integer T.f_is_integer.kp (b_is_integer T) .nil pass0 (pa_cons (pv 0) pa_nil))))
        (pss_one (ps_ret (pe_bl)))
        pss_nil)
      (pss_cons (ps_if (PW.pt (pw_and (pt_cmpR op_notN (pv 1) (pe_non) (nomark _)) (pw_and1 (pt_cmpR op_lt (pv 0) (pv 1) (nomark _)))))
        (pss_one (ps_ret (pe_bl)))
        pss_nil)
      (pss_one (ps_ret (pe_or (pe_cmpR op_isN (pv 2) (pe_non) (nomark _)) (pe_one (pe_cmpR op_le (pv 0) (pv 2) (nomark _))))))))), ?_⟩
  obtain ⟨d, l, m, rfl, nd, bl, bm, q⟩ := hc
  cases d <;> try exact nd.elim
  case int i =>
    cases l <;> cases m <;> first | exact (show False from bl).elim | exact (show False from bm).elim | walk_at "go"
    all_goals try (split <;> walk_at "go")
    all_goals (refine by_eq q ?_; simp only [withinD]; first | rfl | (simp at *; omega) | (simp_all; done))
  all_goals (walk_at "go"; exact q _)
theorem nol_map {l k b : Bool} {α : Type} {f : α → D} (h : ∀ x, nolK l k b (f x) = true) : ∀ xs : List α, nolKA l k b (xs.map f) = true
  | [] => rfl
  | x :: xs => by simp only [List.map_cons, nolKA, h, nol_map h xs, Bool.and_self]
def eP (p : Int × Int) : D := .tup [.int p.1, .int p.2]
def inTr (t : Int) : Prop := 0 ≤ t ∧ t ≤ 2
def inCe (a : Int) : Prop := 0 ≤ a ∧ a ≤ 10000000
def inVa (v : Int) : Prop := 0 ≤ v ∧ v ≤ 9223372036854775807
def cHeld : Ct := fun ss Φ => ∃ v, ss = [.sh (.int v)] ∧ inVa v ∧ ∀ ss', Φ (.d (.bl true)) ss'
theorem ok_may_be_held (T : Txt K mg fs fd tk cp.c) : FnG P w K mg base CX0 3 (fs 4) (fd 4) P_may_be_held (spC K cp 1 cHeld) := by
  refine okD (nos := []) T.f_may_be_held sc_may_be_held rfl fun cd A out s H E gd hr ss Φ hc hl => ⟨_, PSs.nox ((pss_one (ps_ret (pg_call (ok_is_within T) gd (hr.mono (by decide)) (by rfl) T.m_is_within T.f_is_within.kp (b_is_within T) .nil pass0 (pa_cons (pv 0) (pa_cons (pe_int) (pa_cons (pe_glob (v := .int 9223372036854775807) (by rfl) T.c_GREATEST_VALUE ⟨_, rfl⟩) pa_nil))))))), ?_⟩
  obtain ⟨v, rfl, ⟨h0, h1⟩, q⟩ := hc
  walk_at "go"
  refine by_eq q ?_
  simp [withinD, h0, h1]
def cTrack : Ct := fun ss Φ => ∃ t, ss = [.sh (.int t)] ∧ inTr t ∧ ∀ ss', Φ (.d .non) ss'
theorem ok_check_track (T : Txt K mg fs fd tk cp.c) : FnG P w K mg base CX0 3 (fs 5) (fd 5) P_check_track (spC K cp 1 cTrack) := by
  refine okD (nos := []) T.f_check_track sc_check_track rfl fun cd A out s H E gd hr ss Φ hc hl => ⟨_, PSs.nox ((pss_one (ps_if (pt_not (pt_val (pg_call (ok_is_within T) gd (hr.mono (by decide)) (by rfl) T.m_is_within T.f_is_within.kp (b_is_within T) .nil pass0 (pa_cons (pv 0) (pa_cons (pe_int) (pa_cons (pe_op op_sub (pe_glob (v := .int 3) (by rfl) T.c_TRACKS ⟨_, rfl⟩) (pe_int)) pa_nil))))))
        (pss_one (ps_never))
        pss_nil))), ?_⟩
  obtain ⟨t, rfl, ⟨h0, h1⟩, q⟩ := hc
  walk_at "go"
  rw [if_neg (by simp [withinD, h0, h1])]
  walk_at "go"
  exact q _
def cCell : Ct := fun ss Φ => ∃ t a, ss = [.sh (.int t), .sh (.int a)] ∧ inTr t ∧ inCe a ∧ ∀ ss', Φ (.d .non) ss'
theorem ok_check_cell (T : Txt K mg fs fd tk cp.c) : FnG P w K mg base CX0 4 (fs 6) (fd 6) P_check_cell (spC K cp 2 cCell) := by
  refine okD (nos := []) T.f_check_cell sc_check_cell rfl fun cd A out s H E gd hr ss Φ hc hl => ⟨_, PSs.nox ((pss_cons (ps_expr (pg_call (ok_check_track T) gd (hr.mono (by decide)) (by rfl) T.m_check_track T.f_check_track.kp (b_check_track T) .nil pass0 (pa_cons (pv 0) pa_nil)))
      (pss_one (ps_if (pt_not (pt_val (pg_call (ok_is_within T) gd (hr.mono (by decide)) (by rfl) T.m_is_within T.f_is_within.kp (b_is_within T) .nil pass0 (pa_cons (pv 1) (pa_cons (pe_int) (pa_cons (pe_glob (v := .int 10000000) (by rfl) T.c_LAST_CELL ⟨_, rfl⟩) pa_nil))))))
        (pss_one (ps_never))
        pss_nil)))), ?_⟩
  obtain ⟨t, a, rfl, ht, ⟨h0, h1⟩, q⟩ := hc
  walk_at "go"
  rw [if_neg (by simp [withinD, h0, h1])]
  walk_at "go"
  exact q _
def mostFrom (a : Int) : Int := if 10000000 - a + 1 < 4096 then 10000000 - a + 1 else 4096
def cMost : Ct := fun ss Φ => ∃ a, ss = [.sh (.int a)] ∧ inCe a ∧ ∀ ss', Φ (.d (.int (mostFrom a))) ss'
theorem ok_Umost_from (T : Txt K mg fs fd tk cp.c) : FnG P w K mg base CX0 1 (fs 7) (fd 7) P_Umost_from (spC K cp 1 cMost) := by
  refine okD (nos := []) T.f_Umost_from sc_Umost_from rfl fun cd A out s H E gd hr ss Φ hc hl => ⟨_, PSs.nox ((pss_one (ps_ret (pe_callB (call_min2 rfl) (by rfl) T.z_min (by decide +kernel) (pa_cons (pe_glob (v := .int 4096) (by rfl) T.c_MOST_AT_ONCE ⟨_, rfl⟩) (pa_cons (pe_op op_add (pe_op op_sub (pe_glob (v := .int 10000000) (by rfl) T.c_LAST_CELL ⟨_, rfl⟩) (pv 0)) (pe_int)) pa_nil)))))), ?_⟩
  obtain ⟨a, rfl, ⟨h0, h1⟩, q⟩ := hc
  walk_at "go"
  exact q _
def asSeq (sv : SV) (vs : List Int) : Prop := sv = .ow true (.lst (vs.map .int)) ∨ sv = .sh (.tup (vs.map .int))
def cMayW : Ct := fun ss Φ => ∃ sv vs a, ss = [sv, .sh (.int a)] ∧ asSeq sv vs ∧ inCe a ∧ (vs.length : Int) ≤ mostFrom a ∧ (∀ v ∈ vs, inVa v) ∧ ∀ s1, Φ (.d (.bl true)) (sv :: s1)
theorem ok_Umay_be_written (T : Txt K mg fs fd tk cp.c) : FnG P w K mg base CX0 4 (fs 8) (fd 8) P_Umay_be_written (spC K cp 2 cMayW) := by
  refine okD (nos := [.no]) T.f_Umay_be_written sc_Umay_be_written rfl fun cd A out s H E gd hr ss Φ hc hl => ⟨_, PSs.nox ((pss_cons (ps_if (PW.pt (pw_or (pt_not (pt_val (pe_callB call_isiT (by rfl) T.z_isinstance (by decide +kernel) (pa_cons (pv 0) (pa_cons (pe_tup (pa_cons (pe_bltn (v := .ty "list") (u := .type "list") (by rfl) T.z_list (by decide +kernel) rfl) (pa_cons (pe_bltn (v := .ty "tuple") (u := .type "tuple") (by rfl) T.z_tuple (by decide +kernel) rfl) pa_nil))) pa_nil))))) (pw_or1 (pt_cmpR op_gt (pe_callB call_len (by rfl) T.z_len (by decide +kernel) (pa_cons (pv 0) pa_nil)) (pg_call (ok_Umost_from T) gd (hr.mono (by decide)) (by rfl) T.m_Umost_from T.f_Umost_from.kp (b_Umost_from T) .nil pass0 (pa_cons (pv 1) pa_nil)) (nomark _)))))
        (pss_one (ps_ret (pe_bl)))
        pss_nil)
      (pss_one (ps_ret (pe_callB (cr_all rfl) (by rfl) T.z_all (by decide +kernel) (pa_cons (pe_lc (own := [("value", 2)]) (g := gName 2) (tt := tYes) rfl sc_Umay_be_written.nd (pi_seq (pv 0) (pv 0)) (blkOk_by (own := [("value", 2)]) (N := N_Umay_be_written) (sc := defScope s_Umay_be_written) (by decide +kernel)) (fun _ _ _ _ _ => (pg_name (i := 2) sc_Umay_be_written.nd rfl (Or.inl rfl))) (fun _ _ _ _ _ => pts_nil) (fun _ _ _ _ _ => pg_call (ok_may_be_held T) gd (hr.mono (by decide)) (by rfl) T.m_may_be_held T.f_may_be_held.kp (b_may_be_held T) .nil pass0 (pa_cons (pv 2) pa_nil))) pa_nil)))))), ?_⟩
  obtain ⟨sv, vs, a, rfl, hsv, hca, hlen, hv, q⟩ := hc
  have h9 : vs.length ≤ 900000 := by have := hca.1; unfold mostFrom at hlen; split at hlen <;> omega
  rcases hsv with rfl | rfl
  · walk_at "go"
    rw [if_neg (by simpa using hlen)]
    walk_at "go"
    refine DE.lend (ρL := [.sh (.lst (vs.map .int)), .sh (.int a), .no]) (.own (.own (.own .nil))) ?_
    walk_at "go"
    refine' DE.lcM vs D.int (fun _ => .bl true) h9 ?i1 (nown_of rfl) ?i2 ?i3 ?i4
    case i1 => walk_at "go"
    case i2 =>
      intro x hx
      have hx := hv x hx
      walk_at "go"
      exact nown_of rfl
    case i3 => rfl
    case i4 =>
      refine .inr ⟨_, rfl, nol_map (fun _ => rfl) _, ?_⟩
      walk_at "go"
      rw [show (vs.all fun _ => true) = true by simp]
      exact q _
  · walk_at "go"
    rw [if_neg (by simpa using hlen)]
    walk_at "go"
    refine' DE.lcM vs D.int (fun _ => .bl true) h9 ?i1 (nown_of rfl) ?i2 ?i3 ?i4
    case i1 => walk_at "go"
    case i2 =>
      intro x hx
      have hx := hv x hx
      walk_at "go"
      exact nown_of rfl
    case i3 => rfl
    case i4 =>
      walk_at "go"
      rw [show (vs.all fun _ => true) = true by simp]
      exact q _
def cAreI : Ct := fun ss Φ => ∃ d ns, ss = [.sh d] ∧ seqD d = some (List.map D.int ns) ∧ ns.length ≤ 900000 ∧ ∀ ss', Φ (.d (.bl true)) ss'
theorem ok_are_integers (T : Txt K mg fs fd tk cp.c) : FnG P w K mg base CX0 2 (fs 2) (fd 2) P_are_integers (spC K cp 1 cAreI) := by
  refine okD (nos := [.no]) T.f_are_integers sc_are_integers rfl fun cd A out s H E gd hr ss Φ hc hl => ⟨_, PSs.nox ((pss_cons (ps_if (pt_not (pt_val (pe_callB call_isiT (by rfl) T.z_isinstance (by decide +kernel) (pa_cons (pv 0) (pa_cons (pe_tup (pa_cons (pe_bltn (v := .ty "list") (u := .type "list") (by rfl) T.z_list (by decide +kernel) rfl) (pa_cons (pe_bltn (v := .ty "tuple") (u := .type "tuple") (by rfl) T.z_tuple (by decide +kernel) rfl) pa_nil))) pa_nil)))))
        (pss_one (ps_ret (pe_bl)))
        pss_nil)
      (pss_one (ps_ret (pe_callB (cr_all rfl) (by rfl) T.z_all (by decide +kernel) (pa_cons (pe_lc (own := [("item", 1)]) (g := gName 1) (tt := tYes) rfl sc_are_integers.nd (pi_seq (pv 0) (pv 0)) (blkOk_by (own := [("item", 1)]) (N := N_are_integers) (sc := defScope s_are_integers) (by decide +kernel)) (fun _ _ _ _ _ => (pg_name (i := 1) sc_are_integers.nd rfl (Or.inl rfl))) (fun _ _ _ _ _ => pts_nil) (fun _ _ _ _ _ => pg_call (ok_is_integer T) gd (hr.mono (by decide)) (by rfl) T.m_is_integer T.f_is_integer.kp (b_is_integer T) .nil pass0 (pa_cons (pv 1) pa_nil))) pa_nil)))))), ?_⟩
  obtain ⟨d, ns, rfl, hd, hn, q⟩ := hc
  cases d <;> first | (cases hd; done) | skip
  all_goals
    walk_at "go"
    refine' DE.lcM ns D.int (fun _ => .bl true) hn ?i1 (nown_of rfl) ?i2 ?i3 ?i4
    case i1 => walk_at "go"
    case i2 =>
      intro x hx
      walk_at "go"
      exact nown_of rfl
    case i3 => rfl
    case i4 =>
      walk_at "go"
      rw [show (ns.all fun _ => true) = true by simp]
      exact q _
def Lot (ns : List Int) (m : Int) : Prop := ns.Pairwise (· < ·) ∧ ∀ x ∈ ns, 0 ≤ x ∧ x < m
def cIsLot : Ct := fun ss Φ => ∃ d ns m, ss = [.sh d, .sh (.int m)] ∧ seqD d = some (List.map D.int ns) ∧ ns.length ≤ 900000 ∧ Lot ns m ∧ ∀ ss', Φ (.d (.bl true)) ss'
theorem ok_is_lot (T : Txt K mg fs fd tk cp.c) : FnG P w K mg base CX0 3 (fs 3) (fd 3) P_is_lot (spC K cp 2 cIsLot) := by
  refine okD (nos := [.no, .no]) T.f_is_lot sc_is_lot rfl fun cd A out s H E gd hr ss Φ hc hl => ⟨_, PSs.nox ((pss_cons (ps_if (pt_not (pt_val (pg_call (ok_are_integers T) gd (hr.mono (by decide)) (by rfl) T.m_are_integers T.f_are_integers.kp (b_are_integers T) .nil pass0 (pa_cons (pv 0) pa_nil))))
        (pss_one (ps_ret (pe_bl)))
        pss_nil)
      (pss_cons (ps_set (i := 2) sc_is_lot.nd rfl (by first | exact Or.inl rfl | exact Or.inr rfl) (pe_int))
      (pss_cons (ps_for PassesOwn.never rfl (pi_seq (pv 0) (pv 0)) (pg_name (i := 3) sc_is_lot.nd rfl (by first | exact Or.inl rfl | exact Or.inr rfl))
        (pss_cons (ps_if (PW.pt (pw_or (pt_cmpR op_lt (pv 3) (pv 2) (nomark _)) (pw_or1 (pt_cmpR op_ge (pv 3) (pv 1) (nomark _)))))
          (pss_one (ps_ret (pe_bl)))
          pss_nil)
        (pss_one (ps_set (i := 2) sc_is_lot.nd rfl (by first | exact Or.inl rfl | exact Or.inr rfl) (pe_op op_add (pv 3) (pe_int))))))
      (pss_one (ps_ret (pe_bl))))))), ?_⟩
  obtain ⟨d, ns, m, rfl, hd, hn, ⟨hp, hm⟩, q⟩ := hc
  walk_at "go"
  refine DS.forM ns D.int ?_
  walk_at "go"
  refine ⟨fun l ρ => Keep (∃ le a, ρ = [.sh d, .sh (.int m), .sh (.int le), so a] ∧ ∀ r, ns = l ++ r → ∀ x ∈ r, le ≤ x), .a ⟨0, none, rfl, fun r e x hx => (hm x (by rw [e]; exact hx)).1⟩, ?_, ?_⟩
  · intro l x r _ e kp
    obtain ⟨le, a, rfl, hle⟩ := kp.out
    have h1 := hle _ e x List.mem_cons_self
    have h2 := hm x (by rw [e]; simp)
    walk_at "go"
    rw [if_neg (by simpa using h1)]
    walk_at "go"
    rw [if_neg (by simpa using h2.2)]
    walk_at "go"
    refine .a ⟨x + 1, some _, rfl, fun r' e' y hy => ?_⟩
    rw [e'] at hp
    have := (List.pairwise_append.mp hp).2.2 x (by simp) y hy
    omega
  · intro ρ2 kp
    obtain ⟨le, a, rfl, hle⟩ := kp.out
    walk_at "go"
    exact q _
end
end
section
set_option Elab.async false
set_option linter.all false
set_option maxRecDepth 100000
set_option maxHeartbeats 400000
open PySem PySem.Spec PyProof.Rows L2 GL DD


section
variable {P : Program} {w : World} {K : PySem.W.Frag} {mg : Str → Option Value} {base : Heap} {fs : Nat → Addr} {fd : Nat → FuncData} {tk : Nat → Tok} {cp : Cb}
set_option hygiene false in
local macro_rules | `(tactic| walk_at "mixup") => `(tactic| (
  have b1 : 0 ≤ cell % 2147483579 := Int.emod_nonneg _ (by decide)
  have b2 : cell % 2147483579 < 2147483579 := Int.emod_lt_of_pos _ (by decide)
  walk_at "go"
  refine r2_pow ⟨by decide, by decide, hmix _ (Int.emod_nonneg _ (by decide)) (Int.lt_trans (Int.emod_lt_of_pos _ (by decide)) (by decide))⟩ ?_
  walk_at "go"
  exact k _ _ _ (Int.emod_nonneg _ (by omega)) (Int.emod_lt_of_pos _ m0) ⟨ns, t + 1, l, rfl, hlen, by omega, by omega, l0⟩))
set_option maxHeartbeats 2000000 in
theorem ok_Lhaul (T : Txt K mg fs fd tk cp.c) : FnG P w K mg base CX0 1 (fs 20) (fd 20) P_Lhaul (spC K cp 2 cDraw) := by
  refine okD (nos := [.no, .no, .no, .no]) T.f_Lhaul sc_Lhaul rfl fun cd A out s H E gd hr ss Φ hc hl => ⟨_, PSs.nox ((pss_cons (ps_if (pt_cmpR op_gt (pe_ix ix_list (pv 0) (pe_int) (fun _ _ => rfl)) (pe_int) (nomark _))
        (pss_cons (ps_set (i := 2) sc_Lhaul.nd rfl (by first | exact Or.inl rfl | exact Or.inr rfl) (pe_callTy call_int1 (by rfl) T.z_int (by decide +kernel) (pa_cons (pe_ix ix_list (pv 0) (pe_int) (fun _ _ => rfl)) pa_nil)))
        (pss_cons (ps_asg (pe_op op_fdivW (pv 2) (pv 1)) (pg_sub (pv 0) (pe_int) set_list))
        (pss_one (ps_ret (pe_op op_mod (pe_callTy call_int1 (by rfl) T.z_int (by decide +kernel) (pa_cons (pv 2) pa_nil)) (pv 1))))))
        pss_nil)
      (pss_cons (ps_set (i := 3) sc_Lhaul.nd rfl (by first | exact Or.inl rfl | exact Or.inr rfl) (pe_ix ix_list (pv 0) (pe_int) (fun _ _ => rfl)))
      (pss_cons (ps_asg (pe_op op_add (pv 3) (pe_int)) (pg_sub (pv 0) (pe_int) set_list))
      (pss_cons (ps_set (i := 4) sc_Lhaul.nd rfl (by first | exact Or.inl rfl | exact Or.inr rfl) (pe_op op_add (pe_op op_mul (pe_int) (pv 3)) (pe_int)))
      (pss_cons (ps_if (pt_cmpR (op_neX hr.units) (pe_ix ix_list (pv 0) (pe_int) (fun _ _ => rfl)) (pe_lst pa_nil) (nomark _))
        (pss_one (ps_set (i := 4) sc_Lhaul.nd rfl (by first | exact Or.inl rfl | exact Or.inr rfl) (pe_ix ix_list (pe_ix ix_list (pv 0) (pe_int) (fun _ _ => rfl)) (pe_op op_mod (pe_callTy call_int1 (by rfl) T.z_int (by decide +kernel) (pa_cons (pv 3) pa_nil)) (pe_callB call_len_seq (by rfl) T.z_len (by decide +kernel) (pa_cons (pe_ix ix_list (pv 0) (pe_int) (fun _ _ => rfl)) pa_nil))) (fun _ _ => rfl))))
        pss_nil)
      (pss_cons (ps_if (PW.pt (pw_and (pt_cmpR op_lt (pv 3) (pe_callB call_len_seq (by rfl) T.z_len (by decide +kernel) (pa_cons (pe_ix ix_list (pv 0) (pe_int) (fun _ _ => rfl)) pa_nil)) (nomark _)) (pw_and1 (pt_cmpR op_ge (pe_callB call_abs (by rfl) T.z_abs (by decide +kernel) (pa_cons (pv 4) pa_nil)) (pe_op op_pow (pe_int) (pe_int)) (nomark _)))))
        (pss_cons (ps_set (i := 2) sc_Lhaul.nd rfl (by first | exact Or.inl rfl | exact Or.inr rfl) (pe_op op_add (pe_op op_mul (pe_int) (pe_op op_sub (pe_callB call_abs (by rfl) T.z_abs (by decide +kernel) (pa_cons (pv 4) pa_nil)) (pe_op op_pow (pe_int) (pe_int)))) (pe_callTy call_int1 (by rfl) T.z_int (by decide +kernel) (pa_cons (pe_cmpR op_lt (pv 4) (pe_int) (nomark _)) pa_nil))))
        (pss_cons (ps_asg (pe_op op_fdivW (pe_callTy call_int1 (by rfl) T.z_int (by decide +kernel) (pa_cons (pv 2) pa_nil)) (pv 1)) (pg_sub (pv 0) (pe_int) set_list))
        (pss_one (ps_ret (pe_op op_mod (pe_callTy call_int1 (by rfl) T.z_int (by decide +kernel) (pa_cons (pv 2) pa_nil)) (pv 1))))))
        pss_nil)
      (pss_cons (ps_set (i := 5) sc_Lhaul.nd rfl (by first | exact Or.inl rfl | exact Or.inr rfl) (pe_op op_mod (pe_callTy call_int1 (by rfl) T.z_int (by decide +kernel) (pa_cons (pe_op op_pow (pe_op op_add (pe_op op_add (pe_op op_mod (pe_callTy call_int1 (by rfl) T.z_int (by decide +kernel) (pa_cons (pv 4) pa_nil)) (pe_int)) (pe_op op_mul (pe_int) (pv 3))) (pe_int)) (pe_int)) pa_nil)) (pe_int)))
      (pss_cons (ps_set (i := 5) sc_Lhaul.nd rfl (by first | exact Or.inl rfl | exact Or.inr rfl) (pe_op op_mod (pe_callTy call_int1 (by rfl) T.z_int (by decide +kernel) (pa_cons (pe_op op_pow (pe_op op_add (pe_op op_add (pe_op op_mul (pv 5) (pe_op op_add (pe_op op_mul (pe_int) (pv 3)) (pe_int))) (pe_op op_mul (pe_op op_mul (pe_int) (pv 3)) (pv 3))) (pe_int)) (pe_int)) pa_nil)) (pe_int)))
      (pss_one (ps_ret (pe_op op_mod (pe_callTy call_int1 (by rfl) T.z_int (by decide +kernel) (pa_cons (pe_op op_fdivW (pv 5) (pe_int)) pa_nil)) (pv 1))))))))))))), ?_⟩
  obtain ⟨c, many, n, rfl, ⟨ns, t, l, rfl, hlen, t0, tn, l0⟩, hn, m0, m1, k⟩ := hc
  walk_at "go"
  split
  · rename_i c1
    walk_at "go"
    exact k _ _ _ (Int.emod_nonneg _ (by omega)) (Int.emod_lt_of_pos _ m0) ⟨ns, t, l / many, rfl, hlen, t0, by omega, Int.ediv_nonneg l0 (by omega)⟩
  · rename_i c1
    walk_at "go"
    have hmix : ∀ m : Int, 0 ≤ m → m < 2147483648 → (m * (2 * t + 3065) + 61129 * t * t + 52111).natAbs < 2 ^ 64 := fun m h0 h1 => mix_small h0 h1 t0 (by omega) (by decide) (by decide) (by decide) (by decide) (by decide) (by decide)
    have hcell : (!ns.isEmpty) = true → 0 < ((ns.map D.int).length : Int) ∧ ∃ cell : Int, atI (ns.map D.int) (t % ((ns.map D.int).length : Int)) = some (.int cell) := fun c2 => by
      have hp : (0 : Int) < ((ns.map D.int).length : Int) := by
        rw [List.length_map]
        cases ns with
        | nil => simp at c2
        | cons a r => simp only [List.length_cons]; omega
      refine ⟨hp, ?_⟩
      have h0 := Int.emod_nonneg t (b := ((ns.map D.int).length : Int)) (by omega)
      have h1 := Int.emod_lt_of_pos t hp
      obtain ⟨j, hj⟩ : ∃ j : Nat, t % ((ns.map D.int).length : Int) = (j : Int) := ⟨_, (Int.toNat_of_nonneg h0).symm⟩
      rw [hj] at h1 ⊢
      rw [List.length_map] at h1
      have hj2 : j < ns.length := by omega
      exact ⟨ns[j], atI_nat (by rw [List.getElem?_map, List.getElem?_eq_getElem hj2]; rfl)⟩
    split <;> rename_i c2
    rotate_left
    walk_at "go"
    generalize 61129 * t + 5545 = cell
    rotate_left
    obtain ⟨hp, cell, hy⟩ := hcell c2
    walk_at "go"
    all_goals
      split
      · rename_i c3
        walk_at "go"
        by_cases c4 : (10 : Int) ^ 18 ≤ (if cell < 0 then -cell else cell)
        · rw [if_pos (decide_eq_true c4)]
          have hle : 0 ≤ 2 * ((if cell < 0 then -cell else cell) - (10 : Int) ^ 18) + (if decide (cell < 0) = true then (1 : Int) else 0) := by
            have : 0 ≤ (if decide (cell < 0) = true then (1 : Int) else 0) := by split <;> decide
            omega
          walk_at "go"
          exact k _ _ _ (Int.emod_nonneg _ (by omega)) (Int.emod_lt_of_pos _ m0) ⟨ns, t + 1, _, rfl, hlen, by omega, by omega, Int.ediv_nonneg hle (by omega)⟩
        · rw [if_neg (by rw [decide_eq_false c4]; decide)]
          walk_at "mixup"
      · rename_i c3
        walk_at "go"
        walk_at "mixup"
theorem cut_take (xs : List D) (i : Nat) : DD.cutD xs none (some (i : Int)) = xs.take i := by
  unfold DD.cutD
  rw [HT.sIx_none, HT.sIx_nat, List.drop_zero, Nat.sub_zero]
  rcases Nat.le_total i xs.length with h | h
  · rw [Nat.min_eq_left h]
  · rw [Nat.min_eq_right h, List.take_length, List.take_of_length_le h]
def cPick : Ct := fun ss Φ => ∃ c xs n, ss = [.ow true c, .sh (.lst xs)] ∧ xs ≠ [] ∧ xs.length < 1000000 ∧ RkD c n ∧ n < 100000 ∧ ∀ y c' s1, y ∈ xs → RkD c' (n + 1) → Φ (.d y) (.ow true c' :: s1)
theorem ok_Lpick (T : Txt K mg fs fd tk cp.c) : FnG P w K mg base CX0 2 (fs 21) (fd 21) P_Lpick (spC K cp 2 cPick) := by
  refine okD (nos := []) T.f_Lpick sc_Lpick rfl fun cd A out s H E gd hr ss Φ hc hl => ⟨_, PSs.nox ((pss_one (ps_ret (pe_ix ix_list (pv 1) (pg_call (ok_Lhaul T) gd (hr.mono (by decide)) (by rfl) T.m_Lhaul T.f_Lhaul.kp (b_Lhaul T) .nil pass0 (pa_cons (pv 0) (pa_cons (pe_callB call_len_seq (by rfl) T.z_len (by decide +kernel) (pa_cons (pv 1) pa_nil)) pa_nil))) (fun _ _ => rfl))))), ?_⟩
  obtain ⟨c, xs, n, rfl, hne, hlx, hr2, hn, k⟩ := hc
  have hp : 0 < xs.length := List.length_pos_iff.mpr hne
  walk_at "go"
  refine ⟨by omega, by omega, fun r c' s1 r0 r1 hk => ?_⟩
  walk_at "n"
  refine ⟨_, _, rfl, rfl, ?_⟩
  obtain ⟨j, rfl⟩ := Int.eq_ofNat_of_zero_le r0
  have hj : j < xs.length := by omega
  refine r2_ixLx rfl (d := xs[j]) (atI_nat (List.getElem?_eq_getElem hj)) ?_
  walk_at "go"
  exact k _ _ _ (List.getElem_mem hj) hk
def cLot : Ct := fun ss Φ => ∃ c m n, ss = [.ow true c, .sh (.int m)] ∧ 0 ≤ m ∧ m ≤ 200 ∧ RkD c n ∧ n < 90000 ∧ ∀ ns c' s1, Lot ns m → ns.length ≤ 200 → RkD c' (n + 200) → Φ (.n (.lst (ns.map .int))) (.ow true c' :: s1)
theorem ok_Llot (T : Txt K mg fs fd tk cp.c) : FnG P w K mg base CX0 2 (fs 22) (fd 22) P_Llot (spC K cp 2 cLot) := by
  refine okD (nos := [.no]) T.f_Llot sc_Llot rfl fun cd A out s H E gd hr ss Φ hc hl => ⟨_, PSs.nox ((pss_one (ps_ret (pe_lc (own := [("number", 2)]) (g := gName 2) rfl sc_Llot.nd (pi_range1 (by rfl) T.z_range (pa_cons (pv 1) pa_nil)) (blkOk_by (own := [("number", 2)]) (N := N_Llot) (sc := defScope s_Llot) (by decide +kernel)) (fun _ _ _ _ _ => (pg_name (i := 2) sc_Llot.nd rfl (Or.inl rfl))) (fun _ _ _ _ _ => (pts_one (pt_cmpR op_eq (pg_call (ok_Lhaul T) gd (hr.mono (by decide)) (by rfl) T.m_Lhaul T.f_Lhaul.kp (b_Lhaul T) .nil pass0 (pa_cons (pv 0) (pa_cons (pe_int) pa_nil))) (pe_int) (nomark _)))) (fun _ _ _ _ _ => pv 2))))), ?_⟩
  obtain ⟨c, m, n, rfl, m0, m1, hr2, hn, k⟩ := hc
  walk_at "go"
  refine DE.lc ?_
  walk_at "go"
  have hml : (DD.intD 0 m.toNat).length = m.toNat := intD_len
  refine ⟨by omega, by omega, [2], fun i acc ρ => Keep (∃ (cc : D) (ns : List Int), ρ = [.ow true cc, .sh (.int m), .no] ∧ RkD cc (n + i) ∧ acc = ns.map .int ∧ Lot ns i ∧ ns.length ≤ i), by simp, .a ⟨c, [], rfl, hr2, rfl, ⟨.nil, fun x hx => by cases hx⟩, by simp⟩, by omega, ?_, ?_⟩
  · intro i d acc ρ2 hi kp
    obtain ⟨cc, ns, rfl, hk2, rfl, ⟨hp, hb⟩, hln⟩ := kp.out
    have hi5 : i < m.toNat := by
      obtain ⟨h, _⟩ := List.getElem?_eq_some_iff.mp hi
      rw [hml] at h; exact h
    rw [intD_get hi5] at hi
    cases hi
    refine ⟨nown_of rfl, ?_⟩
    walk_at "go"
    refine ⟨by omega, by omega, by omega, fun r c' s1 r0 r1 hk3 => ?_⟩
    walk_at "go"
    split
    · walk_at "go"
      refine ⟨[.ow true c', .sh (.int m), .no], ⟨nown_of rfl, rfl, fun i hi => by simp at hi; subst hi; rfl, rfl⟩, .a ⟨c', ns ++ [0 + (i : Int)], rfl, hk3.more (by omega), by simp, ⟨?_, ?_⟩, by simp; omega⟩⟩
      · refine List.pairwise_append.mpr ⟨hp, List.pairwise_singleton .., fun x hx y hy => ?_⟩
        rw [List.mem_singleton.mp hy]
        have := (hb x hx).2; omega
      · intro x hx
        rcases List.mem_append.mp hx with h | h
        · have := hb x h; exact ⟨this.1, by omega⟩
        · rw [List.mem_singleton.mp h]; omega
    · walk_at "go"
      exact ⟨[.ow true c', .sh (.int m), .no], ⟨nown_of rfl, rfl, fun i hi => by simp at hi; subst hi; rfl, rfl⟩, .a ⟨c', ns, rfl, hk3.more (by omega), rfl, ⟨hp, fun x hx => ⟨(hb x hx).1, by have := (hb x hx).2; omega⟩⟩, by omega⟩⟩
  · intro acc ρ2 kp
    obtain ⟨cc, ns, rfl, hk2, rfl, ⟨hp, hb⟩, hln⟩ := kp.out
    rw [hml] at hk2 hln hb
    walk_at "go"
    exact k _ _ _ ⟨hp, fun x hx => ⟨(hb x hx).1, by have := (hb x hx).2; omega⟩⟩ (by omega) (hk2.more (by omega))
def cVals : Ct := fun ss Φ => ∃ c n, ss = [.ow true c] ∧ RkD c n ∧ n < 90000 ∧ ∀ (vs : List Int) c' s1, vs.length ≤ 6 → (∀ v ∈ vs, inVa v) → RkD c' (n + 20) → Φ (.n (.lst (vs.map .int))) (.ow true c' :: s1)
theorem ok_Lvalues (T : Txt K mg fs fd tk cp.c) : FnG P w K mg base CX0 3 (fs 27) (fd 27) P_Lvalues (spC K cp 1 cVals) := by
  refine okD (nos := [.no]) T.f_Lvalues sc_Lvalues rfl fun cd A out s H E gd hr ss Φ hc hl => ⟨_, PSs.nox ((pss_one (ps_ret (pe_lc (own := [("turn", 1)]) (g := gName 1) (tt := tYes) rfl sc_Lvalues.nd (pi_range1 (by rfl) T.z_range (pa_cons (pg_call (ok_Lpick T) gd (hr.mono (by decide)) (by rfl) T.m_Lpick T.f_Lpick.kp (b_Lpick T) .nil pass0 (pa_cons (pv 0) (pa_cons (pe_lst (pa_cons (pe_int) (pa_cons (pe_int) (pa_cons (pe_int) (pa_cons (pe_int) (pa_cons (pe_int) pa_nil)))))) pa_nil))) pa_nil)) (blkOk_by (own := [("turn", 1)]) (N := N_Lvalues) (sc := defScope s_Lvalues) (by decide +kernel)) (fun _ _ _ _ _ => (pg_name (i := 1) sc_Lvalues.nd rfl (Or.inl rfl))) (fun _ _ _ _ _ => pts_nil) (fun _ _ _ _ _ => pg_call (ok_Lpick T) gd (hr.mono (by decide)) (by rfl) T.m_Lpick T.f_Lpick.kp (b_Lpick T) .nil pass0 (pa_cons (pv 0) (pa_cons (pe_lst (pa_cons (pe_int) (pa_cons (pe_int) (pa_cons (pe_int) (pa_cons (pe_op op_sub (pe_op op_shlW (pe_int) (pe_int)) (pe_int)) (pa_cons (pg_call (ok_Lhaul T) gd (hr.mono (by decide)) (by rfl) T.m_Lhaul T.f_Lhaul.kp (b_Lhaul T) .nil pass0 (pa_cons (pv 0) (pa_cons (pe_int) pa_nil))) pa_nil)))))) pa_nil))))))), ?_⟩
  obtain ⟨c, n, rfl, hr2, hn, k⟩ := hc
  walk_at "go"
  refine DE.lc ?_
  walk_at "go"
  refine ⟨c, _, n, rfl, by simp, by simp, hr2, by omega, fun y c1 s1 hy hk1 => ?_⟩
  have : ∃ m : Int, y = .int m ∧ 0 ≤ m ∧ m ≤ 6 := by
    simp only [List.mem_cons, List.not_mem_nil, or_false] at hy
    rcases hy with rfl | rfl | rfl | rfl | rfl <;> exact ⟨_, rfl, by omega, by omega⟩
  obtain ⟨m, rfl, m0, m1⟩ := this
  walk_at "go"
  have hml : (DD.intD 0 m.toNat).length = m.toNat := intD_len
  refine ⟨by omega, by omega, [1], fun i acc ρ => Keep (∃ (cc : D) (ns : List Int), ρ = [.ow true cc, .no] ∧ RkD cc (n + 1 + 2 * i) ∧ acc = ns.map .int ∧ ns.length = i ∧ ∀ v ∈ ns, inVa v), by simp, .a ⟨c1, [], rfl, hk1, rfl, rfl, by simp⟩, by omega, ?_, ?_⟩
  · intro i d acc ρ2 hi kp
    obtain ⟨cc, ns, rfl, hk2, rfl, hln, hb⟩ := kp.out
    have hi5 : i < m.toNat := by
      obtain ⟨h, _⟩ := List.getElem?_eq_some_iff.mp hi
      rw [hml] at h; exact h
    rw [intD_get hi5] at hi
    cases hi
    refine ⟨nown_of rfl, ?_⟩
    walk_at "go"
    refine ⟨by omega, by omega, by omega, fun r c' s1 r0 r1 hk3 => ?_⟩
    walk_at "go"
    refine ⟨c', _, n + 1 + 2 * i + 1, rfl, by simp, by simp, hk3, by omega, fun y c3 s3 hy hk4 => ?_⟩
    have : ∃ v : Int, y = .int v ∧ inVa v := by
      simp only [List.mem_cons, List.not_mem_nil, or_false] at hy
      rcases hy with rfl | rfl | rfl | rfl | rfl <;> exact ⟨_, rfl, by constructor <;> omega⟩
    obtain ⟨v, rfl, hv⟩ := this
    walk_at "go"
    refine ⟨[.ow true c3, .no], ⟨nown_of rfl, rfl, fun i hi => by simp at hi; subst hi; rfl, rfl⟩, .a ⟨c3, ns ++ [v], rfl, hk4.more (by omega), by simp, by simp [hln], ?_⟩⟩
    intro z hz2
    rcases List.mem_append.mp hz2 with h | h
    · exact hb z h
    · rw [List.mem_singleton.mp h]; exact hv
  · intro acc ρ2 kp
    obtain ⟨cc, ns, rfl, hk2, rfl, hln, hb⟩ := kp.out
    rw [hml] at hk2 hln
    walk_at "go"
    exact k _ _ _ (by omega) hb (hk2.more (by omega))
def inHome (h : Int) : Prop := 0 ≤ h ∧ h ≤ 5000000
def inAt (a : Int) : Prop := 0 ≤ a ∧ a ≤ 9999994
def cPlace : Ct := fun ss Φ => ∃ c h n, ss = [.ow true c, .sh (.int h)] ∧ inHome h ∧ RkD c n ∧ n < 90000 ∧ ∀ t a c' s1, inTr t → inAt a → RkD c' (n + 3) → Φ (.d (.tup [.int t, .int a])) (.ow true c' :: s1)
theorem ok_Lplace (T : Txt K mg fs fd tk cp.c) : FnG P w K mg base CX0 3 (fs 28) (fd 28) P_Lplace (spC K cp 2 cPlace) := by
  refine okD (nos := []) T.f_Lplace sc_Lplace rfl fun cd A out s H E gd hr ss Φ hc hl => ⟨_, PSs.nox ((pss_one (ps_ret (pe_tup (pa_cons (pg_call (ok_Lhaul T) gd (hr.mono (by decide)) (by rfl) T.m_Lhaul T.f_Lhaul.kp (b_Lhaul T) .nil pass0 (pa_cons (pv 0) (pa_cons (pe_int) pa_nil))) (pa_cons (pg_call (ok_Lpick T) gd (hr.mono (by decide)) (by rfl) T.m_Lpick T.f_Lpick.kp (b_Lpick T) .nil pass0 (pa_cons (pv 0) (pa_cons (pe_lst (pa_cons (pv 1) (pa_cons (pe_op op_add (pv 1) (pe_int)) (pa_cons (pe_op op_add (pv 1) (pg_call (ok_Lhaul T) gd (hr.mono (by decide)) (by rfl) T.m_Lhaul T.f_Lhaul.kp (b_Lhaul T) .nil pass0 (pa_cons (pv 0) (pa_cons (pe_int) pa_nil)))) (pa_cons (pe_int) (pa_cons (pe_int) pa_nil)))))) pa_nil))) pa_nil)))))), ?_⟩
  obtain ⟨c, h, n, rfl, ⟨h0, h1⟩, hr2, hn, k⟩ := hc
  walk_at "go"
  refine ⟨by omega, by omega, by omega, fun t c1 s1 t0 t1 hk1 => ?_⟩
  walk_at "go"
  refine ⟨by omega, by omega, by omega, fun x c2 s2 x0 x1 hk2 => ?_⟩
  walk_at "go"
  refine ⟨c2, _, n + 2, rfl, by simp, by simp, hk2, by omega, fun y c3 s3 hy hk3 => ?_⟩
  have : ∃ a : Int, y = .int a ∧ inAt a := by
    simp only [List.mem_cons, List.not_mem_nil, or_false] at hy
    rcases hy with rfl | rfl | rfl | rfl | rfl <;> exact ⟨_, rfl, by constructor <;> omega⟩
  obtain ⟨a, rfl, ha⟩ := this
  walk_at "go"
  exact k _ _ _ _ ⟨t0, by omega⟩ ha hk3
end
end
section
set_option Elab.async false
set_option linter.all false
set_option maxRecDepth 100000
set_option maxHeartbeats 400000
open PySem PySem.Spec PyProof.Rows L2 GL DD


/-! a dict of numbers by numbers, in its order -/
abbrev KV := List (Int × Int)
def putA : KV → Int → Int → KV
  | [], k, v => [(k, v)]
  | p :: m, k, v => if p.1 = k then (k, v) :: m else p :: putA m k v
def lookA : KV → Int → Option Int
  | [], _ => none
  | p :: m, k => if p.1 = k then some p.2 else lookA m k
def kK (m : KV) : List Key := m.map fun p => Sum.inl p.1
def kD (m : KV) : List D := (m.map (·.2)).map D.int
theorem put_kK : ∀ (m : KV) (k v : Int), putKs (kK m) (Sum.inl k) = kK (putA m k v)
  | [], k, v => rfl
  | p :: m, k, v => by
    have ih := put_kK m k v
    by_cases h : p.1 = k
    · subst h; simp [putKs, kK, putA]
    · have hn : ¬ (Sum.inl p.1 : Key) = Sum.inl k := fun z => h (Sum.inl.inj z)
      have e : kK (putA (p :: m) k v) = Sum.inl p.1 :: kK (putA m k v) := by simp [putA, h, kK]
      rw [e, ← ih]
      unfold putKs
      have e2 : ((kK (p :: m)).any fun x => decide (x = Sum.inl k)) = (kK m).any fun x => decide (x = Sum.inl k) := by simp only [kK, List.map_cons, List.any_cons]; rw [decide_eq_false hn, Bool.false_or]
      rw [e2]
      by_cases hh : ((kK m).any fun x => decide (x = Sum.inl k)) = true
      · rw [if_pos hh, if_pos hh]; rfl
      · rw [if_neg hh, if_neg hh]; rfl
theorem put_kD : ∀ (m : KV) (k v : Int), putDs (kK m) (kD m) (Sum.inl k) (.int v) = kD (putA m k v)
  | [], k, v => rfl
  | p :: m, k, v => by
    have ih := put_kD m k v
    simp only [kK, kD, List.map_cons, putA, putDs] at ih ⊢
    by_cases h : p.1 = k
    · rw [if_pos h, if_pos (by rw [h])]; simp
    · have hn : ¬ (Sum.inl p.1 : Key) = Sum.inl k := fun z => h (Sum.inl.inj z)
      rw [if_neg h, if_neg hn, ih]; simp
theorem look_kv : ∀ (m : KV) (k : Int), lookK (kK m) (kD m) (Sum.inl k) = (lookA m k).map D.int
  | [], k => rfl
  | p :: m, k => by
    have ih := look_kv m k
    simp only [kK, kD, List.map_cons, lookA, lookK] at ih ⊢
    by_cases h : p.1 = k
    · rw [if_pos h, if_pos (by rw [h])]; rfl
    · have hn : ¬ (Sum.inl p.1 : Key) = Sum.inl k := fun z => h (Sum.inl.inj z)
      rw [if_neg h, if_neg hn, ih]
theorem put_mem {m : KV} {k v : Int} {x : Int} (h : x ∈ (putA m k v).map (·.1)) : x ∈ m.map (·.1) ∨ x = k := by
  induction m with
  | nil => simp [putA] at h; exact .inr h
  | cons p m ih =>
    simp only [putA] at h
    split at h
    · rename_i e; simp only [List.map_cons, List.mem_cons] at h ⊢
      rcases h with h | h
      · exact .inr h
      · exact .inl (.inr h)
    · simp only [List.map_cons, List.mem_cons] at h ⊢
      rcases h with h | h
      · exact .inl (.inl h)
      · exact (ih h).imp_left .inr
theorem put_nd {m : KV} {k v : Int} (h : (m.map (·.1)).Nodup) : ((putA m k v).map (·.1)).Nodup := by
  induction m with
  | nil => simp [putA]
  | cons p m ih =>
    have h2 := List.nodup_cons.mp (show (p.1 :: m.map (·.1)).Nodup from h)
    simp only [putA]
    split
    · rename_i e; rw [List.map_cons]; rw [← e]; exact h
    · rename_i e
      refine List.nodup_cons.mpr ⟨fun z => ?_, ih h2.2⟩
      rcases put_mem z with z | z
      · exact h2.1 z
      · exact e z
theorem put_len {m : KV} {k v : Int} : (putA m k v).length ≤ m.length + 1 := by
  induction m with
  | nil => simp [putA]
  | cons p m ih => simp only [putA]; split <;> simp only [List.length_cons] <;> omega
theorem kK_nd {m : KV} (h : (m.map (·.1)).Nodup) : (kK m).Nodup := by
  have : kK m = (m.map (·.1)).map Sum.inl := by simp [kK]
  rw [this]
  exact List.Pairwise.map _ (fun a b n z => n (Sum.inl.inj z)) h
/-! the disk -/
abbrev Wt := (Int × Int) × Int
def eW (w : Wt) : D := .tup [eP w.1, .int w.2]
def dq (q : Addr × KV) : Tr := .dk q.1 (kK q.2) ((kD q.2).map .sh)
structure Dsk where
  x : Addr
  c : Addr
  s : Addr
  l : Addr
  cs : List (Addr × KV)
  ls : List (Addr × KV)
  W : List Wt
def Dsk.t (d : Dsk) : Tr := .ob d.x 0 ["cells", "strokes", "latest", "left"] [.lst d.c (d.cs.map dq), .lst d.s ((d.W.map eW).map .sh), .lst d.l (d.ls.map dq), .sh .non]
def upP : List (Addr × KV) → Nat → Int → Int → List (Addr × KV)
  | q :: cs, 0, a, v => (q.1, putA q.2 a v) :: cs
  | q :: cs, k + 1, a, v => q :: upP cs k a v
  | [], _, _, _ => []
theorem upP_set : ∀ {cs : List (Addr × KV)} {k : Nat} {q : Addr × KV} {a v : Int}, cs[k]? = some q → cs.set k (q.1, putA q.2 a v) = upP cs k a v
  | [], k, q, a, v, h => by simp at h
  | p :: cs, 0, q, a, v, h => by simp at h; subst h; rfl
  | p :: cs, k + 1, q, a, v, h => by simp only [List.set_cons_succ, upP]; rw [upP_set (by simpa using h)]
theorem upP_len : ∀ {cs : List (Addr × KV)} {k : Nat} {a v : Int}, (upP cs k a v).length = cs.length
  | [], k, a, v => rfl
  | p :: cs, 0, a, v => rfl
  | p :: cs, k + 1, a, v => by simp [upP, upP_len (cs := cs)]
theorem upP_mem : ∀ {cs : List (Addr × KV)} {k : Nat} {a v : Int} {q : Addr × KV}, q ∈ upP cs k a v → q ∈ cs ∨ ∃ p ∈ cs, q = (p.1, putA p.2 a v)
  | [], k, a, v, q, h => by cases h
  | p :: cs, 0, a, v, q, h => by
    rcases List.mem_cons.mp h with rfl | h
    · exact .inr ⟨p, List.mem_cons_self, rfl⟩
    · exact .inl (List.mem_cons_of_mem _ h)
  | p :: cs, k + 1, a, v, q, h => by
    rcases List.mem_cons.mp h with rfl | h
    · exact .inl List.mem_cons_self
    · exact (upP_mem h).imp (List.mem_cons_of_mem _) fun ⟨r, h1, h2⟩ => ⟨r, List.mem_cons_of_mem _ h1, h2⟩
/-- three dicts, no key twice, none longer than n -/
def Ok3 (cs : List (Addr × KV)) (n : Nat) : Prop := cs.length = 3 ∧ ∀ q ∈ cs, (q.2.map (·.1)).Nodup ∧ q.2.length ≤ n
theorem Ok3.up {cs : List (Addr × KV)} {n k : Nat} {a v : Int} (h : Ok3 cs n) : Ok3 (upP cs k a v) (n + 1) := by
  refine ⟨upP_len.trans h.1, fun q hq => ?_⟩
  rcases upP_mem hq with hq | ⟨p, hp, rfl⟩
  · have := h.2 q hq; exact ⟨this.1, by omega⟩
  · have := h.2 p hp; exact ⟨put_nd this.1, by have := put_len (m := p.2) (k := a) (v := v); show (putA p.2 a v).length ≤ n + 1; omega⟩
theorem Ok3.at {cs : List (Addr × KV)} {n : Nat} (h : Ok3 cs n) {t : Int} (ht : inTr t) : ∃ (k : Nat) (q : Addr × KV), t = (k : Int) ∧ cs[k]? = some q ∧ (q.2.map (·.1)).Nodup ∧ q.2.length ≤ n := by
  obtain ⟨k, rfl⟩ := Int.eq_ofNat_of_zero_le ht.1
  have hk : k < cs.length := by have := ht.2; rw [h.1]; omega
  exact ⟨k, cs[k], rfl, List.getElem?_eq_getElem hk, h.2 _ (List.getElem_mem hk)⟩
structure Dsk.Ok (d : Dsk) (n : Nat) : Prop where
  c : Ok3 d.cs n
  l : Ok3 d.ls n
  w : d.W.length ≤ n
theorem retN {K : PySem.W.Frag} {cp : Cb} {X : XC} {ρ : List SV} {N B C : List SV → Prop} {R : AV → List SV → Prop} (h : R (.d .non) ρ) : DS K cp X tRetN ρ N R B C := fun F A H0 H σ e hx Dd n r b c =>
  r .non (.d .non) σ ρ H ⟨e, .non⟩ h
set_option hygiene false in
local macro_rules | `(tactic| walk_at "1DE") => `(tactic| ((with_reducible refine' DE.ownT ?h ?nt ?q); (case h => rfl); (case nt => exact True.intro)))
set_option hygiene false in
local macro_rules | `(tactic| walk_at "1DE") => `(tactic| ((with_reducible refine' DE.fldT ?_); refine' DE.ownT ?h ?nt ?q; (case h => rfl); (case nt => exact True.intro); refine ⟨_, 0, true, _, [], 0, _, _, _, rfl, rfl, rfl, T.c_Disk, (by first | exact T.n_Disk_cells | exact T.n_Disk_strokes | exact T.n_Disk_latest | exact T.n_Disk_left), rfl, ?_⟩))
theorem putN_len {f : Str} : ∀ {ns : List Str}, (putN f ns).length ≤ ns.length + 1
  | [] => Nat.le_refl _
  | n :: ns => by
    have ih := putN_len (f := f) (ns := ns)
    simp only [putN]
    split <;> simp only [List.length_cons] <;> omega
section
variable {P : Program} {w : World} {K : PySem.W.Frag} {mg : Str → Option Value} {base : Heap} {fs : Nat → Addr} {fd : Nat → FuncData} {tk : Nat → Tok} {cp : Cb}
def cSpend : Ct := fun ss Φ => ∃ d : Dsk, ss = [.dp true d.t] ∧ ∀ s1, Φ (.d .non) (.dp true d.t :: s1)
theorem ok_Disk__spend (T : Txt K mg fs fd tk cp.c) : FnG P w K mg base CX0 1 (fs 16) (fd 16) P_Disk__spend (spC K cp 1 cSpend) := by
  refine okD (nos := []) T.f_Disk__spend sc_Disk__spend rfl fun cd A out s H E gd hr ss Φ hc hl => ⟨_, PSs.nox ((pss_cons (ps_if (pt_cmpR op_isN (pe_fld (f := "left") (pv 0) rfl) (pe_non) (nomark _))
        (pss_one (ps_retN))
        pss_nil)
      (pss_cons (ps_if (pt_cmpR op_eq (pe_fld (f := "left") (pv 0) rfl) (pe_int) (nomark _))
        (pss_one (ps_never))
        pss_nil)
      (pss_one (ps_never))))), ?_⟩
  obtain ⟨d, rfl, k⟩ := hc
  walk_at "go"
  exact retN (k _)
def cForget : Ct := fun ss Φ => ∃ (x : Addr) (ns : List Str) (ts : List Tr), ss = [.dp true (.ob x 0 ns ts)] ∧ ns.length < 900 ∧ ∀ (s l : Addr) (ps : List Addr) (s1 : List SV), ps.length = 3 → Φ (.d .non) (.dp true (.ob x 0 (putN "latest" (putN "strokes" ns)) (putT "latest" (.lst l ((ps.map fun p => (p, ([] : KV))).map dq)) (putN "strokes" ns) (putT "strokes" (.lst s []) ns ts))) :: s1)
theorem ok_Disk__forget_strokes (T : Txt K mg fs fd tk cp.c) : FnG P w K mg base CX0 1 (fs 18) (fd 18) P_Disk__forget_strokes (spC K cp 1 cForget) := by
  refine okD (nos := [.no]) T.f_Disk__forget_strokes sc_Disk__forget_strokes rfl fun cd A out s H E gd hr ss Φ hc hl => ⟨_, PSs.nox ((pss_cons (ps_fld (pv 0) (pe_lst pa_nil) rfl)
      (pss_one (ps_fld (pv 0) (pe_lc (own := [("_", 1)]) (g := gName 1) (tt := tYes) rfl sc_Disk__forget_strokes.nd (pi_range1 (by rfl) T.z_range (pa_cons (pe_glob (v := .int 3) (by rfl) T.c_TRACKS ⟨_, rfl⟩) pa_nil)) (blkOk_by (own := [("_", 1)]) (N := N_Disk__forget_strokes) (sc := defScope s_Disk__forget_strokes) (by decide +kernel)) (fun _ _ _ _ _ => (pg_name (i := 1) sc_Disk__forget_strokes.nd rfl (Or.inl rfl))) (fun _ _ _ _ _ => pts_nil) (fun _ _ _ _ _ => pe_dnewK)) rfl)))), ?_⟩
  obtain ⟨x, ns, ts, rfl, hn, k⟩ := hc
  walk_at "n"
  refine DS.seq (DS.fldTr (DE.tree ?_))
  walk_at "go"
  intro s1
  refine ⟨_, rfl, true, x, 0, _, _, rfl, T.c_Disk, T.n_Disk_strokes, by omega, ?_⟩
  walk_at "n"
  refine DS.fldTr ?_
  refine' DE.lcD (nown_of rfl) (by simp) ?_
  walk_at "go"
  refine ⟨by decide, by decide, rfl, by decide, fun a ps hps => ⟨_, rfl, true, x, 0, _, _, rfl, T.c_Disk, T.n_Disk_latest, by have := putN_len (f := "strokes") (ns := ns); omega, ?_⟩⟩
  rw [show (ps.map fun p => Tr.dk p [] []) = (ps.map fun p => (p, ([] : KV))).map dq by rw [List.map_map]; rfl]
  exact k _ _ _ _ (by rw [hps]; rfl)
def Dsk.New (d : Dsk) : Prop := d.cs.map (·.2) = [[], [], []] ∧ d.ls.map (·.2) = [[], [], []] ∧ d.W = []
theorem new3 {ps : List Addr} (h : ps.length = 3) : (ps.map fun p => (p, ([] : KV))).map (·.2) = [[], [], []] := by
  rw [List.map_map]
  match ps, h with
  | [a, b, c], _ => rfl
def cInit : Ct := fun ss Φ => ∃ x : Addr, ss = [.dp true (.ob x 0 [] [])] ∧ ∀ (d : Dsk) (s1 : List SV), d.New → Φ (.d .non) (.dp true d.t :: s1)
theorem ok_Disk_init (T : Txt K mg fs fd tk cp.c) : FnG P w K mg base CX0 2 (fs 9) (fd 9) P_Disk_init (spC K cp 1 cInit) := by
  refine okD (nos := [.no]) T.f_Disk_init sc_Disk_init rfl fun cd A out s H E gd hr ss Φ hc hl => ⟨_, PSs.nox ((pss_cons (ps_fld (pv 0) (pe_lc (own := [("_", 1)]) (g := gName 1) (tt := tYes) rfl sc_Disk_init.nd (pi_range1 (by rfl) T.z_range (pa_cons (pe_glob (v := .int 3) (by rfl) T.c_TRACKS ⟨_, rfl⟩) pa_nil)) (blkOk_by (own := [("_", 1)]) (N := N_Disk_init) (sc := defScope s_Disk_init) (by decide +kernel)) (fun _ _ _ _ _ => (pg_name (i := 1) sc_Disk_init.nd rfl (Or.inl rfl))) (fun _ _ _ _ _ => pts_nil) (fun _ _ _ _ _ => pe_dnewK)) rfl)
      (pss_cons (ps_expr (pg_meth0 (pv 0) T.c_Disk T.mt_Disk__forget_strokes (ok_Disk__forget_strokes T) gd (hr.mono (by decide)) (b_Disk__forget_strokes T) .nil pass0))
      (pss_one (ps_fld (pv 0) (pe_non) rfl))))), ?_⟩
  obtain ⟨x, rfl, k⟩ := hc
  walk_at "n"
  refine DS.seq (DS.fldTr ?_)
  refine' DE.lcD (nown_of rfl) (by simp) ?_
  walk_at "go"
  refine ⟨by decide, by decide, rfl, by decide, fun c ps hps => ⟨_, rfl, true, x, 0, _, _, rfl, T.c_Disk, T.n_Disk_cells, by decide, ?_⟩⟩
  rw [show (ps.map fun p => Tr.dk p [] []) = (ps.map fun p => (p, ([] : KV))).map dq by rw [List.map_map]; rfl]
  walk_at "n"
  refine DS.seq (DS.drop (DE.meth ⟨true, x, 0, _, _, rfl, rfl, by decide, ?_⟩))
  walk_at "go"
  refine ⟨by decide, fun s l ls s1 hls => ?_⟩
  refine DS.fldT ?_
  walk_at "go"
  refine ⟨x, 0, true, _, [], 0, _, _, rfl, rfl, rfl, T.c_Disk, T.n_Disk_left, by decide, ?_⟩
  exact k ⟨x, c, s, l, ps.map fun p => (p, []), ls.map fun p => (p, []), []⟩ _ ⟨new3 hps, new3 hls, rfl⟩
def Dsk.land (d : Dsk) (w : Wt) : Dsk := { d with cs := upP d.cs w.1.1.toNat w.1.2 w.2 }
def Dsk.stroke (d : Dsk) (w : Wt) : Dsk := { d with W := d.W ++ [w], ls := upP d.ls w.1.1.toNat w.1.2 w.2 }
theorem Dsk.get_c {d : Dsk} {k : Nat} {q : Addr × KV} (h : d.cs[k]? = some q) : d.t.get [0, k] = some (dq q) := by
  have e : (d.cs.map dq)[k]? = some (dq q) := by rw [List.getElem?_map, h]; rfl
  show ((d.cs.map dq)[k]?).bind (Tr.get []) = _
  rw [e]; rfl
theorem Dsk.get_l {d : Dsk} {k : Nat} {q : Addr × KV} (h : d.ls[k]? = some q) : d.t.get [2, k] = some (dq q) := by
  have e : (d.ls.map dq)[k]? = some (dq q) := by rw [List.getElem?_map, h]; rfl
  show ((d.ls.map dq)[k]?).bind (Tr.get []) = _
  rw [e]; rfl
theorem put3 {cs : List (Addr × KV)} {c : Addr} {k : Nat} {q : Addr × KV} {a v : Int} (h : cs[k]? = some q) : Tr.put (.dk q.1 (putKs (kK q.2) (Sum.inl a)) ((putDs (kK q.2) (kD q.2) (Sum.inl a) (.int v)).map .sh)) [k] (.lst c (cs.map dq)) = .lst c ((upP cs k a v).map dq) := by
  have e : (cs.map dq)[k]? = some (dq q) := by rw [List.getElem?_map, h]; rfl
  rw [put_kK, put_kD]
  show (match (cs.map dq)[k]? with | some u => Tr.setK (.lst c (cs.map dq)) ((cs.map dq).set k (Tr.put (dq (q.1, putA q.2 a v)) [] u)) | none => _) = _
  rw [e]
  show Tr.lst c ((cs.map dq).set k (dq (q.1, putA q.2 a v))) = _
  rw [← upP_set h, List.map_set]
theorem Dsk.put_c {d : Dsk} {k : Nat} {q : Addr × KV} {a v : Int} (h : d.cs[k]? = some q) : Tr.put (.dk q.1 (putKs (kK q.2) (Sum.inl a)) ((putDs (kK q.2) (kD q.2) (Sum.inl a) (.int v)).map .sh)) [0, k] d.t = (d.land (((k : Int), a), v)).t := by
  show Tr.ob d.x 0 _ [Tr.put _ [k] (.lst d.c (d.cs.map dq)), _, _, _] = _
  rw [put3 h]; rfl
theorem Dsk.put_l {d : Dsk} {k : Nat} {q : Addr × KV} {a v : Int} (h : d.ls[k]? = some q) : Tr.put (.dk q.1 (putKs (kK q.2) (Sum.inl a)) ((putDs (kK q.2) (kD q.2) (Sum.inl a) (.int v)).map .sh)) [2, k] d.t = ({ d with ls := upP d.ls k a v } : Dsk).t := by
  show Tr.ob d.x 0 _ [_, _, Tr.put _ [k] (.lst d.l (d.ls.map dq)), _] = _
  rw [put3 h]; rfl
theorem Dsk.put_s {d : Dsk} {w : Wt} : Tr.put (.lst d.s ((d.W.map eW).map .sh ++ [.sh (eW w)])) [1] d.t = ({ d with W := d.W ++ [w] } : Dsk).t := by
  show Tr.ob d.x 0 _ [_, Tr.lst d.s ((d.W.map eW).map .sh ++ [.sh (eW w)]), _, _] = _
  simp only [Dsk.t, List.map_append, List.map_cons, List.map_nil]
theorem lands_s : ∀ {ws : List Wt} {d : Dsk}, (ws.foldl Dsk.land d).s = d.s ∧ (ws.foldl Dsk.land d).W = d.W ∧ (ws.foldl Dsk.land d).ls = d.ls
  | [], d => ⟨rfl, rfl, rfl⟩
  | w :: ws, d => lands_s (ws := ws) (d := d.land w)
theorem lands_ok : ∀ {ws : List Wt} {d : Dsk} {n : Nat}, Ok3 d.cs n → Ok3 (ws.foldl Dsk.land d).cs (n + ws.length)
  | [], d, n, h => h
  | w :: ws, d, n, h => by
    have := lands_ok (ws := ws) (d := d.land w) (n := n + 1) h.up
    rw [show n + (w :: ws).length = n + 1 + ws.length by simp only [List.length_cons]; omega]
    exact this
def cLand : Ct := fun ss Φ => ∃ (d : Dsk) (n : Nat) (y : D) (ws : List Wt), ss = [.dp true d.t, .sh y] ∧ (y = .lst (ws.map eW) ∨ y = .lk d.s ∧ ws = d.W) ∧ Ok3 d.cs n ∧ n + ws.length < 100000 ∧ (∀ w ∈ ws, inTr w.1.1) ∧ ∀ s1, Φ (.d .non) (.dp true (ws.foldl Dsk.land d).t :: s1)
theorem ok_Disk__land (T : Txt K mg fs fd tk cp.c) : FnG P w K mg base CX0 1 (fs 17) (fd 17) P_Disk__land (spC K cp 2 cLand) := by
  refine okD (nos := [.no, .no, .no]) T.f_Disk__land sc_Disk__land rfl fun cd A out s H E gd hr ss Φ hc hl => ⟨_, PSs.nox ((pss_one (ps_for PassesOwn.never rfl (pi_list (pv 1)) (pg_tup rfl (pgs_cons (pg_tup rfl (pgs_cons (pg_name (i := 2) sc_Disk__land.nd rfl (by first | exact Or.inl rfl | exact Or.inr rfl)) (pgs_cons (pg_name (i := 3) sc_Disk__land.nd rfl (by first | exact Or.inl rfl | exact Or.inr rfl)) pgs_nil))) (pgs_cons (pg_name (i := 4) sc_Disk__land.nd rfl (by first | exact Or.inl rfl | exact Or.inr rfl)) pgs_nil)))
        (pss_one (ps_dput (hu_of hr) (pe_ix ix_list (pe_fld (f := "cells") (pv 0) rfl) (pv 2) (fun _ _ => rfl)) (pv 3) (pv 4) rfl))))), ?_⟩
  obtain ⟨d, n, y, ws, rfl, hy, hok, hn, hw, k⟩ := hc
  have body : ∀ (l : List Wt) (x : Wt) (r : List Wt) (ρ2 : List SV) (Rt : AV → List SV → Prop) (Nt : List SV → Prop), ws = l ++ x :: r → Keep (∃ a b c, ρ2 = [.dp true (l.foldl Dsk.land d).t, .sh y, so a, so b, so c]) →
      DGo K cp (gTup K 2 (gCons (gTup K 2 (gCons (gName 2) (gCons (gName 3) gNil))) (gCons (gName 4) gNil))) (eW x) ρ2 fun ρ3 => DS K cp XC.q (sDPut (tOp (rIxL K) (tFld K (tVar 0) "cells") (tVar 2)) (tVar 3) (tVar 4)) ρ3 (fun ρ => Keep (∃ a b c, ρ = [.dp true ((l ++ [x]).foldl Dsk.land d).t, .sh y, so a, so b, so c])) Rt Nt (fun ρ => Keep (∃ a b c, ρ = [.dp true ((l ++ [x]).foldl Dsk.land d).t, .sh y, so a, so b, so c])) := by
    rintro l ⟨⟨t, a⟩, v⟩ r ρ2 Rt Nt e kp
    obtain ⟨o2, o3, o4, rfl⟩ := kp.out
    have hl1 : l.length < ws.length := by rw [e]; simp only [List.length_append, List.length_cons]; omega
    have hok2 := lands_ok (ws := l) hok
    obtain ⟨kt, q, rfl, hq, hnd, hql⟩ := hok2.at (hw ((t, a), v) (by rw [e]; simp))
    have hfold : (l ++ [(((kt : Int), a), v)]).foldl Dsk.land d = (l.foldl Dsk.land d).land (((kt : Int), a), v) := by rw [List.foldl_append]; rfl
    rw [hfold]
    generalize l.foldl Dsk.land d = d1 at hq hok2 ⊢
    walk_at "go"
    refine DS.dputT (DE.var rfl ⟨_, rfl, ?_⟩)
    refine DE.ixTl ?_
    walk_at "go"
    refine ⟨0, true, _, [0], _, (kt : Int), dq q, rfl, rfl, rfl, atI_nat (by rw [List.getElem?_map, hq]; rfl), q.1, rfl, ?_⟩
    refine DE.var rfl ⟨_, rfl, ?_⟩
    refine ⟨0, true, _, [0, kt], kK q.2, kD q.2, Sum.inl a, rfl, rfl, d1.get_c hq, kK_nd hnd, by rw [kK, List.length_map]; unfold sizeLine; omega, ?_⟩
    rw [Dsk.put_c hq]
    exact .a ⟨some _, some _, some _, rfl⟩
  walk_at "go"
  rcases hy with rfl | ⟨rfl, rfl⟩
  · refine DS.forM ws eW ?_
    walk_at "go"
    refine ⟨fun l ρ => Keep (∃ a b c, ρ = [.dp true (l.foldl Dsk.land d).t, .sh (.lst (ws.map eW)), so a, so b, so c]), .a ⟨none, none, none, rfl⟩, fun l x r ρ2 e kp => body l x r ρ2 _ _ e kp, fun ρ2 kp => ?_⟩
    obtain ⟨o2, o3, o4, rfl⟩ := kp.out
    exact k _
  · refine DS.forPM eW (DE.var rfl ⟨d.s, d.W, fun l ρ => Keep (∃ a b c, ρ = [.dp true (l.foldl Dsk.land d).t, .sh (.lk d.s), so a, so b, so c]), rfl, .a ⟨none, none, none, rfl⟩, fun l r ρ2 e kp => ?_, fun l x r ρ2 e kp => body l x r ρ2 _ _ e kp, fun ρ2 kp => ?_⟩)
    · obtain ⟨o2, o3, o4, rfl⟩ := kp.out
      refine ⟨0, true, _, [1], rfl, ?_⟩
      obtain ⟨h1, h2, h3⟩ := lands_s (ws := l) (d := d)
      show some (Tr.lst (l.foldl Dsk.land d).s (((l.foldl Dsk.land d).W.map eW).map .sh)) = _
      rw [h1, h2]
    · obtain ⟨o2, o3, o4, rfl⟩ := kp.out
      exact k _
def wr (t a : Int) : List Int → List Wt
  | [] => []
  | v :: vs => ((t, a), v) :: wr t (a + 1) vs
theorem wr_app {t x : Int} : ∀ {a : Int} {l : List Int}, wr t a (l ++ [x]) = wr t a l ++ [((t, a + (l.length : Int)), x)]
  | a, [] => by simp [wr]
  | a, v :: l => by
    show ((t, a), v) :: wr t (a + 1) (l ++ [x]) = ((t, a), v) :: (wr t (a + 1) l ++ _)
    rw [wr_app, show a + 1 + (l.length : Int) = a + ((v :: l).length : Int) by simp only [List.length_cons]; omega]
theorem strokes_ok : ∀ {ws : List Wt} {d : Dsk} {n : Nat}, d.Ok n → (ws.foldl Dsk.stroke d).Ok (n + ws.length)
  | [], d, n, h => h
  | w :: ws, d, n, h => by
    have h2 : (d.stroke w).Ok (n + 1) := ⟨⟨h.c.1, fun q hq => ⟨(h.c.2 q hq).1, by have := (h.c.2 q hq).2; omega⟩⟩, h.l.up, by show (d.W ++ [w]).length ≤ n + 1; have := h.w; simp only [List.length_append, List.length_cons, List.length_nil]; omega⟩
    have := strokes_ok (ws := ws) h2
    rw [show n + (w :: ws).length = n + 1 + ws.length by simp only [List.length_cons]; omega]
    exact this
theorem wr_len {t : Int} : ∀ {a : Int} {l : List Int}, (wr t a l).length = l.length
  | a, [] => rfl
  | a, v :: l => by simp [wr, wr_len (l := l)]
def cWrite : Ct := fun ss Φ => ∃ (d : Dsk) (n : Nat) (t a : Int) (sv : SV) (vs : List Int), ss = [.dp true d.t, .sh (.int t), .sh (.int a), sv] ∧ asSeq sv vs ∧ inTr t ∧ inAt a ∧ vs.length ≤ 6 ∧ (∀ v ∈ vs, inVa v) ∧ d.Ok n ∧ n < 90000 ∧ ∀ s1 s2 s3, Φ (.d .non) (.dp true ((wr t a vs).foldl Dsk.stroke d).t :: s1 :: s2 :: sv :: s3)
theorem ok_Disk_write (T : Txt K mg fs fd tk cp.c) : FnG P w K mg base CX0 5 (fs 10) (fd 10) P_Disk_write (spC K cp 4 cWrite) := by
  refine okD (nos := [.no]) T.f_Disk_write sc_Disk_write rfl fun cd A out s H E gd hr ss Φ hc hl => ⟨_, PSs.nox ((pss_cons (ps_expr (pg_call (ok_check_cell T) gd (hr.mono (by decide)) (by rfl) T.m_check_cell T.f_check_cell.kp (b_check_cell T) .nil pass0 (pa_cons (pv 1) (pa_cons (pv 2) pa_nil))))
      (pss_cons (ps_if (pt_not (pt_val (pg_call (ok_Umay_be_written T) gd (hr.mono (by decide)) (by rfl) T.m_Umay_be_written T.f_Umay_be_written.kp (b_Umay_be_written T) .nil pass0 (pa_cons (pv 3) (pa_cons (pv 2) pa_nil)))))
        (pss_one (ps_never))
        pss_nil)
      (pss_one (ps_for PassesOwn.never rfl (pi_seq (pv 3) (pv 3)) (pg_name (i := 4) sc_Disk_write.nd rfl (by first | exact Or.inl rfl | exact Or.inr rfl))
        (pss_cons (ps_expr (pg_meth0 (pv 0) T.c_Disk T.mt_Disk__spend (ok_Disk__spend T) gd (hr.mono (by decide)) (b_Disk__spend T) .nil pass0))
        (pss_cons (ps_expr (pe_bm PySem.F.plainAttrs_list PySem.F.slot_list_append PySem.F.type_list_append mt_append (pe_fld (f := "strokes") (pv 0) rfl) (pa_cons (pe_tup (pa_cons (pe_tup (pa_cons (pv 1) (pa_cons (pv 2) pa_nil))) (pa_cons (pv 4) pa_nil))) pa_nil)))
        (pss_cons (ps_dput (hu_of hr) (pe_ix ix_list (pe_fld (f := "latest") (pv 0) rfl) (pv 1) (fun _ _ => rfl)) (pv 2) (pv 4) rfl)
        (pss_one (ps_aug (i := 2) sc_Disk_write.nd rfl (by first | exact Or.inl rfl | exact Or.inr rfl) (pe_int) ip_add)))))))))), ?_⟩
  obtain ⟨d, n, t, a, sv, vs, rfl, hsv, ht, ha, hlen, hv, hok, hn, k⟩ := hc
  have hca : inCe a := ⟨ha.1, by have := ha.2; omega⟩
  have hmo : (vs.length : Int) ≤ mostFrom a := by have := ha.2; unfold mostFrom; split <;> omega
  have body : ∀ (l : List Int) (x : Int) (r : List Int) (ρ2 : List SV) (Rt : AV → List SV → Prop) (Nt : List SV → Prop), vs = l ++ x :: r → Keep (∃ z, ρ2 = [.dp true ((wr t a l).foldl Dsk.stroke d).t, .sh (.int t), .sh (.int (a + (l.length : Int))), sv, so z]) →
      DGo K cp (gName 4) (.int x) ρ2 fun ρ3 => DS K cp XC.q (tSeq (tDrop (tMeth (cp.c 0) "_spend" (spC K cp 1 cSpend) [] E0 (tVar 0) tNil)) (tSeq (tDrop (tBM K "list" rAppend (tFld K (tVar 0) "strokes") (tCons (tTup (tCons (tTup (tCons (tVar 1) (tCons (tVar 2) tNil))) (tCons (tVar 4) tNil))) tNil))) (tSeq (sDPut (tOp (rIxL K) (tFld K (tVar 0) "latest") (tVar 1)) (tVar 2) (tVar 4)) (tAug 2 (tC (V.int 1)) (ipI fun i j => i + j))))) ρ3
        (fun ρ => Keep (∃ z, ρ = [.dp true ((wr t a (l ++ [x])).foldl Dsk.stroke d).t, .sh (.int t), .sh (.int (a + ((l ++ [x]).length : Int))), sv, so z])) Rt Nt (fun ρ => Keep (∃ z, ρ = [.dp true ((wr t a (l ++ [x])).foldl Dsk.stroke d).t, .sh (.int t), .sh (.int (a + ((l ++ [x]).length : Int))), sv, so z])) := by
    intro l x r ρ2 Rt Nt e kp
    obtain ⟨o4, rfl⟩ := kp.out
    have hl1 : l.length < vs.length := by rw [e]; simp only [List.length_append, List.length_cons]; omega
    have hok2 := strokes_ok (ws := wr t a l) hok
    rw [wr_len] at hok2
    obtain ⟨kt, q, rfl, hq, hnd, hql⟩ := hok2.l.at ht
    have hfold : (wr kt a (l ++ [x])).foldl Dsk.stroke d = ((wr kt a l).foldl Dsk.stroke d).stroke (((kt : Int), a + (l.length : Int)), x) := by rw [wr_app, List.foldl_append]; rfl
    have hlen2 : a + ((l ++ [x]).length : Int) = a + (l.length : Int) + 1 := by simp only [List.length_append, List.length_cons, List.length_nil]; omega
    rw [hfold, hlen2]
    generalize (wr kt a l).foldl Dsk.stroke d = d1 at hq hok2 ⊢
    generalize hb : a + (l.length : Int) = b
    have hW := hok2.w
    walk_at "n"
    refine DGo.name (free_so rfl) ?_
    walk_at "n"
    refine DS.seq (DS.drop (DE.meth ⟨true, d1.x, 0, _, _, rfl, rfl, by decide, ?_⟩))
    walk_at "go"
    refine DE.appendT ?_
    walk_at "go"
    refine ⟨_, 0, rfl, ⟨true, _, [1], _, rfl, rfl⟩, ?_⟩
    walk_at "n"
    walk_at "go"
    refine ⟨true, _, [1], _, rfl, rfl, by simp only [List.length_map]; unfold sizeLine; omega, ?_⟩
    walk_at "n"
    show DS K cp XC.q _ (.dp true (Tr.put (.lst d1.s ((d1.W.map eW).map .sh ++ [.sh (eW (((kt : Int), b), x))])) [1] d1.t) :: _) _ _ _ _
    rw [Dsk.put_s]
    generalize hd2 : ({ d1 with W := d1.W ++ [(((kt : Int), b), x)] } : Dsk) = d2
    have hq2 : d2.ls[kt]? = some q := by rw [← hd2]; exact hq
    have hd3 : (d1.stroke (((kt : Int), b), x)) = { d2 with ls := upP d2.ls kt b x } := by rw [← hd2]; rfl
    rw [hd3]
    refine DS.seq (DS.dputT (DE.var rfl ⟨_, rfl, ?_⟩))
    refine DE.ixTl ?_
    refine DE.fldT ?_
    refine DE.ownT rfl True.intro ?_
    refine ⟨_, 0, true, _, [], 0, _, _, _, rfl, rfl, rfl, T.c_Disk, T.n_Disk_latest, rfl, ?_⟩
    walk_at "go"
    refine ⟨0, true, _, [2], _, (kt : Int), dq q, rfl, rfl, rfl, atI_nat (by rw [List.getElem?_map, hq2]; rfl), q.1, rfl, ?_⟩
    refine DE.var rfl ⟨_, rfl, ?_⟩
    refine ⟨0, true, _, [2, kt], kK q.2, kD q.2, Sum.inl b, rfl, rfl, d2.get_l hq2, kK_nd hnd, by rw [kK, List.length_map]; unfold sizeLine; omega, ?_⟩
    rw [Dsk.put_l hq2]
    walk_at "go"
    exact .a ⟨some _, rfl⟩
  have a0 : a + (([] : List Int).length : Int) = a := by simp
  rcases hsv with rfl | rfl
  · walk_at "go"
    refine ⟨_, vs, a, rfl, .inl rfl, hca, hmo, hv, fun s1 => ?_⟩
    walk_at "go"
    refine DS.forOM (enc := D.int) rfl (fun l ρ => Keep (∃ z, ρ = [.dp true ((wr t a l).foldl Dsk.stroke d).t, .sh (.int t), .sh (.int (a + (l.length : Int))), .ow true (.lst (vs.map .int)), so z])) (.a ⟨none, by rw [a0]; rfl⟩) (fun l r ρ2 e kp => ?_) (fun l x r ρ2 e kp => body l x r ρ2 _ _ e kp) fun ρ2 kp => ?_
    · obtain ⟨z, rfl⟩ := kp.out; rfl
    · obtain ⟨z, rfl⟩ := kp.out; exact k _ _ _
  · walk_at "go"
    refine ⟨_, vs, a, rfl, .inr rfl, hca, hmo, hv, fun s1 => ?_⟩
    walk_at "go"
    refine DS.forM vs D.int ?_
    walk_at "go"
    refine ⟨fun l ρ => Keep (∃ z, ρ = [.dp true ((wr t a l).foldl Dsk.stroke d).t, .sh (.int t), .sh (.int (a + (l.length : Int))), .sh (.tup (vs.map .int)), so z]), .a ⟨none, by rw [a0]; rfl⟩, fun l x r ρ2 e kp => body l x r ρ2 _ _ e kp, fun ρ2 kp => ?_⟩
    obtain ⟨z, rfl⟩ := kp.out
    exact k _ _ _
end
end
section
set_option Elab.async false
set_option linter.all false
set_option maxRecDepth 100000
set_option maxHeartbeats 400000
open PySem PySem.Spec PyProof.Rows L2 GL DD


set_option hygiene false in
local macro_rules | `(tactic| walk_at "1DE") => `(tactic| ((with_reducible refine' DE.ownT ?h ?nt ?q); (case h => rfl); (case nt => exact True.intro)))
set_option hygiene false in
local macro_rules | `(tactic| walk_at "fs") => `(tactic| (refine DE.fldT ?_; refine DE.ownT rfl True.intro ?_; refine ⟨_, 0, true, _, [], 0, _, _, _, rfl, rfl, rfl, T.c_Disk, (by first | exact T.n_Disk_strokes | exact T.n_Disk_latest | exact T.n_Disk_cells), rfl, ?_⟩))
section
variable {P : Program} {w : World} {K : PySem.W.Frag} {mg : Str → Option Value} {base : Heap} {fs : Nat → Addr} {fd : Nat → FuncData} {tk : Nat → Tok} {cp : Cb}
theorem toDs_sh : ∀ ds : List D, toDs (ds.map .sh) = ds
  | [] => rfl
  | d :: ds => by show d :: toDs (ds.map .sh) = _; rw [toDs_sh]
def qD (q : Addr × KV) : D := .dk (kK q.2) (kD q.2)
theorem dq_D {q : Addr × KV} : (dq q).toD = qD q := by show D.dk _ (toDs _) = _; rw [toDs_sh]; rfl
theorem dqs_D : ∀ cs : List (Addr × KV), toDs (cs.map dq) = cs.map qD
  | [] => rfl
  | q :: cs => by show (dq q).toD :: toDs (cs.map dq) = _; rw [dqs_D, dq_D]; rfl
def Dsk.D (d : Dsk) : DD.D := .ob 0 ["cells", "strokes", "latest", "left"] [.lst (d.cs.map qD), .lst (d.W.map eW), .lst (d.ls.map qD), .non]
theorem Dsk.toD {d : Dsk} : d.t.toD = d.D := by
  show DD.D.ob 0 _ [.lst (toDs (d.cs.map dq)), .lst (toDs ((d.W.map eW).map .sh)), .lst (toDs (d.ls.map dq)), .non] = _
  rw [dqs_D, toDs_sh, dqs_D]; rfl
theorem lent_d {ρ r rL : List SV} {b : Bool} {d : Dsk} (h : Lent ρ r rL) : Lent ρ (.dp b d.t :: r) (.sh d.D :: rL) := by
  have := Lent.own (s := .dp b d.t) h
  rw [show lend (.dp b d.t) = .sh d.D by show SV.sh d.t.toD = _; rw [Dsk.toD]] at this
  exact this
theorem lands_x : ∀ {ws : List Wt} {d : Dsk}, (ws.foldl Dsk.land d).x = d.x
  | [], d => rfl
  | w :: ws, d => lands_x (ws := ws) (d := d.land w)
theorem lent_q {ρ r rL : List SV} {i : Nat} {b : Bool} {t : Tr} {p : List Nat} {q : Addr × KV} (h1 : ρ[i]? = some (.dp b t)) (h2 : t.get p = some (dq q)) (h : Lent ρ r rL) : Lent ρ (.sh (.lk q.1) :: r) (.sh (qD q) :: rL) := by
  have := Lent.lk h1 h2 (rfl : (dq q).root = some q.1) h
  rw [dq_D] at this
  exact this
theorem Dsk.toDp_c {d : Dsk} {k : Nat} {q : Addr × KV} (h : d.cs[k]? = some q) : d.t.toDp [0, k] = .ob 0 ["cells", "strokes", "latest", "left"] [.lst ((d.cs.map qD).set k (.lk q.1)), .lst (d.W.map eW), .lst (d.ls.map qD), .non] := by
  have e : (d.cs.map dq)[k]? = some (dq q) := by rw [List.getElem?_map, h]; rfl
  show DD.D.ob 0 _ [.lst ((toDs (d.cs.map dq)).set k (match (d.cs.map dq)[k]? with | some u => Tr.toDp [] u | none => .non)), .lst (toDs ((d.W.map eW).map .sh)), .lst (toDs (d.ls.map dq)), .non] = _
  rw [e, dqs_D, toDs_sh, dqs_D]; rfl
theorem zip_kv : ∀ m : KV, ((kK m).zip (m.map (·.2))).map (fun p => D.tup [keyD p.1, .int p.2]) = m.map eP
  | [] => rfl
  | p :: m => by
    show D.tup [.int p.1, .int p.2] :: (((kK m).zip (m.map (·.2))).map _) = _
    rw [zip_kv m]; rfl
theorem vint_eq {a b : Int} : decide (V.int a = V.int b) = decide (a = b) := decide_eq_decide.mpr ⟨fun h => V.int.inj h, fun h => by rw [h]⟩
theorem nol_eW : ∀ {l k b : Bool} (ws : List Wt), nolKA l k b (ws.map eW) = true := fun ws => nol_map (fun _ => rfl) ws
def cFlush : Ct := fun ss Φ => ∃ (d : Dsk) (n : Nat), ss = [.dp true d.t] ∧ d.Ok n ∧ n < 40000 ∧ (∀ w ∈ d.W, inTr w.1.1) ∧ ∀ (d' : Dsk) (s1 : List SV), d'.cs = (d.W.foldl Dsk.land d).cs → d'.ls.map (·.2) = [[], [], []] → d'.W = [] → Φ (.d .non) (.dp true d'.t :: s1)
theorem ok_Disk_flush (T : Txt K mg fs fd tk cp.c) : FnG P w K mg base CX0 2 (fs 11) (fd 11) P_Disk_flush (spC K cp 1 cFlush) := by
  refine okD (nos := []) T.f_Disk_flush sc_Disk_flush rfl fun cd A out s H E gd hr ss Φ hc hl => ⟨_, PSs.nox ((pss_cons (ps_expr (pg_meth0 (pv 0) T.c_Disk T.mt_Disk__spend (ok_Disk__spend T) gd (hr.mono (by decide)) (b_Disk__spend T) .nil pass0))
      (pss_cons (ps_expr (pg_meth (pv 0) T.c_Disk T.mt_Disk__land (ok_Disk__land T) gd (hr.mono (by decide)) (b_Disk__land T) .nil pass0 (pa_cons (pe_fld (f := "strokes") (pv 0) rfl) pa_nil)))
      (pss_one (ps_expr (pg_meth0 (pv 0) T.c_Disk T.mt_Disk__forget_strokes (ok_Disk__forget_strokes T) gd (hr.mono (by decide)) (b_Disk__forget_strokes T) .nil pass0)))))), ?_⟩
  obtain ⟨d, n, rfl, hok, hn, hw, k⟩ := hc
  have hW := hok.w
  walk_at "n"
  refine DS.seq (DS.drop (DE.meth ⟨true, d.x, 0, _, _, rfl, rfl, by decide, ?_⟩))
  walk_at "go"
  refine DE.meth ⟨true, d.x, 0, ["cells", "strokes", "latest", "left"], _, rfl, rfl, by decide, ?_⟩
  walk_at "n"
  refine DAo.cons ?_
  walk_at "fs"
  walk_at "go"
  refine ⟨d, n, _, d.W, rfl, .inr ⟨rfl, rfl⟩, hok.c, by omega, hw, fun s1 => ?_⟩
  generalize hd1 : d.W.foldl Dsk.land d = d1
  have h1 : d1.x = d.x := by rw [← hd1]; exact lands_x
  walk_at "n"
  refine DS.drop (DE.meth ⟨true, d1.x, 0, ["cells", "strokes", "latest", "left"], _, rfl, rfl, by decide, ?_⟩)
  walk_at "go"
  refine ⟨by decide, fun s l ps s1 hps => ?_⟩
  exact k { d1 with s := s, l := l, ls := ps.map fun p => (p, []), W := [] } _ (by show d1.cs = _; rw [hd1]) (new3 hps) rfl
def cWaiting : Ct := fun ss Φ => ∃ (d : Dsk), ss = [.dp true d.t] ∧ d.W.length < 90000 ∧ ∀ s1, Φ (.d (.tup (d.W.map eW))) (.dp true d.t :: s1)
theorem ok_Disk_waiting (T : Txt K mg fs fd tk cp.c) : FnG P w K mg base CX0 1 (fs 14) (fd 14) P_Disk_waiting (spC K cp 1 cWaiting) := by
  refine okD (nos := []) T.f_Disk_waiting sc_Disk_waiting rfl fun cd A out s H E gd hr ss Φ hc hl => ⟨_, PSs.nox ((pss_one (ps_ret (pe_callTy call_tuple_of (by rfl) T.z_tuple (by decide +kernel) (pa_cons (pe_fld (f := "strokes") (pv 0) rfl) pa_nil))))), ?_⟩
  obtain ⟨d, rfl, hn, k⟩ := hc
  walk_at "n"
  refine DS.ret (DE.lend (lent_d .nil) ?_)
  walk_at "go"
  refine ⟨0, _, _, _, rfl, T.c_Disk, T.n_Disk_strokes, rfl, ?_⟩
  walk_at "go"
  exact .inl ⟨_, rfl, nol_eW _, trivial, k _⟩
def pick (W : List Wt) (ns : List Int) : List Wt := ns.filterMap fun i => W[i.toNat]?
theorem pick_map {W : List Wt} : ∀ {ns : List Int}, (∀ x ∈ ns, 0 ≤ x ∧ x < (W.length : Int)) → (ns.map fun i => (W[i.toNat]?).elim DD.D.non eW) = (pick W ns).map eW
  | [], _ => rfl
  | i :: ns, h => by
    obtain ⟨i0, i1⟩ := h i List.mem_cons_self
    have hj : i.toNat < W.length := by omega
    have ih := pick_map (W := W) (ns := ns) fun x hx => h x (List.mem_cons_of_mem _ hx)
    unfold pick at ih ⊢
    rw [List.map_cons, ih, List.filterMap_cons, List.getElem?_eq_getElem hj]; rfl
theorem pick_mem {W : List Wt} {ns : List Int} {w : Wt} (h : w ∈ pick W ns) : w ∈ W := by
  obtain ⟨i, _, h⟩ := List.mem_filterMap.mp h
  exact List.mem_of_getElem? h
def cCut : Ct := fun ss Φ => ∃ (d : Dsk) (n : Nat) (y : D) (ns : List Int), ss = [.dp true d.t, .sh y] ∧ seqD y = some (ns.map D.int) ∧ Lot ns d.W.length ∧ ns.length ≤ 200 ∧ d.Ok n ∧ n < 40000 ∧ (∀ w ∈ d.W, inTr w.1.1) ∧ ∀ (d' : Dsk) (s1 : List SV), d'.cs = ((pick d.W ns).foldl Dsk.land d).cs → d'.ls.map (·.2) = [[], [], []] → d'.W = [] → Φ (.d .non) (.dp true d'.t :: s1)
theorem ok_Disk_cut (T : Txt K mg fs fd tk cp.c) : FnG P w K mg base CX0 4 (fs 15) (fd 15) P_Disk_cut (spC K cp 2 cCut) := by
  refine okD (nos := [.no]) T.f_Disk_cut sc_Disk_cut rfl fun cd A out s H E gd hr ss Φ hc hl => ⟨_, PSs.nox ((pss_cons (ps_if (pt_not (pt_val (pg_call (ok_is_lot T) gd (hr.mono (by decide)) (by rfl) T.m_is_lot T.f_is_lot.kp (b_is_lot T) .nil pass0 (pa_cons (pv 1) (pa_cons (pe_callB call_len_seq (by rfl) T.z_len (by decide +kernel) (pa_cons (pe_fld (f := "strokes") (pv 0) rfl) pa_nil)) pa_nil)))))
        (pss_one (ps_never))
        pss_nil)
      (pss_cons (ps_expr (pg_meth (pv 0) T.c_Disk T.mt_Disk__land (ok_Disk__land T) gd (hr.mono (by decide)) (b_Disk__land T) .nil pass0 (pa_cons (pe_lc (own := [("number", 2)]) (g := gName 2) (tt := tYes) rfl sc_Disk_cut.nd (pi_seq (pv 1) (pv 1)) (blkOk_by (own := [("number", 2)]) (N := N_Disk_cut) (sc := defScope s_Disk_cut) (by decide +kernel)) (fun _ _ _ _ _ => (pg_name (i := 2) sc_Disk_cut.nd rfl (Or.inl rfl))) (fun _ _ _ _ _ => pts_nil) (fun _ _ _ _ _ => pe_ix (show IxR _ (rIxL K) from ix_list) ((show PE _ _ (tFld K (tVar 0) "strokes") from pe_fld (f := "strokes") (pv 0) rfl)) (pv 2) (fun _ _ => rfl))) pa_nil)))
      (pss_cons (ps_expr (pg_meth0 (pv 0) T.c_Disk T.mt_Disk__forget_strokes (ok_Disk__forget_strokes T) gd (hr.mono (by decide)) (b_Disk__forget_strokes T) .nil pass0))
      (pss_one (ps_fld (pv 0) (pe_non) rfl)))))), ?_⟩
  obtain ⟨d, n, y, ns, rfl, hy, hlot, hnl, hok, hn, hw, k⟩ := hc
  walk_at "n"
  refine DS.seq (DS.ite (DT.not (DT.val ?_)))
  refine DE.call ?_
  walk_at "n"
  refine DAo.cons (DE.var rfl ?_)
  refine DAo.cons (DE.lend (ρ := [.dp true d.t, .sh y, .no]) (lent_d (.own (.own .nil))) ?_)
  walk_at "go"
  refine ⟨0, _, _, _, rfl, T.c_Disk, T.n_Disk_strokes, rfl, ?_⟩
  walk_at "go"
  refine .inl ⟨_, rfl, rfl, ?_⟩
  walk_at "go"
  refine ⟨by omega, by rw [List.length_map]; exact hlot, fun s1 => ?_⟩
  walk_at "go"
  refine DE.meth ⟨true, d.x, 0, ["cells", "strokes", "latest", "left"], _, rfl, rfl, by decide, ?_⟩
  walk_at "n"
  refine DAo.cons (DE.lend (ρL := [.sh d.D, .sh y, .no]) ?_ ?_)
  · exact lent_d (.own (.own .nil))
  refine' DE.lcM ns D.int (fun i => (d.W[i.toNat]?).elim .non eW) (by omega) ?i1 (nown_of rfl) ?i2 ?i3 ?i4
  case i1 => walk_at "go"
  case i2 =>
    intro i hi
    obtain ⟨i0, i1⟩ := hlot.2 i hi
    obtain ⟨j, rfl⟩ := Int.eq_ofNat_of_zero_le i0
    have hj : j < d.W.length := by omega
    walk_at "go"
    refine ⟨0, _, _, _, rfl, T.c_Disk, T.n_Disk_strokes, rfl, ?_⟩
    walk_at "go"
    refine r2_ixLx rfl (d := eW d.W[j]) (atI_nat (by rw [List.getElem?_map, List.getElem?_eq_getElem hj]; rfl)) ?_
    walk_at "go"
    refine ⟨by rw [Int.toNat_natCast, List.getElem?_eq_getElem hj]; rfl, rfl, nown_of rfl⟩
  case i3 => rfl
  case i4 =>
    have hp : (ns.map fun i => (d.W[i.toNat]?).elim DD.D.non eW) = (pick d.W ns).map eW := pick_map hlot.2
    rw [hp]
    refine .inr ⟨_, rfl, nol_eW _, ?_⟩
    walk_at "go"
    have hpl : (pick d.W ns).length ≤ 200 := Nat.le_trans (List.length_filterMap_le ..) hnl
    refine ⟨d, n, _, pick d.W ns, rfl, .inl rfl, hok.c, by omega, fun w hw2 => hw w (pick_mem hw2), fun s1 => ?_⟩
    generalize hd1 : (pick d.W ns).foldl Dsk.land d = d1
    walk_at "n"
    refine DS.seq (DS.drop (DE.meth ⟨true, d1.x, 0, ["cells", "strokes", "latest", "left"], _, rfl, rfl, by decide, ?_⟩))
    walk_at "go"
    refine ⟨by decide, fun s l ps s1 hps => ?_⟩
    refine DS.fldT ?_
    walk_at "go"
    refine ⟨d1.x, 0, true, _, [], 0, _, _, rfl, rfl, rfl, T.c_Disk, T.n_Disk_left, by decide, ?_⟩
    exact k { d1 with s := s, l := l, ls := ps.map fun p => (p, []), W := [] } _ (by show d1.cs = _; rw [hd1]) (new3 hps) rfl
def cRead : Ct := fun ss Φ => ∃ (d : Dsk) (n : Nat) (t a m : Int), ss = [.dp true d.t, .sh (.int t), .sh (.int a), .sh (.int m)] ∧ inTr t ∧ inCe a ∧ 0 ≤ m ∧ m ≤ 6 ∧ m ≤ mostFrom a ∧ d.Ok n ∧ n < 90000 ∧ ∀ s1, Φ (.d (.tup ((List.range m.toNat).map fun (i : Nat) => D.int (((lookA (d.ls[t.toNat]?.elim [] (·.2)) (a + (i : Int))).getD ((lookA (d.cs[t.toNat]?.elim [] (·.2)) (a + (i : Int))).getD 0)))))) (.dp true d.t :: s1)
theorem ok_Disk_read (T : Txt K mg fs fd tk cp.c) : FnG P w K mg base CX0 5 (fs 12) (fd 12) P_Disk_read (spC K cp 4 cRead) := by
  refine okD (nos := [.no, .no, .no]) T.f_Disk_read sc_Disk_read rfl fun cd A out s H E gd hr ss Φ hc hl => ⟨_, PSs.nox ((pss_cons (ps_expr (pg_call (ok_check_cell T) gd (hr.mono (by decide)) (by rfl) T.m_check_cell T.f_check_cell.kp (b_check_cell T) .nil pass0 (pa_cons (pv 1) (pa_cons (pv 2) pa_nil))))
      (pss_cons (ps_if (pt_not (pt_val (pg_call (ok_is_within T) gd (hr.mono (by decide)) (by rfl) T.m_is_within T.f_is_within.kp (b_is_within T) .nil pass0 (pa_cons (pv 3) (pa_cons (pe_int) (pa_cons (pg_call (ok_Umost_from T) gd (hr.mono (by decide)) (by rfl) T.m_Umost_from T.f_Umost_from.kp (b_Umost_from T) .nil pass0 (pa_cons (pv 2) pa_nil)) pa_nil))))))
        (pss_one (ps_never))
        pss_nil)
      (pss_cons (ps_asg (pe_tup (pa_cons (pe_ix ix_list (pe_fld (f := "cells") (pv 0) rfl) (pv 1) (fun _ _ => rfl)) (pa_cons (pe_ix ix_list (pe_fld (f := "latest") (pv 0) rfl) (pv 1) (fun _ _ => rfl)) pa_nil))) (pg_tup rfl (pgs_cons (pg_name (i := 4) sc_Disk_read.nd rfl (by first | exact Or.inl rfl | exact Or.inr rfl)) (pgs_cons (pg_name (i := 5) sc_Disk_read.nd rfl (by first | exact Or.inl rfl | exact Or.inr rfl)) pgs_nil))))
      (pss_one (ps_ret (pe_callTy call_tuple_of (by rfl) T.z_tuple (by decide +kernel) (pa_cons (pe_lc (own := [("cell", 6)]) (g := gName 6) (tt := tYes) rfl sc_Disk_read.nd (pi_range2 (by rfl) T.z_range (pa_cons (pv 2) (pa_cons (pe_op op_add (pv 2) (pv 3)) pa_nil))) (blkOk_by (own := [("cell", 6)]) (N := N_Disk_read) (sc := defScope s_Disk_read) (by decide +kernel)) (fun _ _ _ _ _ => (pg_name (i := 6) sc_Disk_read.nd rfl (Or.inl rfl))) (fun _ _ _ _ _ => pts_nil) (fun _ _ _ _ _ => pe_dget2 (hu_of hr) (pv 5) (pv 6) (pe_dget2 (hu_of hr) (pv 4) (pv 6) (pe_int) ⟨rfl, rfl, rfl, rfl⟩) ⟨rfl, rfl, rfl, rfl⟩)) pa_nil)))))))), ?_⟩
  obtain ⟨d, n, t, a, m, rfl, ht, ha, m0, m6, hmo, hok, hn, k⟩ := hc
  walk_at "go"
  rw [if_neg (by simp [withinD, m0, hmo])]
  obtain ⟨kt, q, rfl, hq, _⟩ := hok.c.at ht
  obtain ⟨kt2, q2, e2, hq2, _⟩ := hok.l.at ht
  have : kt2 = kt := by omega
  subst this
  walk_at "n"
  refine DS.next ?_
  refine DS.seq (DS.asg ?_)
  refine DE.tup ?_
  refine DAo.cons (DE.ixTl ?_)
  walk_at "fs"
  walk_at "go"
  refine ⟨0, true, _, [0], _, (kt2 : Int), dq q, rfl, rfl, rfl, atI_nat (by rw [List.getElem?_map, hq]; rfl), ?_⟩
  refine DAo.cons (DE.ixTl ?_)
  walk_at "fs"
  walk_at "go"
  refine ⟨0, true, _, [2], _, (kt2 : Int), dq q2, rfl, rfl, rfl, atI_nat (by rw [List.getElem?_map, hq2]; rfl), ?_⟩
  rw [show (dq q).link = .lk q.1 from rfl, show (dq q2).link = .lk q2.1 from rfl]
  walk_at "go"
  refine DE.lend (ρL := [.sh d.D, .sh (.int kt2), .sh (.int a), .sh (.int m), .sh (qD q), .sh (qD q2), .no]) ?_ ?_
  · exact lent_d (.own (.own (.own (lent_q (i := 0) rfl (d.get_c hq) (lent_q (i := 0) rfl (d.get_l hq2) (.own .nil))))))
  refine' DE.lcM (List.range m.toNat) (fun (i : Nat) => D.int (a + (i : Int))) (fun (i : Nat) => D.int (((lookA q2.2 (a + (i : Int))).getD ((lookA q.2 (a + (i : Int))).getD 0)))) (by rw [List.length_range]; omega) ?i1 (nown_of rfl) ?i2 ?i3 ?i4
  case i1 =>
    walk_at "go"
    refine ⟨⟨by have := ha.1; omega, by have := ha.2; omega, by have := ha.1; omega, by have := ha.2; omega⟩, rfl, ?_⟩
    rw [show a + m - a = m by omega]; rfl
  case i2 =>
    intro i hi
    walk_at "go"
    refine ⟨?_, rfl, nown_of rfl⟩
    rw [look_kv, look_kv]
    cases lookA q2.2 (a + (i : Int)) <;> cases lookA q.2 (a + (i : Int)) <;> rfl
  case i3 => rfl
  case i4 =>
    refine .inr ⟨_, rfl, nol_map (fun _ => rfl) _, ?_⟩
    walk_at "go"
    have z := k [.sh (.int kt2), .sh (.int a), .sh (.int m), .sh (.lk q.1), .sh (.lk q2.1), .no]
    rw [Int.toNat_natCast, hq, hq2] at z
    exact z
def keptD (m : KV) : List D := ((m.filter fun p => !decide (p.2 = 0)).map eP).mergeSort leD
theorem rl_sortE {ψ : AV → Prop} {ts : List (Int × Int)} (q : ψ (.n (.lst ((ts.map eP).mergeSort leD)))) : RLd K cp (rSortedD K) [.lst (ts.map eP)] ψ := by
  refine rl_sortedD (b := true) (fun x hx => ?_) (fun x hx => ?_) ?_ ?_ q
  · obtain ⟨t, _, rfl⟩ := List.mem_map.mp hx; rfl
  · obtain ⟨t, _, rfl⟩ := List.mem_map.mp hx
    simp [eP, pyD, pyA, PyData.depth, PyData.depthAll]
  · rw [List.map_map]; exact PySem.W.AllAlike.of fun _ _ => rfl
  · rw [List.map_map]; exact PySem.W.Sortable.tuples fun _ => ⟨_, _, rfl⟩
def cKept : Ct := fun ss Φ => ∃ (d : Dsk) (n : Nat) (t : Int), ss = [.dp true d.t, .sh (.int t)] ∧ inTr t ∧ d.Ok n ∧ n < 90000 ∧ ∀ s1, Φ (.d (.tup (keptD (d.cs[t.toNat]?.elim [] (·.2))))) (.dp true d.t :: s1)
theorem ok_Disk_kept (T : Txt K mg fs fd tk cp.c) : FnG P w K mg base CX0 4 (fs 13) (fd 13) P_Disk_kept (spC K cp 2 cKept) := by
  refine okD (nos := [.no]) T.f_Disk_kept sc_Disk_kept rfl fun cd A out s H E gd hr ss Φ hc hl => ⟨_, PSs.nox ((pss_cons (ps_expr (pg_call (ok_check_track T) gd (hr.mono (by decide)) (by rfl) T.m_check_track T.f_check_track.kp (b_check_track T) .nil pass0 (pa_cons (pv 1) pa_nil)))
      (pss_one (ps_ret (pe_callTy call_tuple_of (by rfl) T.z_tuple (by decide +kernel) (pa_cons (pe_callB (cr_sortedD hr) (by rfl) T.z_sorted (by decide +kernel) (pa_cons (pe_lock (pe_lc (own := [("pair", 2)]) (g := gName 2) rfl sc_Disk_kept.nd (pi_itemsN (pe_ix ix_list (pe_fld (f := "cells") (pv 0) rfl) (pv 1) (fun _ _ => rfl))) (blkOk_by (own := [("pair", 2)]) (N := N_Disk_kept) (sc := defScope s_Disk_kept) (by decide +kernel)) (fun _ _ _ _ _ => (pg_name (i := 2) sc_Disk_kept.nd rfl (Or.inl rfl))) (fun _ _ _ _ _ => (pts_one (pt_cmpR op_ne (pe_ix (show IxR _ (rIxT K) from ix_tup) (pv 2) (pe_int) (fun _ _ => rfl)) (pe_int) (nomark _)))) (fun _ _ _ _ _ => pv 2))) pa_nil)) pa_nil)))))), ?_⟩
  obtain ⟨d, n, t, rfl, ht, hok, hn, k⟩ := hc
  obtain ⟨kt, q, rfl, hq, hnd, hql⟩ := hok.c.at ht
  walk_at "go"
  have hg : d.t.get [0, kt] = some (.dk q.1 (kK q.2) (((q.2.map (·.2)).map D.int).map .sh)) := d.get_c hq
  have eL : (List.map DD.lend [SV.dp true d.t, .sh (.int kt), .no]).set 0 (.sh (d.t.toDp [0, kt])) = [.sh (.ob 0 ["cells", "strokes", "latest", "left"] [.lst ((d.cs.map qD).set kt (.lk q.1)), .lst (d.W.map eW), .lst (d.ls.map qD), .non]), .sh (.int kt), .no] := by rw [d.toDp_c hq]; rfl
  have hkt : kt < (d.cs.map qD).length := by rw [List.length_map]; exact (List.getElem?_eq_some_iff.mp hq).1
  refine DE.lcItemsT (i := 0) rfl hg ?_ fun wi hwi => ?_
  · rw [eL]
    walk_at "go"
    refine ⟨0, _, _, _, rfl, T.c_Disk, T.n_Disk_cells, rfl, ?_⟩
    walk_at "n"
    walk_at "go"
    refine r2_ixLx rfl (d := .lk q.1) (atI_nat (List.getElem?_set_self hkt)) ?_
    exact ⟨rfl, rfl⟩
  · rw [zip_kv, eL] at hwi
    rw [eL]
    refine' DE.lcP q.2 eP (fun p => !decide (p.2 = 0)) eP (by omega) ?i1 (nown_of rfl) ?i2 ?i3 ?i4
    case i1 => exact hwi _ ⟨rfl, rfl⟩
    case i2 =>
      intro p hp
      walk_at "go"
      refine ⟨by rw [vint_eq], ?_⟩
      split <;> walk_at "go" <;> exact nown_of rfl
    case i3 => rfl
    case i4 =>
      refine .inr ⟨_, rfl, nol_map (fun _ => rfl) _, ?_⟩
      walk_at "go"
      refine rl_sortE ?_
      walk_at "go"
      have z := k [.sh (.int kt), .no]
      rw [Int.toNat_natCast, hq] at z
      exact z
end
end
section
set_option Elab.async false
set_option linter.all false
set_option maxRecDepth 100000
set_option maxHeartbeats 400000
open PySem PySem.Spec PyProof.Rows L2 GL DD


/-! the law's own disk: by place -/
def lK (m : List Wt) : List (List Key) := m.map fun w => [Sum.inl w.1.1, Sum.inl w.1.2]
def lD (m : List Wt) : List D := m.map fun w => D.int w.2
def putL : List Wt → Wt → List Wt
  | [], x => [x]
  | w :: m, x => if w.1 = x.1 then x :: m else w :: putL m x
def lookL : List Wt → Int × Int → Option Int
  | [], _ => none
  | w :: m, p => if w.1 = p then some w.2 else lookL m p
theorem key_eq {p q : Int × Int} : ([Sum.inl p.1, Sum.inl p.2] : List Key) = [Sum.inl q.1, Sum.inl q.2] ↔ p = q := by
  constructor
  · intro h
    obtain ⟨a, b⟩ := p
    obtain ⟨c, d⟩ := q
    injection h with h1 h2
    injection h2 with h3
    rw [show a = c from Sum.inl.inj h1, show b = d from Sum.inl.inj h3]
  · rintro rfl; rfl
theorem put_lK : ∀ (m : List Wt) (x : Wt), putKs (lK m) [Sum.inl x.1.1, Sum.inl x.1.2] = lK (putL m x)
  | [], x => rfl
  | w :: m, x => by
    have ih := put_lK m x
    by_cases h : w.1 = x.1
    · unfold putKs
      have e : ((lK (w :: m)).any fun y => decide (y = [Sum.inl x.1.1, Sum.inl x.1.2])) = true := by
        simp only [lK, List.map_cons, List.any_cons]; rw [decide_eq_true (key_eq.mpr h)]; rfl
      rw [if_pos e]
      show _ = lK (if w.1 = x.1 then x :: m else _)
      rw [if_pos h]; simp only [lK, List.map_cons, h]
    · have hn : ¬ ([Sum.inl w.1.1, Sum.inl w.1.2] : List Key) = [Sum.inl x.1.1, Sum.inl x.1.2] := fun z => h (key_eq.mp z)
      have e : lK (putL (w :: m) x) = [Sum.inl w.1.1, Sum.inl w.1.2] :: lK (putL m x) := by simp only [putL, if_neg h, lK, List.map_cons]
      rw [e, ← ih]
      unfold putKs
      have e2 : ((lK (w :: m)).any fun y => decide (y = [Sum.inl x.1.1, Sum.inl x.1.2])) = (lK m).any fun y => decide (y = [Sum.inl x.1.1, Sum.inl x.1.2]) := by simp only [lK, List.map_cons, List.any_cons]; rw [decide_eq_false hn, Bool.false_or]
      rw [e2]
      by_cases hh : ((lK m).any fun y => decide (y = [Sum.inl x.1.1, Sum.inl x.1.2])) = true
      · rw [if_pos hh, if_pos hh]; rfl
      · rw [if_neg hh, if_neg hh]; rfl
theorem put_lD : ∀ (m : List Wt) (x : Wt), putDs (lK m) (lD m) [Sum.inl x.1.1, Sum.inl x.1.2] (.int x.2) = lD (putL m x)
  | [], x => rfl
  | w :: m, x => by
    have ih := put_lD m x
    simp only [lK, lD, List.map_cons, putL, putDs] at ih ⊢
    by_cases h : w.1 = x.1
    · rw [if_pos h, if_pos (key_eq.mpr h)]; rfl
    · rw [if_neg h, if_neg fun z => h (key_eq.mp z), ih]; rfl
theorem look_lv : ∀ (m : List Wt) (p : Int × Int), lookK (lK m) (lD m) [Sum.inl p.1, Sum.inl p.2] = (lookL m p).map D.int
  | [], p => rfl
  | w :: m, p => by
    have ih := look_lv m p
    simp only [lK, lD, List.map_cons, lookL, lookK] at ih ⊢
    by_cases h : w.1 = p
    · rw [if_pos h, if_pos (key_eq.mpr h)]; rfl
    · rw [if_neg h, if_neg fun z => h (key_eq.mp z), ih]
theorem putL_mem {m : List Wt} {x : Wt} {p : Int × Int} (h : p ∈ (putL m x).map (·.1)) : p ∈ m.map (·.1) ∨ p = x.1 := by
  induction m with
  | nil => simp [putL] at h; exact .inr h
  | cons w m ih =>
    simp only [putL] at h
    split at h
    · simp only [List.map_cons, List.mem_cons] at h ⊢
      rcases h with h | h
      · exact .inr h
      · exact .inl (.inr h)
    · simp only [List.map_cons, List.mem_cons] at h ⊢
      rcases h with h | h
      · exact .inl (.inl h)
      · exact (ih h).imp_left .inr
theorem putL_nd {m : List Wt} {x : Wt} (h : (m.map (·.1)).Nodup) : ((putL m x).map (·.1)).Nodup := by
  induction m with
  | nil => simp [putL]
  | cons w m ih =>
    have h2 := List.nodup_cons.mp (show (w.1 :: m.map (·.1)).Nodup from h)
    simp only [putL]
    split
    · rename_i e; rw [List.map_cons, ← e]; exact h
    · rename_i e
      refine List.nodup_cons.mpr ⟨fun z => ?_, ih h2.2⟩
      rcases putL_mem z with z | z
      · exact h2.1 z
      · exact e z
theorem putL_len {m : List Wt} {x : Wt} : (putL m x).length ≤ m.length + 1 := by
  induction m with
  | nil => simp [putL]
  | cons w m ih => simp only [putL]; split <;> simp only [List.length_cons] <;> omega
theorem lK_nd {m : List Wt} (h : (m.map (·.1)).Nodup) : (lK m).Nodup := by
  have : lK m = (m.map (·.1)).map fun p => ([Sum.inl p.1, Sum.inl p.2] : List Key) := by simp [lK]
  rw [this]
  exact List.Pairwise.map _ (fun a b n z => n (key_eq.mp z)) h
theorem lookL_at {m : List Wt} {w : Wt} (h : (m.map (·.1)).Nodup) (hw : w ∈ m) : lookL m w.1 = some w.2 := by
  induction m with
  | nil => cases hw
  | cons x m ih =>
    have h2 := List.nodup_cons.mp (show (x.1 :: m.map (·.1)).Nodup from h)
    simp only [lookL]
    rcases List.mem_cons.mp hw with rfl | hw
    · rw [if_pos rfl]
    · rw [if_neg fun z => h2.1 (by rw [z]; exact List.mem_map.mpr ⟨w, hw, rfl⟩), ih h2.2 hw]
/-- what lies on a track -/
def trk (m : List Wt) (t : Int) : KV := (m.filter fun w => decide (w.1.1 = t)).map fun w => (w.1.2, w.2)
theorem trk_put (t : Int) : ∀ (m : List Wt) (x : Wt), trk (putL m x) t = if x.1.1 = t then putA (trk m t) x.1.2 x.2 else trk m t
  | [], x => by by_cases h : x.1.1 = t <;> simp [trk, putL, putA, h]
  | w :: m, x => by
    have ih := trk_put t m x
    by_cases h : w.1 = x.1
    · by_cases h2 : x.1.1 = t <;> simp [trk, putL, putA, h, h2]
    · simp only [putL, if_neg h]
      by_cases h2 : w.1.1 = t
      · have e : ∀ m', trk (w :: m') t = (w.1.2, w.2) :: trk m' t := fun m' => by simp [trk, h2]
        rw [e, e, ih]
        by_cases h3 : x.1.1 = t
        · rw [if_pos h3, if_pos h3]
          have : w.1.2 ≠ x.1.2 := fun z => h (Prod.ext (h2.trans h3.symm) z)
          simp [putA, this]
        · rw [if_neg h3, if_neg h3]
      · have e : ∀ m', trk (w :: m') t = trk m' t := fun m' => by simp [trk, h2]
        rw [e, e, ih]
theorem look_trk (t x : Int) : ∀ m : List Wt, lookA (trk m t) x = lookL m (t, x)
  | [] => rfl
  | w :: m => by
    have ih := look_trk t x m
    by_cases h : w.1.1 = t
    · have e : trk (w :: m) t = (w.1.2, w.2) :: trk m t := by simp [trk, h]
      rw [e]
      simp only [lookA, lookL, ih]
      by_cases h2 : w.1.2 = x
      · rw [if_pos h2, if_pos (Prod.ext h h2)]
      · rw [if_neg h2, if_neg fun z => h2 (by rw [z])]
    · have e : trk (w :: m) t = trk m t := by simp [trk, h]
      rw [e, ih]
      simp only [lookL]
      rw [if_neg fun z => h (by rw [z])]
theorem look_put {m : KV} {k v x : Int} : lookA (putA m k v) x = if x = k then some v else lookA m x := by
  induction m with
  | nil => simp only [putA, lookA]; by_cases h : x = k; · rw [if_pos h.symm, if_pos h]
           · rw [if_neg fun z => h z.symm, if_neg h]
  | cons p m ih =>
    simp only [putA]
    by_cases h : p.1 = k
    · rw [if_pos h]
      simp only [lookA]
      by_cases h2 : x = k
      · rw [if_pos h2.symm, if_pos h2]
      · rw [if_neg fun z => h2 z.symm, if_neg h2, if_neg fun z => h2 (z.symm.trans h)]
    · rw [if_neg h]
      simp only [lookA, ih]
      by_cases h2 : p.1 = x
      · rw [if_pos h2, if_neg fun z => h (h2.trans z), if_pos h2]
      · rw [if_neg h2, if_neg h2]
/-- those whose number is in ns -/
def filt : List Wt → Int → List Int → List Wt
  | [], _, _ => []
  | w :: W, s, ns => if s ∈ ns then w :: filt W (s + 1) ns else filt W (s + 1) ns
theorem filt_app {ns : List Int} {x : Wt} : ∀ {l : List Wt} {s : Int}, filt (l ++ [x]) s ns = filt l s ns ++ (if s + (l.length : Int) ∈ ns then [x] else [])
  | [], s => by simp [filt]
  | w :: l, s => by
    have ih := filt_app (ns := ns) (x := x) (l := l) (s := s + 1)
    rw [show s + 1 + (l.length : Int) = s + ((w :: l).length : Int) by simp only [List.length_cons]; omega] at ih
    show (if s ∈ ns then w :: filt (l ++ [x]) (s + 1) ns else filt (l ++ [x]) (s + 1) ns) = (if s ∈ ns then w :: filt l (s + 1) ns else filt l (s + 1) ns) ++ _
    rw [ih]
    by_cases h : s ∈ ns
    · rw [if_pos h, if_pos h]; rfl
    · rw [if_neg h, if_neg h]
theorem filt_all {ns : List Int} : ∀ {W : List Wt} {s : Int}, (∀ i : Int, s ≤ i → i < s + (W.length : Int) → i ∈ ns) → filt W s ns = W
  | [], s, h => rfl
  | w :: W, s, h => by
    simp only [filt]
    rw [if_pos (h s (by omega) (by simp only [List.length_cons]; omega)), filt_all fun i h1 h2 => h i (by omega) (by simp only [List.length_cons]; omega)]
theorem filt_pick : ∀ {W : List Wt} {s : Int} {ns : List Int}, ns.Pairwise (· < ·) → (∀ x ∈ ns, s ≤ x) → filt W s ns = ns.filterMap fun i => W[(i - s).toNat]?
  | [], s, ns, hp, h => by simp [filt]
  | w :: W, s, ns, hp, h => by
    have nx : ∀ (l : List Int), (∀ x ∈ l, s + 1 ≤ x) → l.filterMap (fun i => (w :: W)[(i - s).toNat]?) = l.filterMap fun i => W[(i - (s + 1)).toNat]? := fun l hl => by
      induction l with
      | nil => rfl
      | cons x l ih =>
        have h1 := hl x List.mem_cons_self
        rw [List.filterMap_cons, List.filterMap_cons, ih fun y hy => hl y (List.mem_cons_of_mem _ hy), show (x - s).toNat = (x - (s + 1)).toNat + 1 by omega, List.getElem?_cons_succ]
    simp only [filt]
    by_cases hs : s ∈ ns
    · rw [if_pos hs]
      cases ns with
      | nil => cases hs
      | cons x ns =>
        have hp2 := List.pairwise_cons.mp hp
        have : x = s := by
          rcases List.mem_cons.mp hs with e | e
          · exact e.symm
          · have := hp2.1 s e; have := h x List.mem_cons_self; omega
        subst this
        rw [List.filterMap_cons, show (x - x).toNat = 0 by omega, List.getElem?_cons_zero]
        have hg : ∀ y ∈ ns, x + 1 ≤ y := fun y hy => by have := hp2.1 y hy; omega
        have : filt W (x + 1) (x :: ns) = filt W (x + 1) ns := filt_cons (by omega)
        rw [this, filt_pick hp2.2 hg, nx ns hg]
    · rw [if_neg hs]
      have hg : ∀ y ∈ ns, s + 1 ≤ y := fun y hy => by
        have := h y hy
        rcases Int.lt_or_eq_of_le this with z | z
        · omega
        · exact absurd (z ▸ hy) hs
      rw [filt_pick hp hg, nx ns hg]
where
  filt_cons {x : Int} {ns : List Int} : ∀ {W : List Wt} {s : Int}, x < s → filt W s (x :: ns) = filt W s ns
    | [], s, h => rfl
    | w :: W, s, h => by
      simp only [filt]
      rw [filt_cons (show x < s + 1 by omega)]
      by_cases hs : s ∈ ns
      · rw [if_pos hs, if_pos (List.mem_cons_of_mem _ hs)]
      · rw [if_neg hs, if_neg fun z => (List.mem_cons.mp z).elim (fun e => by omega) hs]
def landL (m : List Wt) (ws : List Wt) : List Wt := ws.foldl putL m
end
section
set_option Elab.async false
set_option linter.all false
set_option maxRecDepth 100000
set_option maxHeartbeats 400000
open PySem PySem.Spec PyProof.Rows L2 GL DD


local macro_rules | `(tactic| walk_at "1DE") => `(tactic| first
  | (with_reducible refine' DE.dgetT ?_)
  | (with_reducible refine' DE.get2T ?_))
local macro_rules | `(tactic| walk_at "1DS") => `(tactic| (with_reducible refine' DS.dputK ?_))
theorem okS_ii (i j : Int) : okS (.tup [.int i, .int j]) := ⟨rfl, by simp [pyD, pyA, PyData.depth, PyData.depthAll]⟩
theorem eP_inj {p : Int × Int} {i j : Int} : eP p = .tup [.int i, .int j] ↔ p = (i, j) := by
  constructor
  · intro h
    injection h with h
    injection h with h1 h2
    injection h2 with h2
    injection h1 with h1
    injection h2 with h2
    exact Prod.ext h1 h2
  · rintro rfl; rfl
theorem kept_trk {m : List Wt} {t : Int} : (m.filter fun w => decide (w.1.1 = t) && !decide (w.2 = 0)).map (fun w => eP (w.1.2, w.2)) = ((trk m t).filter fun p => !decide (p.2 = 0)).map eP := by
  unfold trk
  rw [List.filter_map, List.map_map, List.filter_filter]
  congr 1
  apply List.filter_congr
  intro w _
  simp [Bool.and_comm]
section
variable {P : Program} {w : World} {K : PySem.W.Frag} {mg : Str → Option Value} {base : Heap} {fs : Nat → Addr} {fd : Nat → FuncData} {tk : Nat → Tok} {cp : Cb}
def lies (m : List Wt) : D := .dt (lK m) (lD m)
structure LOk (m : List Wt) (n : Nat) : Prop where
  nd : (m.map (·.1)).Nodup
  len : m.length ≤ n
theorem landL_ok : ∀ {ws : List Wt} {m : List Wt} {n : Nat}, LOk m n → LOk (landL m ws) (n + ws.length)
  | [], m, n, h => h
  | x :: ws, m, n, h => by
    have := landL_ok (ws := ws) (m := putL m x) (n := n + 1) ⟨putL_nd h.nd, by have := putL_len (m := m) (x := x); have := h.len; omega⟩
    rw [show n + (x :: ws).length = n + 1 + ws.length by simp only [List.length_cons]; omega]
    exact this
theorem filt_len {ns : List Int} : ∀ {W : List Wt} {s : Int}, (filt W s ns).length ≤ W.length
  | [], s => Nat.le_refl _
  | x :: W, s => by
    have := filt_len (ns := ns) (W := W) (s := s + 1)
    simp only [filt]
    split <;> simp only [List.length_cons] <;> omega
def cLandL : Ct := fun ss Φ => ∃ (b : Bool) (m : List Wt) (n : Nat) (W : List Wt) (ns : List Int), ss = [.ow b (lies m), .sh (.lst (W.map eW)), .sh (.lst (ns.map D.int))] ∧ LOk m n ∧ n + W.length < 90000 ∧ ns.length ≤ 200 ∧ ∀ s1, Φ (.d .non) (.ow b (lies (landL m (filt W 0 ns))) :: s1)
theorem ok_Lland (T : Txt K mg fs fd tk cp.c) : FnG P w K mg base CX0 1 (fs 23) (fd 23) P_Lland (spC K cp 3 cLandL) := by
  refine okD (nos := [.no, .no, .no]) T.f_Lland sc_Lland rfl fun cd A out s H E gd hr ss Φ hc hl => ⟨_, PSs.nox ((pss_one (ps_for PassesOwn.never rfl (pi_enum (by rfl) T.z_enumerate (pa_cons (pv 1) pa_nil)) (pg_tup rfl (pgs_cons (pg_name (i := 3) sc_Lland.nd rfl (by first | exact Or.inl rfl | exact Or.inr rfl)) (pgs_cons (pg_tup rfl (pgs_cons (pg_name (i := 4) sc_Lland.nd rfl (by first | exact Or.inl rfl | exact Or.inr rfl)) (pgs_cons (pg_name (i := 5) sc_Lland.nd rfl (by first | exact Or.inl rfl | exact Or.inr rfl)) pgs_nil))) pgs_nil)))
        (pss_one (ps_if (pt_cmpR op_in_seq (pv 3) (pv 2) (by rfl))
          (pss_one (ps_dput (hu_of hr) (pv 0) (pv 4) (pv 5) rfl))
          pss_nil))))), ?_⟩
  obtain ⟨b, m, n, W, ns, rfl, hm, hn, hns, k⟩ := hc
  walk_at "n"
  refine DS.forM (List.range (W.map eW).length) (fun (i : Nat) => .tup [.int (i : Int), (W.map eW).getD i .non]) ?_
  walk_at "go"
  refine ⟨fun (l : List Nat) ρ => Keep (∃ o3 o4 o5, ρ = [.ow b (lies (landL m (filt (W.take l.length) 0 ns))), .sh (.lst (W.map eW)), .sh (.lst (ns.map D.int)), so o3, so o4, so o5]), .a ⟨none, none, none, rfl⟩, fun l x r ρ2 e kp => ?_, fun ρ2 kp => ?_⟩
  · obtain ⟨o3, o4, o5, rfl⟩ := kp.out
    have hx : (List.range (W.map eW).length)[l.length]? = some x := by rw [e]; simp
    have hlen : l.length < W.length := by
      obtain ⟨h, _⟩ := List.getElem?_eq_some_iff.mp hx
      rwa [List.length_range, List.length_map] at h
    have hxe : x = l.length := by rw [List.getElem?_range (by rw [List.length_map]; exact hlen)] at hx; exact (Option.some.inj hx).symm
    have hget : (W.map eW).getD x .non = eW W[l.length] := by
      rw [hxe, List.getD_eq_getElem?_getD, List.getElem?_map, List.getElem?_eq_getElem hlen]; rfl
    have htk : W.take (l ++ [x]).length = W.take l.length ++ [W[l.length]] := by
      rw [List.length_append, List.length_cons, List.length_nil, List.take_add_one, List.getElem?_eq_getElem hlen]; rfl
    have htl : (W.take l.length).length = l.length := by rw [List.length_take]; omega
    have hok2 := landL_ok (ws := filt (W.take l.length) 0 ns) hm
    have hfl := filt_len (ns := ns) (W := W.take l.length) (s := 0)
    dsimp only
    rw [htk, filt_app, hget, htl]
    generalize hd1 : landL m (filt (W.take l.length) 0 ns) = m1 at hok2 ⊢
    have hm1 := hok2.len
    walk_at "go"
    refine r2_inInts (ns := ns) rfl ?_
    walk_at "go"
    have hmem : (ns.any fun i => decide (i = (x : Int))) = true ↔ 0 + (l.length : Int) ∈ ns := by
      rw [List.any_eq_true, hxe, Int.zero_add]
      exact ⟨fun ⟨i, hi, q⟩ => by rw [← of_decide_eq_true q]; exact hi, fun h => ⟨_, h, decide_eq_true rfl⟩⟩
    have hf : ∀ ws : List Wt, landL m (filt (W.take l.length) 0 ns ++ ws) = landL m1 ws := fun ws => by rw [← hd1]; unfold landL; rw [List.foldl_append]
    rw [hf]
    by_cases hin : 0 + (l.length : Int) ∈ ns
    · rw [if_pos (hmem.mpr hin), if_pos hin]
      walk_at "go"
      refine ⟨b, lK m1, lD m1, _, rfl, rfl, lK_nd hok2.nd, by rw [lK, List.length_map]; unfold sizeLine; omega, ?_⟩
      have e1 := put_lK m1 W[l.length]
      have e2 := put_lD m1 W[l.length]
      rw [e1, e2]
      exact .a ⟨some _, some _, some _, rfl⟩
    · rw [if_neg fun z => hin (hmem.mp z), if_neg hin]
      walk_at "go"
      exact .a ⟨some _, some _, some _, rfl⟩
  · obtain ⟨o3, o4, o5, rfl⟩ := kp.out
    have hk := k [.sh (.lst (W.map eW)), .sh (.lst (ns.map D.int)), so o3, so o4, so o5]
    rw [List.length_range, List.length_map, List.take_length]
    exact hk
def cKeptL : Ct := fun ss Φ => ∃ (b : Bool) (m : List Wt) (n : Nat) (t : Int), ss = [.ow b (lies m), .sh (.int t)] ∧ LOk m n ∧ n < 90000 ∧ ∀ s1, Φ (.d (.tup (keptD (trk m t)))) (.ow b (lies m) :: s1)
theorem ok_Lkept (T : Txt K mg fs fd tk cp.c) : FnG P w K mg base CX0 1 (fs 24) (fd 24) P_Lkept (spC K cp 2 cKeptL) := by
  refine okD (nos := [.no]) T.f_Lkept sc_Lkept rfl fun cd A out s H E gd hr ss Φ hc hl => ⟨_, PSs.nox ((pss_one (ps_ret (pe_callTy call_tuple_of (by rfl) T.z_tuple (by decide +kernel) (pa_cons (pe_callB (cr_sortedD hr) (by rfl) T.z_sorted (by decide +kernel) (pa_cons (pe_lock (pe_lc (own := [("place", 2)]) (g := gName 2) rfl sc_Lkept.nd (pi_keys (pv 0)) (blkOk_by (own := [("place", 2)]) (N := N_Lkept) (sc := defScope s_Lkept) (by decide +kernel)) (fun _ _ _ _ _ => (pg_name (i := 2) sc_Lkept.nd rfl (Or.inl rfl))) (fun _ _ _ _ _ => (pts_one (PW.pt (pw_and (pt_cmpR op_eq (pe_ix (show IxR _ (rIxT K) from ix_tup) (pv 2) (pe_int) (fun _ _ => rfl)) (pv 1) (nomark _)) (pw_and1 (pt_cmpR op_ne (pe_dget (hu_of hr) (pv 0) (pv 2) (fun _ _ => rfl)) (pe_int) (nomark _))))))) (fun _ _ _ _ _ => pe_tup (pa_cons (pe_ix (show IxR _ (rIxT K) from ix_tup) (pv 2) (pe_int) (fun _ _ => rfl)) (pa_cons (pe_dget (hu_of hr) (pv 0) (pv 2) (fun _ _ => rfl)) pa_nil))))) pa_nil)) pa_nil))))), ?_⟩
  obtain ⟨b, m, n, t, rfl, hm, hn, k⟩ := hc
  have hml := hm.len
  walk_at "go"
  refine DE.lcKeysT rfl fun wi hwi => ?_
  refine' DE.lcP m (fun w => eP w.1) (fun w => decide (w.1.1 = t) && !decide (w.2 = 0)) (fun w => eP (w.1.2, w.2)) (by omega) ?i1 (nown_of rfl) ?i2 ?i3 ?i4
  case i1 =>
    refine hwi _ ⟨rfl, ?_⟩
    rw [lK, List.map_map]; rfl
  case i2 =>
    intro w hw
    walk_at "go"
    rw [vint_eq]
    have hlk : lookK (lK m) (lD m) [Sum.inl w.1.1, Sum.inl w.1.2] = some (.int w.2) := by rw [look_lv, lookL_at hm.nd hw]; rfl
    by_cases ht : w.1.1 = t
    · rw [if_pos (decide_eq_true ht)]
      walk_at "go"
      refine ⟨lK m, lD m, _, .int w.2, rfl, rfl, hlk, ?_⟩
      walk_at "go"
      refine ⟨by rw [vint_eq]; simp [ht], ?_⟩
      split
      · walk_at "go"
        refine ⟨lK m, lD m, _, .int w.2, rfl, rfl, hlk, ?_⟩
        walk_at "go"
        exact nown_of rfl
      · walk_at "go"
        exact nown_of rfl
    · rw [if_neg (by simpa using ht)]
      exact ⟨by simp [ht], rfl, nown_of rfl⟩
  case i3 => rfl
  case i4 =>
    refine .inr ⟨_, rfl, nol_map (fun _ => rfl) _, ?_⟩
    walk_at "go"
    rw [kept_trk]
    refine rl_sortE ?_
    walk_at "go"
    exact k _
def readL (m W : List Wt) (t a : Int) (i : Nat) : Int := (((W.filter fun w => decide (w.1 = (t, a + (i : Int)))).map (·.2)).getLast?).getD ((lookL m (t, a + (i : Int))).getD 0)
def cReads : Ct := fun ss Φ => ∃ (b : Bool) (m : List Wt) (n : Nat) (W : List Wt) (t a k : Int), ss = [.ow b (lies m), .sh (.lst (W.map eW)), .sh (.int t), .sh (.int a), .sh (.int k)] ∧ LOk m n ∧ n < 90000 ∧ W.length < 90000 ∧ inCe a ∧ 0 ≤ k ∧ k ≤ 6 ∧ ∀ s1, Φ (.d (.tup ((List.range k.toNat).map fun i => D.int (readL m W t a i)))) (.ow b (lies m) :: s1)
theorem ok_Lreads (T : Txt K mg fs fd tk cp.c) : FnG P w K mg base CX0 1 (fs 25) (fd 25) P_Lreads (spC K cp 5 cReads) := by
  refine okD (nos := [.no, .no, .no, .no, .no]) T.f_Lreads sc_Lreads rfl fun cd A out s H E gd hr ss Φ hc hl => ⟨_, PSs.nox ((pss_cons (ps_set (i := 5) sc_Lreads.nd rfl (by first | exact Or.inl rfl | exact Or.inr rfl) (pe_lst pa_nil))
      (pss_cons (ps_for PassesOwn.never rfl (pi_range2 (by rfl) T.z_range (pa_cons (pv 3) (pa_cons (pe_op op_add (pv 3) (pv 4)) pa_nil))) (pg_name (i := 6) sc_Lreads.nd rfl (by first | exact Or.inl rfl | exact Or.inr rfl))
        (pss_cons (ps_setLc (i := 7) (own := [("place", 8), ("value", 9)]) (g := gTup K 2 (gCons (gName 8) (gCons (gName 9) gNil))) rfl sc_Lreads.nd rfl rfl (sw_true rfl rfl rfl (by decide +kernel)) (pi_list (pv 1)) (blkOk_by (own := [("place", 8), ("value", 9)]) (N := N_Lreads) (sc := defScope s_Lreads) (by decide +kernel)) (fun _ _ _ _ _ => (pg_tup rfl (pgs_cons (pg_name (i := 8) sc_Lreads.nd rfl (Or.inl rfl)) (pgs_cons (pg_name (i := 9) sc_Lreads.nd rfl (Or.inl rfl)) pgs_nil)))) (fun _ _ _ _ _ => (pts_one (pt_cmpR (show OpR _ (compareOp .Eq) (rEqX K) from op_eqX hr.units) (pv 8) (pe_tup (pa_cons (pv 2) (pa_cons (pv 6) pa_nil))) (nomark _)))) (fun _ _ _ _ _ => pv 9))
        (pss_one (ps_expr (pe_bm PySem.F.plainAttrs_list PySem.F.slot_list_append PySem.F.type_list_append mt_append (pv 5) (pa_cons (pe_ifExp (pt_cmpR (op_neX hr.units) (pv 7) (pe_lst pa_nil) (nomark _)) (pe_ix ix_list (pv 7) (pe_un un_neg (pe_int)) (fun _ _ => rfl)) (pe_dget2 (hu_of hr) (pv 0) (pe_tup (pa_cons (pv 2) (pa_cons (pv 6) pa_nil))) (pe_int) ⟨rfl, rfl, rfl, rfl⟩)) pa_nil))))))
      (pss_one (ps_ret (pe_callTy call_tuple_of (by rfl) T.z_tuple (by decide +kernel) (pa_cons (pv 5) pa_nil))))))), ?_⟩
  obtain ⟨b, m, n, W, t, a, k, rfl, hm, hn, hW, ha, k0, k6, kk⟩ := hc
  walk_at "own"
  refine DS.forM (List.range k.toNat) (fun (i : Nat) => D.int (a + (i : Int))) ?_
  walk_at "go"
  refine ⟨⟨by have := ha.1; omega, by have := ha.2; omega, by have := ha.1; omega, by have := ha.2; omega⟩, by rw [show a + k - a = k by omega]; rfl, fun (l : List Nat) ρ => Keep (∃ o6 o7, ρ = [.ow b (lies m), .sh (.lst (W.map eW)), .sh (.int t), .sh (.int a), .sh (.int k), .ow false (.lst (l.map fun i => .int (readL m W t a i))), so o6, so o7, .no, .no]), .a ⟨none, none, rfl⟩, fun l x r ρ2 e kp => ?_, fun ρ2 kp => ?_⟩
  · obtain ⟨o6, o7, rfl⟩ := kp.out
    have hll : l.length ≤ 6 := by
      have : l.length ≤ (List.range k.toNat).length := by rw [e]; simp
      rw [List.length_range] at this; omega
    walk_at "n"
    refine DGo.name (free_so rfl) ?_
    walk_at "n"
    refine DS.seq (DS.own ?_)
    refine' DE.lcP W eW (fun w => decide (w.1 = (t, a + (x : Int)))) (fun w => .int w.2) (by omega) ?i1 (nown_of rfl) ?i2 ?i3 ?i4
    case i1 => walk_at "go"
    case i2 =>
      intro w hw
      walk_at "go"
      refine r2_eqS (okS_ii _ _) (okS_ii _ _) fun c hc => ?_
      walk_at "go"
      refine ⟨?_, ?_⟩
      · rw [Bool.eq_iff_iff, hc, decide_eq_true_iff]; exact eP_inj
      · split <;> walk_at "go" <;> exact nown_of rfl
    case i3 => rfl
    case i4 =>
      refine ⟨_, rfl, free_so rfl, ?_⟩
      walk_at "n"
      refine DS.lock (i := 7) rfl ?_
      walk_at "go"
      have hr : readL m W t a x = ((((W.filter fun w => decide (w.1 = (t, a + (x : Int)))).map (·.2)).getLast?).getD ((lookL m (t, a + (x : Int))).getD 0)) := rfl
      generalize W.filter (fun w => decide (w.1 = (t, a + (x : Int)))) = Fl at hr ⊢
      refine r2_neIntsM (f := fun w : Wt => w.2) ?_
      walk_at "go"
      rcases List.eq_nil_or_concat Fl with rfl | ⟨ini, z, rfl⟩
      · rw [if_neg (by simp)]
        walk_at "go"
        have e1 := look_lv m (t, a + (x : Int))
        have e2 : (lookK (lK m) (lD m) [Sum.inl t, Sum.inl (a + (x : Int))]).getD (D.int 0) = .int (readL m W t a x) := by
          rw [e1, hr]; cases lookL m (t, a + (x : Int)) <;> rfl
        rw [e2]
        exact .a ⟨some _, some _, by rw [List.map_append (l₁ := l)]; rfl⟩
      · rw [if_pos (by simp)]
        walk_at "go"
        have hc : ini.concat z = ini ++ [z] := List.concat_eq_append
        rw [hc] at hr ⊢
        refine r2_ixLx rfl (d := .int z.2) ?_ ?_
        · unfold atI ixN
          rw [if_neg (by decide), if_pos (by simp only [List.length_map, List.length_append, List.length_cons, List.length_nil]; omega)]
          have : (-1 + (((ini ++ [z]).map fun w : Wt => D.int w.2).length : Int)).toNat = ini.length := by
            simp only [List.length_map, List.length_append, List.length_cons, List.length_nil]; omega
          show ((ini ++ [z]).map fun w : Wt => D.int w.2)[(-1 + (((ini ++ [z]).map fun w : Wt => D.int w.2).length : Int)).toNat]? = _
          rw [this, List.map_append, List.getElem?_append_right (by simp)]
          simp
        · walk_at "go"
          have e2 : z.2 = readL m W t a x := by rw [hr]; simp
          rw [e2]
          exact .a ⟨some _, some _, by rw [List.map_append (l₁ := l)]; rfl⟩
  · obtain ⟨o6, o7, rfl⟩ := kp.out
    walk_at "go"
    exact kk _
end
end
section
set_option Elab.async false
set_option linter.all false
set_option maxRecDepth 100000
set_option maxHeartbeats 400000
open PySem PySem.Spec PyProof.Rows L2 GL DD


/-- what a stroke may be -/
def inW (w : Wt) : Prop := inTr w.1.1 ∧ inCe w.1.2 ∧ inVa w.2
/-- the disk and the law's own one -/
structure Rel (d : Dsk) (m W : List Wt) (n : Nat) : Prop where
  ok : d.Ok n
  lok : LOk m n
  w : d.W = W
  c : ∀ k : Nat, k < 3 → ∃ q, d.cs[k]? = some q ∧ q.2 = trk m k
  l : ∀ k : Nat, k < 3 → ∃ q, d.ls[k]? = some q ∧ ∀ x : Int, lookA q.2 x = ((W.filter fun w => decide (w.1 = ((k : Int), x))).map (·.2)).getLast?
  iw : ∀ w ∈ W, inW w
  im : ∀ w ∈ m, inW w
theorem sz_eP {p : Int × Int} (h1 : inCe p.1) (h2 : inVa p.2) : Sz true (eP p) 1 92 :=
  (Sz.tup (SzA.cons (Sz.int (n := 24) (by have := h1.1; have := h1.2; omega) (by decide)) (SzA.cons (Sz.int (n := 64) (by have := h2.1; have := h2.2; omega) (by decide)) SzA.nil (Z := 0) (W' := 0)))).le (by decide) (by decide)
theorem sz_eW {w : Wt} (h : inW w) : Sz true (eW w) 2 100 :=
  (Sz.tup (SzA.cons (Sz.tup (SzA.cons (Sz.int (n := 2) (by have := h.1.1; have := h.1.2; omega) (by decide)) (SzA.cons (Sz.int (n := 24) (by have := h.2.1.1; have := h.2.1.2; omega) (by decide)) SzA.nil (Z := 0) (W' := 0)))) (SzA.cons (Sz.int (n := 64) (by have := h.2.2.1; have := h.2.2.2; omega) (by decide)) SzA.nil (Z := 1) (W' := 0)))).le (by decide) (by decide)
theorem sz_kept {m : List Wt} {n : Nat} (h : ∀ w ∈ m, inW w) (hn : m.length ≤ n) (t : Int) : Sz true (.tup (keptD (trk m t))) 2 (n * 93) := by
  have key : ∀ x ∈ keptD (trk m t), Sz true x 1 92 := fun x hx => by
    obtain ⟨p, hp, rfl⟩ := List.mem_map.mp (List.mem_mergeSort.mp hx)
    obtain ⟨w, hw, rfl⟩ := List.mem_map.mp (List.mem_filter.mp hp).1
    have := h w (List.mem_filter.mp hw).1
    exact sz_eP this.2.1 this.2.2
  have z := Sz.tup (pyA_map (f := fun x : D => x) key)
  rw [List.map_id'] at z
  refine z.le (by decide) ?_
  have : (keptD (trk m t)).length ≤ n := by
    unfold keptD
    rw [List.length_mergeSort, List.length_map]
    refine Nat.le_trans (List.length_filter_le ..) ?_
    unfold trk
    rw [List.length_map]
    exact Nat.le_trans (List.length_filter_le ..) hn
  exact Nat.mul_le_mul_right _ this
section
variable {P : Program} {w : World} {K : PySem.W.Frag} {mg : Str → Option Value} {base : Heap} {fs : Nat → Addr} {fd : Nat → FuncData} {tk : Nat → Tok} {cp : Cb}
theorem ok_Lrig (T : Txt K mg fs fd tk cp.c) : FnG P w K mg base CX0 1 (fs 19) (fd 19) P_Lrig (spRack K) := by
  refine Fun.okG T.f_Lrig sc_Lrig (fun vs H Q E h => ?_) (fun cd A out s H vs Q E gd hr h => ?_)
  · obtain ⟨a, ns, rfl, _⟩ := h
    rfl
  · obtain ⟨a, ns, rfl, hS, hl, k⟩ := h
    refine ⟨_, PSs.nox ((pss_one (ps_ret (pe_lst (pa_cons (pe_lc (own := [("cell", 1)]) (g := gName 1) (tt := tYes) rfl sc_Lrig.nd (pi_list (pe_slice sl_list (pv 0) po_none (po_some (pe_int)))) (blkOk_by (own := [("cell", 1)]) (N := N_Lrig) (sc := defScope s_Lrig) (by decide +kernel)) (fun _ _ _ _ _ => (pg_name (i := 1) sc_Lrig.nd rfl (Or.inl rfl))) (fun _ _ _ _ _ => pts_nil) (fun _ _ _ _ _ => pe_callTy call_int1 (by rfl) T.z_int (by decide +kernel) (pa_cons (pv 1) pa_nil))) (pa_cons (pe_int) (pa_cons (pe_int) pa_nil))))))), ?_⟩
    refine ⟨_, rfl, _, rfl, a, _, rfl, hS, fun q hq => ?_⟩
    obtain ⟨ms, em, lm, _⟩ := cut_ints ns none (some 60)
    have e0 : Ex H (L2.upd H q (.lst (cutV (ns.map V.int) none (some 60)))) := Ex.nw hq
    have gq : (L2.upd H q (.lst (cutV (ns.map V.int) none (some 60)))) q = some (.lst (ms.map V.int)) := by rw [em]; exact upd_same
    generalize L2.upd H q (.lst (cutV (ns.map V.int) none (some 60))) = G at e0 gq
    refine ⟨q, rfl, ⟨_, SqL.of gq⟩, fun D hD => ?_⟩
    refine lc_list (K := K) (a := q) (xs := ms.map V.int) (fun i H' => H' D = some (.lst ((ms.take i).map V.int)) ∧ Ex G H') ⟨upd_same, Ex.nw hD⟩ (fun i H' _ p => SqL.of (p.2 _ _ gq)) ?_ ?_
    · rintro i x H' hx ⟨p1, p2⟩
      obtain ⟨z, hz, rfl⟩ := map_get hx
      have hi := lt_of_get hz
      refine ⟨rfl, ?_⟩
      refine ⟨_, rfl, .inl ⟨z, rfl, _, p1, ?_, ?_, p2.up hD⟩⟩
      · rw [List.length_map, List.length_take]; exact sz_ok (by omega)
      · rw [take_step hz, List.map_append]; exact upd_same
    · rintro H' ⟨p1, p2⟩
      rw [List.length_map, List.take_length] at p1
      refine ⟨(show 3 ≤ sizeLine by decide), fun p hp => ?_⟩
      have e3 : Ex H' (L2.upd H' p (.lst [.ref D, .int 0, .int 0])) := Ex.nw hp
      exact k p D _ ((e0.tr p2).no hp) ⟨⟨ms, 0, 0, upd_same, e3 _ _ p1, ne_of_none p1 hp, by omega, by decide, by decide, by decide⟩⟩ ((e0.tr p2).tr e3)
def cIs : Ct := fun ss Φ => ∃ (d : Dsk) (m W : List Wt) (n : Nat), ss = [.dp true d.t, .ow true (lies m), .sh (.lst (W.map eW))] ∧ Rel d m W n ∧ n ≤ 140 ∧ ∀ s1, Φ (.d (.bl true)) (.dp true d.t :: .ow true (lies m) :: s1)
theorem ok_Lis (T : Txt K mg fs fd tk cp.c) : FnG P w K mg base CX0 5 (fs 26) (fd 26) P_Lis (spC K cp 3 cIs) := by
  refine okD (nos := [.no]) T.f_Lis sc_Lis rfl fun cd A out s H E gd hr ss Φ hc hl => ⟨_, PSs.nox ((pss_cons (ps_set (i := 3) sc_Lis.nd rfl (by first | exact Or.inl rfl | exact Or.inr rfl) (pe_lst (pa_cons (pg_meth (pv 0) T.c_Disk T.mt_Disk_kept (ok_Disk_kept T) gd (hr.mono (by decide)) (b_Disk_kept T) .nil pass0 (pa_cons (pe_int) pa_nil)) (pa_cons (pg_meth (pv 0) T.c_Disk T.mt_Disk_kept (ok_Disk_kept T) gd (hr.mono (by decide)) (b_Disk_kept T) .nil pass0 (pa_cons (pe_int) pa_nil)) (pa_cons (pg_methK0 (pv 0) T.c_Disk T.mt_Disk_kept (ok_Disk_kept T) gd (hr.mono (by decide)) (kw_Disk_kept_1_track T) pass0 (pk_cons (pe_int) pk_nil)) (pa_cons (pg_meth0 (pv 0) T.c_Disk T.mt_Disk_waiting (ok_Disk_waiting T) gd (hr.mono (by decide)) (b_Disk_waiting T) .nil pass0) pa_nil))))))
      (pss_one (ps_ret (pe_cmpR op_eq (pe_callB (call_reprX gd hr) (by rfl) T.z_repr (by decide +kernel) (pa_cons (pv 3) pa_nil)) (pe_callB (call_reprX gd hr) (by rfl) T.z_repr (by decide +kernel) (pa_cons (pe_lst (pa_cons (pg_call (ok_Lkept T) gd (hr.mono (by decide)) (by rfl) T.m_Lkept T.f_Lkept.kp (b_Lkept T) .nil pass0 (pa_cons (pv 1) (pa_cons (pe_int) pa_nil))) (pa_cons (pg_call (ok_Lkept T) gd (hr.mono (by decide)) (by rfl) T.m_Lkept T.f_Lkept.kp (b_Lkept T) .nil pass0 (pa_cons (pv 1) (pa_cons (pe_int) pa_nil))) (pa_cons (pg_call (ok_Lkept T) gd (hr.mono (by decide)) (by rfl) T.m_Lkept T.f_Lkept.kp (b_Lkept T) .nil pass0 (pa_cons (pv 1) (pa_cons (pe_int) pa_nil))) (pa_cons (pe_callTy call_tuple_of (by rfl) T.z_tuple (by decide +kernel) (pa_cons (pv 2) pa_nil)) pa_nil))))) pa_nil)) (nomark _)))))), ?_⟩
  obtain ⟨d, m, W, n, rfl, R, hn, k⟩ := hc
  have hcs : ∀ k : Nat, k < 3 → d.cs[k]?.elim ([] : KV) (·.2) = trk m k := fun k hk => by obtain ⟨q, h1, h2⟩ := R.c k hk; rw [h1]; exact h2
  have hW : W.length ≤ n := by rw [← R.w]; exact R.ok.w
  walk_at "n"
  refine DS.seq ?_
  refine DS.asg ?_
  refine DE.lst ?_
  have e0 : keptD (d.cs[(0 : Int).toNat]?.elim [] (·.2)) = keptD (trk m 0) := congrArg keptD (hcs 0 (by decide))
  have e1 : keptD (d.cs[(1 : Int).toNat]?.elim [] (·.2)) = keptD (trk m 1) := congrArg keptD (hcs 1 (by decide))
  have e2 : keptD (d.cs[(2 : Int).toNat]?.elim [] (·.2)) = keptD (trk m 2) := congrArg keptD (hcs 2 (by decide))
  refine DAo.cons (DE.meth ⟨true, d.x, 0, ["cells", "strokes", "latest", "left"], _, rfl, rfl, by decide, ?_⟩)
  walk_at "go"
  refine ⟨d, n, 0, rfl, ⟨by decide, by decide⟩, R.ok, by omega, fun s1 => ?_⟩
  rw [e0]
  walk_at "n"
  refine DAo.cons (DE.meth ⟨true, d.x, 0, ["cells", "strokes", "latest", "left"], _, rfl, rfl, by decide, ?_⟩)
  walk_at "go"
  refine ⟨d, n, 1, rfl, ⟨by decide, by decide⟩, R.ok, by omega, fun s1 => ?_⟩
  rw [e1]
  walk_at "n"
  refine DAo.cons (DE.methWC ⟨true, d.x, 0, ["cells", "strokes", "latest", "left"], _, rfl, rfl, by decide, ?_⟩)
  walk_at "go"
  refine ⟨?_, ?_⟩
  · intro P vs zs h1 h2
    cases h1 with | cons a1 h1 => (cases h1; cases h2 with | cons b1 h2 => (cases h2; exact .cons a1 (.cons b1 .nil)))
  refine ⟨_, rfl, rfl, by decide, ?_⟩
  refine ⟨d, n, 2, rfl, ⟨by decide, by decide⟩, R.ok, by omega, fun s1 => ?_⟩
  rw [e2]
  dsimp only [g_kw_Disk_kept_1_track]
  walk_at "n"
  refine DAo.cons (DE.meth ⟨true, d.x, 0, ["cells", "strokes", "latest", "left"], _, rfl, rfl, by decide, ?_⟩)
  walk_at "go"
  refine ⟨by rw [R.w]; omega, fun s1 => ?_⟩
  rw [R.w]
  walk_at "go"
  have sk := fun t => sz_kept R.im (Nat.le_trans R.lok.len hn) t
  have sw : Sz true (.tup (W.map eW)) 3 (W.length * 101) := Sz.tup (pyA_map fun w hw => sz_eW (R.iw w hw))
  have szT : Sz true (.lst [.tup (keptD (trk m 0)), .tup (keptD (trk m 1)), .tup (keptD (trk m 2)), .tup (W.map eW)]) 5 (140 * 93 + 1 + (140 * 93 + 1 + (140 * 93 + 1 + (140 * 101 + 1 + 0)))) :=
    (Sz.lst (SzA.cons ((sk 0).le (by decide) (Nat.le_refl _)) (SzA.cons ((sk 1).le (by decide) (Nat.le_refl _)) (SzA.cons ((sk 2).le (by decide) (Nat.le_refl _)) (SzA.cons (sw.le (by decide) (Nat.mul_le_mul_right _ (Nat.le_trans hW hn))) (SzA.nil (Z := 3) (W := 0))))))).le (by decide) (Nat.le_refl _)
  obtain ⟨z, hz⟩ : ∃ z, (pyD (.lst [.tup (keptD (trk m 0)), .tup (keptD (trk m 1)), .tup (keptD (trk m 2)), .tup (W.map eW)])).shown = z := ⟨_, rfl⟩
  refine rl_repr szT (by decide) (by decide) ?_
  rw [hz]
  walk_at "go"
  refine ⟨true, m, n, 0, rfl, R.lok, by omega, fun s1 => ?_⟩
  walk_at "go"
  refine ⟨true, m, n, 1, rfl, R.lok, by omega, fun s1 => ?_⟩
  walk_at "go"
  refine ⟨true, m, n, 2, rfl, R.lok, by omega, fun s1 => ?_⟩
  walk_at "go"
  refine rl_repr szT (by decide) (by decide) ?_
  rw [hz]
  walk_at "go"
  rw [decide_eq_true (rfl : V.str z = V.str z)]
  exact k _
end
end
end Mine
section
set_option Elab.async false
set_option linter.all false
set_option maxRecDepth 100000
set_option maxHeartbeats 400000
namespace Mine
open PySem PySem.Spec PyProof.Rows L2 GL DD
/-- .. with what has landed and what waits counted apart -/
structure RelB (d : Dsk) (m W : List Wt) (a b : Nat) : Prop where
  c3 : Ok3 d.cs a
  l3 : Ok3 d.ls b
  wl : W.length ≤ b
  lok : LOk m a
  w : d.W = W
  c : ∀ k : Nat, k < 3 → ∃ q, d.cs[k]? = some q ∧ q.2 = trk m k
  l : ∀ k : Nat, k < 3 → ∃ q, d.ls[k]? = some q ∧ ∀ x : Int, lookA q.2 x = ((W.filter fun w => decide (w.1 = ((k : Int), x))).map (·.2)).getLast?
  iw : ∀ w ∈ W, inW w
  im : ∀ w ∈ m, inW w
theorem Ok3.le {cs : List (Addr × KV)} {a n : Nat} (h : Ok3 cs a) (hn : a ≤ n) : Ok3 cs n := ⟨h.1, fun q hq => ⟨(h.2 q hq).1, Nat.le_trans (h.2 q hq).2 hn⟩⟩
theorem RelB.rel {d : Dsk} {m W : List Wt} {a b n : Nat} (h : RelB d m W a b) (hn : a + b ≤ n) : Rel d m W n where
  ok := ⟨h.c3.le (by omega), h.l3.le (by omega), by rw [h.w]; have := h.wl; omega⟩
  lok := ⟨h.lok.nd, Nat.le_trans h.lok.len (by omega)⟩
  w := h.w
  c := h.c
  l := h.l
  iw := h.iw
  im := h.im
theorem upP_at : ∀ {cs : List (Addr × KV)} {j k : Nat} {a v : Int}, (upP cs j a v)[k]? = if j = k then (cs[k]?).map (fun q => (q.1, putA q.2 a v)) else cs[k]?
  | [], j, k, a, v => by by_cases h : j = k <;> simp [upP, h]
  | p :: cs, 0, 0, a, v => by simp [upP]
  | p :: cs, 0, k + 1, a, v => by simp [upP]
  | p :: cs, j + 1, 0, a, v => by simp [upP]
  | p :: cs, j + 1, k + 1, a, v => by
    simp only [upP, List.getElem?_cons_succ]
    rw [upP_at (cs := cs)]
    by_cases h : j = k
    · rw [if_pos h, if_pos (by rw [h])]
    · rw [if_neg h, if_neg fun z => h (Nat.succ.inj z)]
theorem putL_in {m : List Wt} {x : Wt} (h : ∀ w ∈ m, inW w) (hx : inW x) : ∀ w ∈ putL m x, inW w := by
  induction m with
  | nil => intro w hw; rw [List.mem_singleton.mp hw]; exact hx
  | cons y m ih =>
    intro w hw
    simp only [putL] at hw
    split at hw
    · rcases List.mem_cons.mp hw with rfl | hw
      · exact hx
      · exact h w (List.mem_cons_of_mem _ hw)
    · rcases List.mem_cons.mp hw with rfl | hw
      · exact h w List.mem_cons_self
      · exact ih (fun w hw => h w (List.mem_cons_of_mem _ hw)) w hw
theorem RelB.stroke {d : Dsk} {m W : List Wt} {a b : Nat} (h : RelB d m W a b) {x : Wt} (hx : inW x) : RelB (d.stroke x) m (W ++ [x]) a (b + 1) where
  c3 := h.c3
  l3 := h.l3.up
  wl := by have := h.wl; simp only [List.length_append, List.length_cons, List.length_nil]; omega
  lok := h.lok
  w := by show d.W ++ [x] = _; rw [h.w]
  c := h.c
  l := fun k hk => by
    obtain ⟨q, h1, h2⟩ := h.l k hk
    show ∃ q, (upP d.ls x.1.1.toNat x.1.2 x.2)[k]? = some q ∧ _
    rw [upP_at, h1]
    have e0 := hx.1.1
    by_cases hj : x.1.1.toNat = k
    · rw [if_pos hj]
      refine ⟨_, rfl, fun y => ?_⟩
      have hk2 : x.1.1 = (k : Int) := by omega
      show lookA (putA q.2 x.1.2 x.2) y = _
      rw [look_put, List.filter_append, List.map_append]
      by_cases hy : y = x.1.2
      · rw [if_pos hy]
        have : x.1 = ((k : Int), y) := Prod.ext hk2 hy.symm
        simp [this]
      · rw [if_neg hy, h2 y]
        have : ¬ x.1 = ((k : Int), y) := fun z => hy (by rw [z])
        simp [this]
    · rw [if_neg hj]
      refine ⟨q, rfl, fun y => ?_⟩
      have : ¬ x.1 = ((k : Int), y) := fun z => hj (by rw [z]; simp)
      rw [h2 y, List.filter_append, List.map_append]
      simp [this]
  iw := fun w hw => (List.mem_append.mp hw).elim (h.iw w) fun z => by rw [List.mem_singleton.mp z]; exact hx
  im := h.im
theorem RelB.strokes {m : List Wt} {a : Nat} : ∀ {ws : List Wt} {d : Dsk} {W : List Wt} {b : Nat}, RelB d m W a b → (∀ w ∈ ws, inW w) → RelB (ws.foldl Dsk.stroke d) m (W ++ ws) a (b + ws.length)
  | [], d, W, b, h, _ => by rw [List.append_nil]; exact h
  | x :: ws, d, W, b, h, hw => by
    have := RelB.strokes (ws := ws) (h.stroke (hw x List.mem_cons_self)) fun w hm => hw w (List.mem_cons_of_mem _ hm)
    rw [List.append_assoc] at this
    rw [show b + (x :: ws).length = b + 1 + ws.length by simp only [List.length_cons]; omega]
    exact this
/-- what lands, on both disks -/
theorem lands_c : ∀ {ws : List Wt} {d : Dsk} {m : List Wt} {a : Nat}, Ok3 d.cs a → LOk m a → (∀ k : Nat, k < 3 → ∃ q, d.cs[k]? = some q ∧ q.2 = trk m k) → (∀ w ∈ m, inW w) → (∀ w ∈ ws, inW w) →
    Ok3 (ws.foldl Dsk.land d).cs (a + ws.length) ∧ LOk (landL m ws) (a + ws.length) ∧ (∀ k : Nat, k < 3 → ∃ q, (ws.foldl Dsk.land d).cs[k]? = some q ∧ q.2 = trk (landL m ws) k) ∧ ∀ w ∈ landL m ws, inW w
  | [], d, m, a, h1, h2, h3, h4, _ => ⟨h1, h2, h3, h4⟩
  | x :: ws, d, m, a, h1, h2, h3, h4, hw => by
    have hx := hw x List.mem_cons_self
    have e0 := hx.1.1
    have := lands_c (ws := ws) (d := d.land x) (m := putL m x) (a := a + 1) h1.up ⟨putL_nd h2.nd, by have := putL_len (m := m) (x := x); have := h2.len; omega⟩ (fun k hk => by
      obtain ⟨q, g1, g2⟩ := h3 k hk
      show ∃ q, (upP d.cs x.1.1.toNat x.1.2 x.2)[k]? = some q ∧ _
      rw [upP_at, g1, trk_put]
      by_cases hj : x.1.1.toNat = k
      · rw [if_pos hj, if_pos (by omega)]
        exact ⟨_, rfl, by rw [← g2]⟩
      · rw [if_neg hj, if_neg (by omega)]
        exact ⟨q, rfl, g2⟩) (putL_in h4 hx) fun w hm => hw w (List.mem_cons_of_mem _ hm)
    rw [show a + (x :: ws).length = a + 1 + ws.length by simp only [List.length_cons]; omega]
    exact this
theorem RelB.landed {d d' : Dsk} {m W ws : List Wt} {a b : Nat} (h : RelB d m W a b) (hs : ∀ w ∈ ws, inW w) (hl : ws.length ≤ b) (h1 : d'.cs = (ws.foldl Dsk.land d).cs) (h2 : d'.ls.map (·.2) = [[], [], []]) (h3 : d'.W = []) : RelB d' (landL m ws) [] (a + b) 0 := by
  obtain ⟨g1, g2, g3, g4⟩ := lands_c h.c3 h.lok h.c h.im hs
  have l3 : d'.ls.length = 3 := by have := congrArg List.length h2; simpa using this
  have lq : ∀ q ∈ d'.ls, q.2 = [] := fun q hq => by
    have : q.2 ∈ d'.ls.map (·.2) := List.mem_map.mpr ⟨q, hq, rfl⟩
    rw [h2] at this
    simpa using this
  refine ⟨by rw [h1]; exact g1.le (by omega), ⟨l3, fun q hq => by rw [lq q hq]; simp⟩, Nat.zero_le _, ⟨g2.nd, Nat.le_trans g2.len (by omega)⟩, h3, fun k hk => by rw [h1]; exact g3 k hk, fun k hk => ?_, fun w hw => (by cases hw), g4⟩
  have hk2 : k < d'.ls.length := by omega
  exact ⟨d'.ls[k], List.getElem?_eq_getElem hk2, fun x => by rw [lq _ (List.getElem_mem hk2)]; rfl⟩
theorem RelB.new {d : Dsk} (h : d.New) : RelB d [] [] 0 0 := by
  obtain ⟨h1, h2, h3⟩ := h
  have key : ∀ {cs : List (Addr × KV)}, cs.map (·.2) = [[], [], []] → cs.length = 3 ∧ ∀ q ∈ cs, q.2 = [] := fun {cs} e => by
    refine ⟨by have := congrArg List.length e; simpa using this, fun q hq => ?_⟩
    have : q.2 ∈ cs.map (·.2) := List.mem_map.mpr ⟨q, hq, rfl⟩
    rw [e] at this
    simpa using this
  obtain ⟨c1, c2⟩ := key h1
  obtain ⟨l1, l2⟩ := key h2
  refine ⟨⟨c1, fun q hq => by rw [c2 q hq]; simp⟩, ⟨l1, fun q hq => by rw [l2 q hq]; simp⟩, Nat.le_refl _, ⟨List.nodup_nil, Nat.le_refl _⟩, h3, fun k hk => ?_, fun k hk => ?_, fun w hw => (by cases hw), fun w hw => (by cases hw)⟩
  · have hk2 : k < d.cs.length := by omega
    exact ⟨d.cs[k], List.getElem?_eq_getElem hk2, by rw [c2 _ (List.getElem_mem hk2)]; rfl⟩
  · have hk2 : k < d.ls.length := by omega
    exact ⟨d.ls[k], List.getElem?_eq_getElem hk2, fun x => by rw [l2 _ (List.getElem_mem hk2)]; rfl⟩
theorem wr_in {t : Int} : ∀ {a : Int} {vs : List Int}, inTr t → 0 ≤ a → a + (vs.length : Int) ≤ 10000001 → (∀ v ∈ vs, inVa v) → ∀ w ∈ wr t a vs, inW w
  | a, [], _, _, _, _, w, hw => by cases hw
  | a, v :: vs, ht, h0, h1, hv, w, hw => by
    simp only [List.length_cons] at h1
    rcases List.mem_cons.mp hw with rfl | hw
    · exact ⟨ht, ⟨h0, by show a ≤ 10000000; omega⟩, hv v List.mem_cons_self⟩
    · exact wr_in ht (by omega) (by omega) (fun x hx => hv x (List.mem_cons_of_mem _ hx)) w hw
/-- what is read, on both -/
theorem read_same {d : Dsk} {m W : List Wt} {a b : Nat} (h : RelB d m W a b) {t : Int} (ht : inTr t) (x : Int) (i : Nat) :
    ((lookA (d.ls[t.toNat]?.elim [] (·.2)) (x + (i : Int))).getD ((lookA (d.cs[t.toNat]?.elim [] (·.2)) (x + (i : Int))).getD 0)) = readL m W t x i := by
  obtain ⟨k, rfl⟩ := Int.eq_ofNat_of_zero_le ht.1
  have hk : k < 3 := by have := ht.2; omega
  obtain ⟨q, h1, h2⟩ := h.c k hk
  obtain ⟨p, h3, h4⟩ := h.l k hk
  rw [Int.toNat_natCast, h1, h3]
  show (lookA p.2 _).getD ((lookA q.2 _).getD 0) = _
  rw [h4, h2, look_trk]
  rfl
end Mine

end
namespace Mine
open PySem PySem.Spec PyProof.Rows L2 GL DD
set_option hygiene false in
local macro_rules | `(tactic| walk_at "rz") => `(tactic| ((with_reducible refine' DS.raise1 rfl rfl ?rzcl ?_); (case rzcl => fail)))
local macro_rules | `(tactic| walk_at "n") => `(tactic| (try dsimp only [sh_d, sh_n, upds, slots, List.length_cons, List.length_nil, of_d, of_n, of_o, at_d, cxOf, Cx.nox, Cx.wish, List.cons_append, List.nil_append, List.map_cons, List.map_nil, Int.reduceToNat, List.set, List.getElem?_cons_zero, List.getElem?_cons_succ, List.set_cons_zero, List.set_cons_succ]))
local macro_rules | `(tactic| walk_at "1DE") => `(tactic| first
  | (with_reducible refine' DE.and ?_)
  | (with_reducible refine' DE.or ?_)
  | (with_reducible refine' DE.not ?_)
  | (with_reducible refine' DE.ite ?_)
  | ((with_reducible refine' DE.var ?h ?q); (case h => rfl))
  | ((with_reducible refine' DE.own ?h ?q); (case h => rfl))
  | ((with_reducible refine' DE.c ?h ?q); (case h => constructor))
  | ((with_reducible refine' DE.isX ?c ?q); (case c => decide))
  | ((with_reducible refine' DE.isX2 ?c ?c2 ?q); (case c => decide); (case c2 => decide))
  | ((with_reducible refine' DE.isO ?h ?q); (case h => assumption))
  | (with_reducible refine' DE.strO ?_)
  | (with_reducible refine' DE.join ?_)
  | (with_reducible refine' DE.joined ?_)
  | (with_reducible refine' DE.tupOf ?_)
  | (with_reducible refine' DE.cb ?_)
  | (with_reducible refine' DE.call ?_)
  | ((with_reducible refine' DE.callY ?hE ?_); (case hE => rfl))
  | ((with_reducible refine' DE.makeY ?hE ?_); (case hE => rfl))
  | (with_reducible refine' DE.make ?_)
  | (with_reducible refine' DE.fld ?_)
  | (with_reducible refine' DE.chain ?_)
  | (with_reducible refine' DE.neg ?_)
  | (with_reducible refine' DE.dnew ?_)
  | (with_reducible refine' DE.dget ?_)
  | (with_reducible refine' DE.get2 ?_)
  | (with_reducible refine' DE.din ?_)
  | ((with_reducible refine' DE.kwX ?hE ?_); (case hE => rfl))
  | (with_reducible refine' DE.kwC ?_)
  | (with_reducible refine' DE.opO ?_)
  | (with_reducible refine' DE.opT (r := rRepT _) ?_)
  | (with_reducible refine' DE.opT (r := rCatA _) ?_)
  | (with_reducible refine' DE.op ?_)
  | (with_reducible refine' DE.bits ?_)
  | (with_reducible refine' DE.tup ?_)
  | (with_reducible refine' DE.lst ?_)
  | (with_reducible refine' DE.opT ?_)
  | (with_reducible refine' DE.cbT ?_)
  | (with_reducible refine' DE.append ?_)
  | (with_reducible refine' DE.extend ?_)
  | (with_reducible refine' DE.slL ?_)
  | (with_reducible refine' DE.slT ?_))
local macro_rules | `(tactic| walk_at "1DS") => `(tactic| first
  | (with_reducible refine' DS.seq ?_)
  | (with_reducible refine' DS.next ?_)
  | ((with_reducible refine' DS.ret (DE.move ?h ?q)); (case h => rfl))
  | (with_reducible refine' DS.ret ?_)
  | (with_reducible refine' DS.ite ?_)
  | (with_reducible refine' DS.drop ?_)
  | walk_at "rz"
  | (with_reducible refine' DS.fldN ?_)
  | (with_reducible refine' DS.setL ?_)
  | (with_reducible refine' DS.dput ?_)
  | (with_reducible refine' DS.asg ?_)
  | (with_reducible refine' DS.aug ?_)
  | (with_reducible refine' DS.par ?_)
  | (with_reducible refine' DS.par3 ?_))
local macro_rules | `(tactic| walk_at "1ex") => `(tactic| first
  | (with_reducible assumption)
  | (refine ⟨_, rfl, rfl, List.nodup_nil, ?_⟩)
  | (refine ⟨_, rfl, rfl, (show List.Nodup _ by decide), ?_⟩)
  | (refine ⟨_, _, _, _, rfl, rfl, rfl, ?_⟩)
  | (refine ⟨_, rfl, ?_⟩)
  | (refine ⟨_, _, rfl, rfl, ?_⟩)
  | (refine ⟨_, _, _, rfl, rfl, ?_⟩)
  | (refine ⟨_, _, _, rfl, ?_⟩)
  | (refine ⟨_, _, rfl, ?_⟩)
  | (refine ⟨(show List.Nodup _ by decide), ?_⟩)
  | (refine ⟨⟨_, _, rfl⟩, ?_⟩)
  | (refine ⟨free_of rfl, ?_⟩)
  | (refine ⟨free_so rfl, ?_⟩)
  | (refine ⟨trivial, ?_⟩)
  | (refine ⟨rfl, ?_⟩)
  | (refine And.intro (by assumption) ?_)
  | (refine ⟨(show _ ≤ sizeLine by unfold sizeLine; first | decide | omega | (simp; done) | (simp; omega)), ?_⟩)
  | (refine ⟨(show _ < sizeLine by unfold sizeLine; first | omega | (simp; omega)), ?_⟩))
local macro_rules | `(tactic| walk_at "1DAo") => `(tactic| first
  | (with_reducible refine' DAo.nil ?_)
  | (with_reducible refine' DAo.cons ?_))
local macro_rules | `(tactic| walk_at "1DT") => `(tactic| first
  | (with_reducible refine' DT.val ?_)
  | (with_reducible refine' DT.test ?_)
  | (with_reducible refine' DT.not ?_)
  | (with_reducible refine' DT.and ?_)
  | (with_reducible refine' DT.or ?_)
  | (with_reducible refine' DT.yes ?_))
local macro_rules | `(tactic| walk_at "1If") => `(tactic| first
  | ((with_reducible refine' ifP ?h ?q); (case h => first | assumption | rfl | decide))
  | ((with_reducible refine' ifN ?h ?q); (case h => first | assumption | (intro z; cases z; done) | decide)))
local macro_rules | `(tactic| walk_at "1DGo") => `(tactic| first
  | ((with_reducible refine' DGo.name ?h ?q); (case h => first | exact free_of rfl | exact free_so rfl))
  | ((with_reducible refine' DGo.tup ?h ?h2 ?q); (case h => rfl); (case h2 => rfl)))
local macro_rules | `(tactic| walk_at "1DI") => `(tactic| first
  | ((with_reducible refine' DI.seqV ?h ?h2 ?q); (case h => rfl); (case h2 => first | assumption | rfl))
  | (with_reducible refine' DI.list ?_)
  | (with_reducible refine' DI.tup ?_)
  | (with_reducible refine' DI.zip ?_)
  | (with_reducible refine' DI.enum ?_)
  | (with_reducible refine' DI.rng2 ?_)
  | (with_reducible refine' DI.rng1 ?_)
  | (with_reducible refine' DI.enumT ?_))
local macro_rules | `(tactic| walk_at "1DG") => `(tactic| first
  | ((with_reducible refine' DG.name ?h ?q); (case h => first | exact free_of rfl | exact free_so rfl))
  | ((with_reducible refine' DG.tup ?h ?h2 ?q); (case h => rfl); (case h2 => rfl)))
local macro_rules | `(tactic| walk_at "1DGos") => `(tactic| first
  | (with_reducible refine' DGos.cons ?_)
  | (with_reducible refine' DGos.nil ?_))
local macro_rules | `(tactic| walk_at "1DGs") => `(tactic| first
  | (with_reducible refine' DGs.cons ?_)
  | (with_reducible refine' DGs.nil ?_))
local macro_rules | `(tactic| walk_at "1r2") => `(tactic| first
  | ((with_reducible refine' r2_int ?h ?q); (case h => constructor))
  | ((with_reducible refine' r2_isN ?h ?q); (case h => rfl))
  | ((with_reducible refine' r2_notN ?h ?q); (case h => rfl))
  | ((with_reducible refine' r2_eq ?h ?h2 ?h3 ?q); (case h => rfl); (case h2 => rfl); (case h3 => rfl))
  | ((with_reducible refine' r2_ne ?h ?h2 ?h3 ?q); (case h => rfl); (case h2 => rfl); (case h3 => rfl))
  | ((with_reducible refine' r2_fdiv ?h ?q); (case h => exact ⟨by first | omega | decide, by first | omega | decide⟩))
  | ((with_reducible refine' r2_fdivW ?h ?q); (case h => first | exact cdivW2 (by first | omega | decide) (by first | omega | decide)))
  | ((with_reducible refine' r2_mulW ?h ?q); (case h => exact cmulW 64 64 (by first | omega | decide) (by first | omega | decide) (by decide) (by decide) (by decide)))
  | ((with_reducible refine' r2_shl ?h ?q); (case h => exact cshl (by first | omega | decide) (by first | omega | decide) (by first | omega | decide)))
  | ((with_reducible refine' r2_ixTx ?h ?h2 ?q); (case h => rfl); (case h2 => first | rfl | assumption))
  | ((with_reducible refine' r2_ixLx ?h ?h2 ?q); (case h => rfl); (case h2 => first | rfl | assumption))
  | ((with_reducible refine' r2_catTx ?h ?h2 ?h3 ?q); (case h => rfl); (case h2 => rfl); (case h3 => unfold sizeLine; first | omega | (simp; done) | (simp; omega)))
  | ((with_reducible refine' r2_cat ?h ?q); (case h => unfold sizeLine; first | omega | (simp; done) | (simp; omega)))
  | ((with_reducible refine' r2_ix ?h ?h2 ?q); (case h => first | rfl | assumption); (case h2 => first | rfl | assumption))
  | (with_reducible refine' r2_isBl ?_)
  | (with_reducible refine' r2_neInts ?_)
  | ((with_reducible refine' r2_mul ?h ?q); (case h => first | exact .inl ⟨by first | decide | omega, by first | decide | omega⟩ | exact .inr ⟨by first | decide | omega, by first | decide | omega⟩))
  | ((with_reducible refine' r2_mod ?h ?q); (case h => first | assumption | decide | omega))
  | ((with_reducible refine' r2_pow ?h ?q); (case h => exact ⟨by first | decide | omega, by first | decide | omega, by first | assumption | decide | omega⟩)))
local macro_rules | `(tactic| walk_at "1rl") => `(tactic| first
  | ((with_reducible refine' rl_lenV ?h ?q); (case h => rfl))
  | ((with_reducible refine' rl_len ?h ?q); (case h => rfl))
  | ((with_reducible refine' rl_int ?h ?q); (case h => rfl))
  | (with_reducible refine' rl_abs ?_)
  | (with_reducible refine' rl_max2 ?_)
  | (with_reducible refine' rl_min2 ?_)
  | (with_reducible refine' rl_sumM ?_)
  | (with_reducible refine' rl_allM ?_)
  | (with_reducible refine' rl_anyM ?_)
  | (with_reducible refine' rl_sum ?_)
  | (with_reducible refine' rl_all ?_)
  | (with_reducible refine' rl_any ?_))
local macro_rules | `(tactic| walk_at "1z") => `(tactic| first
  | (with_reducible refine' DJ.nil ?_)
  | (with_reducible refine' DJ.cons ?_)
  | (with_reducible refine' DO.nil ?_)
  | (with_reducible refine' DO.one ?_)
  | (with_reducible assumption)
  | (with_reducible intro (_ : List SV))
  | (refine ⟨_, rfl, rfl, List.nodup_nil, ?_⟩)
  | (refine ⟨_, rfl, rfl, (show List.Nodup _ by decide), ?_⟩)
  | (refine ⟨_, _, _, _, rfl, rfl, rfl, ?_⟩)
  | (refine ⟨_, rfl, ?_⟩)
  | (refine ⟨_, _, rfl, rfl, ?_⟩)
  | (refine ⟨_, _, _, rfl, rfl, ?_⟩)
  | (refine ⟨_, _, _, rfl, ?_⟩)
  | (refine ⟨_, _, rfl, ?_⟩)
  | (refine ⟨(show List.Nodup _ by decide), ?_⟩)
  | (refine ⟨⟨_, _, rfl⟩, ?_⟩)
  | (refine ⟨free_of rfl, ?_⟩)
  | (refine ⟨free_so rfl, ?_⟩)
  | (refine ⟨trivial, ?_⟩)
  | (refine ⟨rfl, ?_⟩)
  | (refine And.intro (by assumption) ?_)
  | (refine ⟨(show _ ≤ sizeLine by unfold sizeLine; first | decide | omega | (simp; done) | (simp; omega)), ?_⟩)
  | (refine ⟨(show _ < sizeLine by unfold sizeLine; first | omega | (simp; omega)), ?_⟩))
local macro_rules | `(tactic| walk_at "1") => `(tactic| first
  | ((with_reducible refine' gDE ?_); walk_at "1DE")
  | ((with_reducible refine' gDS ?_); walk_at "1DS")
  | ((with_reducible refine' gEx ?_); walk_at "1ex")
  | ((with_reducible refine' gAnd ?_); walk_at "1ex")
  | ((with_reducible refine' gDAo ?_); walk_at "1DAo")
  | ((with_reducible refine' gDT ?_); walk_at "1DT")
  | ((with_reducible refine' gIf ?_); walk_at "1If")
  | ((with_reducible refine' gDGo ?_); walk_at "1DGo")
  | ((with_reducible refine' gDI ?_); walk_at "1DI")
  | ((with_reducible refine' gDG ?_); walk_at "1DG")
  | ((with_reducible refine' gDGos ?_); walk_at "1DGos")
  | ((with_reducible refine' gDGs ?_); walk_at "1DGs")
  | ((first | (with_reducible refine' gR2d ?_) | (with_reducible refine' gR2t ?_)); walk_at "1r2")
  | ((with_reducible refine' gRLd ?_); walk_at "1rl")
  | walk_at "1z")
local macro_rules | `(tactic| walk_at "go") => `(tactic| (walk_at "n"; repeat (walk_at "1"; walk_at "n")))
local macro_rules | `(tactic| walk_at "goi") => `(tactic| (walk_at "go"; (try split); all_goals walk_at "go"))
local macro_rules | `(tactic| walk_at "own") => `(tactic| (refine' DS.seq (DS.own ?_); walk_at "go"))
local macro_rules | `(tactic| walk_at "gof") => `(tactic| (walk_at "n"; repeat (first | ((with_reducible refine' DE.frz ?h ?q); (case h => rfl)) | walk_at "1"); walk_at "n"))
local macro_rules | `(tactic| walk_at "pg1") => `(tactic| (intro P vs zs h1 h2; cases h1; cases h2 with | cons b1 h2 => cases h2; exact .cons b1 .nil))
local macro_rules | `(tactic| walk_at "pg2") => `(tactic| (intro P vs zs h1 h2; cases h1; cases h2 with | cons b1 h2 => (cases h2 with | cons b2 h2 => (cases h2; first | exact .cons b1 (.cons b2 .nil) | exact .cons b2 (.cons b1 .nil)))))
local macro_rules | `(tactic| walk_at "pg3") => `(tactic| (intro P vs zs h1 h2; cases h1; cases h2 with | cons b1 h2 => (cases h2 with | cons b2 h2 => (cases h2 with | cons b3 h2 => (cases h2; first | exact .cons b1 (.cons b2 (.cons b3 .nil)) | exact .cons b1 (.cons b3 (.cons b2 .nil)) | exact .cons b2 (.cons b1 (.cons b3 .nil)) | exact .cons b2 (.cons b3 (.cons b1 .nil)) | exact .cons b3 (.cons b1 (.cons b2 .nil)) | exact .cons b3 (.cons b2 (.cons b1 .nil)))))))

section
set_option Elab.async false
set_option linter.all false
set_option maxRecDepth 100000
set_option maxHeartbeats 400000
open PySem PySem.Spec PyProof.Rows L2 GL DD


theorem wr_map {t : Int} : ∀ {vs : List Int} {a : Int}, ((List.range (vs.map D.int).length).map fun (i : Nat) => D.tup [.tup [.int t, .int (a + (i : Int))], (vs.map D.int).getD i .non]) = (wr t a vs).map eW
  | [], a => rfl
  | v :: vs, a => by
    have ih := wr_map (t := t) (vs := vs) (a := a + 1)
    simp only [List.map_cons, List.length_cons, wr, List.range_succ_eq_map, List.map_map] at ih ⊢
    rw [← ih]
    rw [List.cons.injEq]
    refine ⟨by simp [eW, eP], List.map_congr_left fun i _ => ?_⟩
    simp only [Function.comp, List.getD_cons_succ]
    rw [show a + ((i.succ : Nat) : Int) = a + 1 + (i : Int) by omega]
section
variable {P : Program} {w : World} {K : PySem.W.Frag} {mg : Str → Option Value} {base : Heap} {fs : Nat → Addr} {fd : Nat → FuncData} {tk : Nat → Tok} {cp : Cb}
def cDone : Ct := fun ss Φ => ∃ (c : D) (n : Nat) (d : Dsk) (m W : List Wt) (a b : Nat) (h : Int), ss = [.ow true c, .dp true d.t, .ow true (lies m), .sh (.lst (W.map eW)), .sh (.int h)] ∧ RkD c n ∧ n < 80000 ∧ RelB d m W a b ∧ a + b ≤ 132 ∧ inHome h ∧
  ∀ (c' : D) (d' : Dsk) (m' W' : List Wt) (a' b' : Nat) (s1 : List SV), RkD c' (n + 300) → RelB d' m' W' a' b' → a' + b' ≤ a + b + 6 → Φ (.d (.lst (W'.map eW))) (.ow true c' :: .dp true d'.t :: .ow true (lies m') :: s1)
theorem ok_Ldone (T : Txt K mg fs fd tk cp.c) : FnG P w K mg base CX0 6 (fs 29) (fd 29) P_Ldone (spC K cp 5 cDone) := by
  refine okD (nos := [.no, .no, .no, .no, .no, .no, .no, .no, .no]) T.f_Ldone sc_Ldone rfl fun cd A out s H E gd hr ss Φ hc hl => ⟨_, PSs.nox ((pss_cons (ps_par (i := 5) (j := 6) (by rfl) sc_Ldone.nd rfl rfl (by decide) rfl rfl (pa_cons (pg_call (ok_Lhaul T) gd (hr.mono (by decide)) (by rfl) T.m_Lhaul T.f_Lhaul.kp (b_Lhaul T) .nil pass0 (pa_cons (pv 0) (pa_cons (pe_int) pa_nil))) (pa_cons (pe_non) pa_nil)) (by rfl))
      (pss_cons (ps_if (pt_cmpR op_lt (pv 5) (pe_int) (nomark _))
        (pss_cons (ps_asg (pg_call (ok_Lplace T) gd (hr.mono (by decide)) (by rfl) T.m_Lplace T.f_Lplace.kp (b_Lplace T) .nil pass0 (pa_cons (pv 0) (pa_cons (pv 4) pa_nil))) (pg_tup rfl (pgs_cons (pg_name (i := 7) sc_Ldone.nd rfl (by first | exact Or.inl rfl | exact Or.inr rfl)) (pgs_cons (pg_name (i := 8) sc_Ldone.nd rfl (by first | exact Or.inl rfl | exact Or.inr rfl)) pgs_nil))))
        (pss_cons (ps_set (i := 9) sc_Ldone.nd rfl (by first | exact Or.inl rfl | exact Or.inr rfl) (pg_call (ok_Lvalues T) gd (hr.mono (by decide)) (by rfl) T.m_Lvalues T.f_Lvalues.kp (b_Lvalues T) .nil pass0 (pa_cons (pv 0) pa_nil)))
        (pss_cons (ps_set (i := 10) sc_Ldone.nd rfl (by first | exact Or.inl rfl | exact Or.inr rfl) (pe_callTy call_list_of (by rfl) T.z_list (by decide +kernel) (pa_cons (pv 9) pa_nil)))
        (pss_cons (ps_set (i := 6) sc_Ldone.nd rfl (by first | exact Or.inl rfl | exact Or.inr rfl) (pe_ifExp (pt_cmpR op_lt (pv 5) (pe_int) (nomark _)) (pg_meth (pv 1) T.c_Disk T.mt_Disk_write (ok_Disk_write T) gd (hr.mono (by decide)) (b_Disk_write T) .nil pass0 (pa_cons (pv 7) (pa_cons (pv 8) (pa_cons (pv 10) pa_nil)))) (pg_methK0 (pv 1) T.c_Disk T.mt_Disk_write (ok_Disk_write T) gd (hr.mono (by decide)) (kw_Disk_write_1_values_at_track T) pass0 (pk_cons (pe_callTy call_tuple_of (by rfl) T.z_tuple (by decide +kernel) (pa_cons (pv 9) pa_nil)) (pk_cons (pv 8) (pk_cons (pv 7) pk_nil))))))
        (pss_cons (ps_expr (pe_bm PySem.F.plainAttrs_list PySem.F.slot_list_append PySem.F.type_list_append mt_append (pv 10) (pa_cons (pe_int) pa_nil)))
        (pss_one (ps_set (i := 3) sc_Ldone.nd rfl (by first | exact Or.inl rfl | exact Or.inr rfl) (pe_op op_cat (pv 3) (pe_lc (own := [("number", 11), ("value", 12)]) (g := gTup K 2 (gCons (gName 11) (gCons (gName 12) gNil))) (tt := tYes) rfl sc_Ldone.nd (pi_enum (by rfl) T.z_enumerate (pa_cons (pv 9) pa_nil)) (blkOk_by (own := [("number", 11), ("value", 12)]) (N := N_Ldone) (sc := defScope s_Ldone) (by decide +kernel)) (fun _ _ _ _ _ => (pg_tup rfl (pgs_cons (pg_name (i := 11) sc_Ldone.nd rfl (Or.inl rfl)) (pgs_cons (pg_name (i := 12) sc_Ldone.nd rfl (Or.inl rfl)) pgs_nil)))) (fun _ _ _ _ _ => pts_nil) (fun _ _ _ _ _ => pe_tup (pa_cons (pe_tup (pa_cons (pv 7) (pa_cons (pe_op op_add (pv 8) (pv 11)) pa_nil))) (pa_cons (pv 12) pa_nil))))))))))))
        (pss_one (ps_if (pt_cmpR op_eq (pv 5) (pe_int) (nomark _))
          (pss_cons (ps_set (i := 6) sc_Ldone.nd rfl (by first | exact Or.inl rfl | exact Or.inr rfl) (pg_meth0 (pv 1) T.c_Disk T.mt_Disk_flush (ok_Disk_flush T) gd (hr.mono (by decide)) (b_Disk_flush T) .nil pass0))
          (pss_cons (ps_expr (pg_call (ok_Lland T) gd (hr.mono (by decide)) (by rfl) T.m_Lland T.f_Lland.kp (b_Lland T) .nil pass0 (pa_cons (pv 2) (pa_cons (pv 3) (pa_cons (pe_listRg rfl (by rfl) T.z_list (prg_1 (by rfl) T.z_range (pe_callB call_len_seq (by rfl) T.z_len (by decide +kernel) (pa_cons (pv 3) pa_nil)))) pa_nil)))))
          (pss_one (ps_set (i := 3) sc_Ldone.nd rfl (by first | exact Or.inl rfl | exact Or.inr rfl) (pe_lst pa_nil)))))
          (pss_cons (ps_set (i := 13) sc_Ldone.nd rfl (by first | exact Or.inl rfl | exact Or.inr rfl) (pg_call (ok_Llot T) gd (hr.mono (by decide)) (by rfl) T.m_Llot T.f_Llot.kp (b_Llot T) .nil pass0 (pa_cons (pv 0) (pa_cons (pe_callB call_len_seq (by rfl) T.z_len (by decide +kernel) (pa_cons (pv 3) pa_nil)) pa_nil))))
          (pss_cons (ps_set (i := 6) sc_Ldone.nd rfl (by first | exact Or.inl rfl | exact Or.inr rfl) (pe_ifExp (pt_cmpR op_eq (pg_call (ok_Lhaul T) gd (hr.mono (by decide)) (by rfl) T.m_Lhaul T.f_Lhaul.kp (b_Lhaul T) .nil pass0 (pa_cons (pv 0) (pa_cons (pe_int) pa_nil))) (pe_int) (nomark _)) (pg_meth (pv 1) T.c_Disk T.mt_Disk_cut (ok_Disk_cut T) gd (hr.mono (by decide)) (b_Disk_cut T) .nil pass0 (pa_cons (pe_callTy call_tuple_of (by rfl) T.z_tuple (by decide +kernel) (pa_cons (pv 13) pa_nil)) pa_nil)) (pg_methK0 (pv 1) T.c_Disk T.mt_Disk_cut (ok_Disk_cut T) gd (hr.mono (by decide)) (kw_Disk_cut_1_lands T) pass0 (pk_cons (pv 13) pk_nil))))
          (pss_cons (ps_expr (pg_call (ok_Lland T) gd (hr.mono (by decide)) (by rfl) T.m_Lland T.f_Lland.kp (b_Lland T) .nil pass0 (pa_cons (pv 2) (pa_cons (pv 3) (pa_cons (pv 13) pa_nil)))))
          (pss_one (ps_set (i := 3) sc_Ldone.nd rfl (by first | exact Or.inl rfl | exact Or.inr rfl) (pe_lst pa_nil)))))))))
      (pss_one (ps_ret (pe_ifExp (pt_cmpR op_isN (pv 6) (pe_non) (nomark _)) (pv 3) (pe_non))))))), ?_⟩
  obtain ⟨c, n, d, m, W, a, b, h, rfl, hk, hn, R, hab, hh, k⟩ := hc
  have hW := R.wl
  walk_at "go"
  refine ⟨c, 6, n, rfl, hk, by omega, by decide, by decide, fun way c1 s1 w0 w1 hk1 => ?_⟩
  walk_at "go"
  split
  · walk_at "n"
    refine DS.seqH fun tA eA => ?_
    walk_at "go"
    refine ⟨c1, h, n + 1, rfl, hh, hk1, by omega, fun t x c2 s2 ht hx hk2 => ?_⟩
    walk_at "go"
    subst eA
    refine DS.seqH fun tB eB => ?_
    walk_at "go"
    refine ⟨c2, n + 4, rfl, hk2, by omega, fun vs c3 s3 hv hvi hk3 => ?_⟩
    walk_at "go"
    subst eB
    refine DS.seqH fun tC eC => ?_
    refine DS.own ?_
    walk_at "go"
    refine rl_list rfl ?_
    walk_at "go"
    subst eC
    refine DS.seqH fun tE eE => ?_
    refine DS.asg ?_
    have hRd : Dsk.Ok d (a + b) := (R.rel (Nat.le_refl _)).ok
    walk_at "go"
    have hRs := R.strokes (ws := wr t x vs) (wr_in ht hx.1 (by have := hx.2; omega) hvi)
    rw [wr_len] at hRs
    have rest : ∀ d2 : Dsk, RelB d2 m (W ++ wr t x vs) a (b + vs.length) → DS K cp XC.q tE [.ow true c3, .dp true d2.t, .ow true (lies m), .sh (.lst (W.map eW)), .sh (.int h), .sh (.int way), .sh .non, .sh (.int t), .sh (.int x), .sh (.lst (vs.map D.int)), .ow false (.lst (vs.map D.int)), .no, .no, .no]
        (fun ρ1 => DS K cp XC.q (tRet (tIf (tTest (tOp (fun x y H Q => y = V.non ∧ Q (V.bl (decide (x = V.non))) H) (tVar 6) (tC V.non))) (tVar 3) (tC V.non))) ρ1 (Φ (.d .non)) Φ (fun _ => False) fun _ => False) Φ (fun _ => False) fun _ => False := by
      intro d2 hR2
      subst eE
      walk_at "go"
      refine' DE.lcM (List.range (vs.map D.int).length) (fun (i : Nat) => .tup [.int (i : Int), (vs.map D.int).getD i .non]) (fun (i : Nat) => D.tup [.tup [.int t, .int (x + (i : Int))], (vs.map D.int).getD i .non]) (by rw [List.length_range, List.length_map]; omega) ?i1 (nown_of rfl) ?i2 ?i3 ?i4
      case i1 => walk_at "go"; exact rfl
      case i2 =>
        intro i hi
        walk_at "go"
        exact nown_of rfl
      case i3 => rfl
      case i4 =>
        rw [wr_map]
        walk_at "go"
        refine r2_cat (by rw [List.length_map, List.length_map, wr_len]; unfold sizeLine; omega) ?_
        rw [← List.map_append]
        walk_at "go"
        exact k _ _ _ _ _ _ _ (hk3.more (by omega)) hR2 (by omega)
    split
    · refine DE.meth ⟨true, d.x, 0, ["cells", "strokes", "latest", "left"], _, rfl, rfl, by decide, ?_⟩
      walk_at "go"
      refine ⟨d, a + b, t, x, _, vs, rfl, .inl rfl, ht, hx, hv, hvi, hRd, by omega, fun s1 s2 s3 => ?_⟩
      generalize (wr t x vs).foldl Dsk.stroke d = d2 at hRs ⊢
      walk_at "go"
      exact rest _ hRs
    · refine DE.methWC ⟨true, d.x, 0, ["cells", "strokes", "latest", "left"], _, rfl, rfl, by decide, ?_⟩
      walk_at "go"
      refine ⟨?_, ?_⟩
      · intro P vs zs h1 h2
        cases h1 with | cons a1 h1 => (cases h1; cases h2 with | cons b1 h2 => (cases h2 with | cons b2 h2 => (cases h2 with | cons b3 h2 => (cases h2; exact .cons a1 (.cons b3 (.cons b2 (.cons b1 .nil)))))))
      refine ⟨_, rfl, rfl, (show List.Nodup [1] by decide), ?_⟩
      refine ⟨d, a + b, t, x, _, vs, rfl, .inr rfl, ht, hx, hv, hvi, hRd, by omega, fun s1 s2 s3 => ?_⟩
      generalize (wr t x vs).foldl Dsk.stroke d = d2 at hRs ⊢
      dsimp only [g_kw_Disk_write_1_values_at_track]
      walk_at "go"
      exact rest _ hRs
  · walk_at "go"
    have hRd : Dsk.Ok d (a + b) := (R.rel (Nat.le_refl _)).ok
    have htr : ∀ w ∈ d.W, inTr w.1.1 := fun w hw => (R.iw w (by rw [← R.w]; exact hw)).1
    split
    · walk_at "n"
      refine DS.seqH fun tA eA => ?_
      refine DS.asg ?_
      refine DE.meth ⟨true, d.x, 0, ["cells", "strokes", "latest", "left"], _, rfl, rfl, by decide, ?_⟩
      walk_at "go"
      refine ⟨d, a + b, rfl, hRd, by omega, htr, fun d' s1 g1 g2 g3 => ?_⟩
      walk_at "go"
      subst eA
      refine DS.seqH fun tB eB => ?_
      refine DS.drop (DE.call ?_)
      walk_at "go"
      refine DE.lstRg ?_
      walk_at "go"
      refine ⟨by rw [List.length_map]; omega, ?_⟩
      rw [List.length_map]
      rw [show ((List.range W.length).map fun (i : Nat) => D.int (i : Int)) = ((List.range W.length).map fun (i : Nat) => (i : Int)).map D.int by rw [List.map_map]; rfl]
      walk_at "go"
      refine ⟨true, m, a, W, _, rfl, R.lok, by omega, by rw [List.length_map, List.length_range]; omega, fun s2 => ?_⟩
      rw [filt_all (fun i i0 i1 => List.mem_map.mpr ⟨i.toNat, List.mem_range.mpr (by omega), by omega⟩)]
      walk_at "go"
      subst eB
      walk_at "go"
      have R2 := R.landed (d' := d') (ws := W) R.iw hW (by rw [← R.w]; exact g1) g2 g3
      exact k _ _ _ [] _ _ _ (hk1.more (by omega)) R2 (by omega)
    · walk_at "n"
      refine DS.seqH fun tA eA => ?_
      walk_at "go"
      refine ⟨c1, (W.length : Int), n + 1, by rw [List.length_map], by omega, by omega, hk1, by omega, fun ns c2 s1 hlot hnl hk2 => ?_⟩
      walk_at "go"
      subst eA
      refine DS.seqH fun tV eV => ?_
      refine DS.asg ?_
      have hpk : filt W 0 ns = pick W ns := by
        rw [filt_pick hlot.1 fun x hx => (hlot.2 x hx).1]
        unfold pick
        congr 1
        funext i
        rw [Int.sub_zero]
      have hpl : (pick W ns).length ≤ b := by rw [← hpk]; exact Nat.le_trans filt_len hW
      have rest : ∀ (d2 : Dsk) (c3 : D), RkD c3 (n + 1 + 200 + 1) → RelB d2 (landL m (pick W ns)) [] (a + b) 0 → DS K cp XC.q tV [.ow true c3, .dp true d2.t, .ow true (lies m), .sh (.lst (W.map eW)), .sh (.int h), .sh (.int way), .sh .non, .no, .no, .no, .no, .no, .no, .sh (.lst (ns.map D.int))]
          (fun ρ1 => DS K cp XC.q (tRet (tIf (tTest (tOp (fun x y H Q => y = V.non ∧ Q (V.bl (decide (x = V.non))) H) (tVar 6) (tC V.non))) (tVar 3) (tC V.non))) ρ1 (Φ (.d .non)) Φ (fun _ => False) fun _ => False) Φ (fun _ => False) fun _ => False := by
        intro d2 c3 hk3 hR2
        subst eV
        refine DS.seqH fun tD eD => ?_
        walk_at "go"
        refine ⟨true, m, a, W, ns, rfl, R.lok, by omega, hnl, fun s2 => ?_⟩
        rw [hpk]
        walk_at "go"
        subst eD
        walk_at "go"
        exact k _ _ _ [] _ _ _ (hk3.more (by omega)) hR2 (by omega)
      have land : ∀ d' : Dsk, d'.cs = ((pick d.W ns).foldl Dsk.land d).cs → d'.ls.map (·.2) = [[], [], []] → d'.W = [] → RelB d' (landL m (pick W ns)) [] (a + b) 0 := fun d' g1 g2 g3 =>
        R.landed (fun w hw => R.iw w (pick_mem hw)) hpl (by rw [← R.w]; exact g1) g2 g3
      walk_at "go"
      refine ⟨c2, 2, n + 1 + 200, rfl, hk2, by omega, by decide, by decide, fun r c3 s2 r0 r1 hk3 => ?_⟩
      walk_at "go"
      split
      · refine DE.meth ⟨true, d.x, 0, ["cells", "strokes", "latest", "left"], _, rfl, rfl, by decide, ?_⟩
        walk_at "go"
        refine ⟨d, a + b, _, ns, rfl, rfl, by rw [R.w]; exact hlot, hnl, hRd, by omega, htr, fun d' s1 g1 g2 g3 => ?_⟩
        walk_at "go"
        exact rest _ _ hk3 (land d' g1 g2 g3)
      · refine DE.methWC ⟨true, d.x, 0, ["cells", "strokes", "latest", "left"], _, rfl, rfl, by decide, ?_⟩
        walk_at "go"
        refine ⟨?_, ?_⟩
        · intro P vs zs h1 h2
          cases h1 with | cons a1 h1 => (cases h1; cases h2 with | cons b1 h2 => (cases h2; exact .cons a1 (.cons b1 .nil)))
        refine ⟨_, rfl, rfl, (show List.Nodup [1] by decide), ?_⟩
        refine ⟨d, a + b, _, ns, rfl, rfl, by rw [R.w]; exact hlot, hnl, hRd, by omega, htr, fun d' s1 g1 g2 g3 => ?_⟩
        dsimp only [g_kw_Disk_cut_1_lands]
        walk_at "go"
        exact rest _ _ hk3 (land d' g1 g2 g3)
end
end
section
set_option Elab.async false
set_option linter.all false
set_option maxRecDepth 100000
set_option maxHeartbeats 400000
open PySem PySem.Spec PyProof.Rows L2 GL DD


local macro_rules | `(tactic| walk_at "1DE") => `(tactic| (refine DE.ownT rfl True.intro ?_))
theorem lookL_mem : ∀ {m : List Wt} {p : Int × Int} {v : Int}, lookL m p = some v → ∃ w ∈ m, w.2 = v
  | [], p, v, h => by cases h
  | w :: m, p, v, h => by
    simp only [lookL] at h
    split at h
    · exact ⟨w, List.mem_cons_self, Option.some.inj h⟩
    · obtain ⟨x, hx, e⟩ := lookL_mem h
      exact ⟨x, List.mem_cons_of_mem _ hx, e⟩
theorem readL_in {m W : List Wt} {t x : Int} {i : Nat} (hW : ∀ w ∈ W, inW w) (hm : ∀ w ∈ m, inW w) : inVa (readL m W t x i) := by
  unfold readL
  cases h : ((W.filter fun w => decide (w.1 = (t, x + (i : Int)))).map (·.2)).getLast? with
  | some v =>
    have := List.mem_of_getLast? h
    obtain ⟨w, hw, rfl⟩ := List.mem_map.mp this
    exact (hW w (List.mem_filter.mp hw).1).2.2
  | none =>
    show inVa ((lookL m (t, x + (i : Int))).getD 0)
    cases h2 : lookL m (t, x + (i : Int)) with
    | none => exact ⟨by decide, by decide⟩
    | some v =>
      obtain ⟨w, hw, rfl⟩ := lookL_mem h2
      exact (hm w hw).2.2
theorem sz_reads {m W : List Wt} {t x : Int} {n : Nat} (hW : ∀ w ∈ W, inW w) (hm : ∀ w ∈ m, inW w) (hn : n ≤ 6) : Sz true (.tup ((List.range n).map fun i => D.int (readL m W t x i))) 1 (6 * 66) := by
  have key : ∀ i ∈ List.range n, Sz true (D.int (readL m W t x i)) 0 65 := fun i _ => by
    obtain ⟨h1, h2⟩ := readL_in (t := t) (x := x) (i := i) hW hm
    exact (Sz.int (n := 64) (by omega) (by decide)).le (Nat.le_refl _) (Nat.le_refl _)
  refine (Sz.tup (pyA_map key)).le (by decide) ?_
  rw [List.length_range]
  exact Nat.mul_le_mul_right _ hn
section
variable {P : Program} {w : World} {K : PySem.W.Frag} {mg : Str → Option Value} {base : Heap} {fs : Nat → Addr} {fd : Nat → FuncData} {tk : Nat → Tok} {cp : Cb}
theorem r2_neS {x y : D} {ψ : AV → Prop} (hx : okS x) (hy : okS y) (q : ∀ c : Bool, (c = true ↔ x ≠ y) → ψ (.d (.bl c))) : R2d K cp (rNeX K) x y ψ := fun G H u w Q hu hw k =>
  .inr ⟨pyD x, pyD y, dt_dp hu hx.o, dt_dp hw hy.o, hx.shaped, hy.shaped, k _ (.d (.bl _)) H (rx_flat (.bl _)) (q _ (by
    have := eqv_iff x y hx.o hy.o
    cases h : PyData.eqv (pyD x) (pyD y) with
    | true => simp [this.mp h]
    | false => simp only [Bool.not_false, true_iff]; intro z; rw [this.mpr z] at h; cases h))⟩
theorem ok_lawD (hT : cp.T = []) (T : Txt K mg fs fd tk cp.c) : FnG P w K mg base CX0 7 (fs 30) (fd 30) P_law (spLaw K) := by
  refine Fun.okG T.f_law sc_law (fun vs H Q E h => ?_) (fun cd A out s H vs Q E gd hr h => ?_)
  · obtain ⟨a, ns, rfl, _⟩ := h
    rfl
  · obtain ⟨a, ns, rfl, hS, hl, k⟩ := h
    refine ⟨_, PSs.nox ((pss_cons (ps_set (i := 1) sc_law.nd rfl (by first | exact Or.inl rfl | exact Or.inr rfl) (pg_call (ok_Lrig T) gd (hr.mono (by decide)) (by rfl) T.m_Lrig T.f_Lrig.kp (b_Lrig T) .nil pass0 (pa_cons (pv 0) pa_nil)))
      (pss_cons (ps_par3 (i := 2) (j := 3) (l := 4) (by rfl) sc_law.nd rfl rfl rfl (by decide) (by decide) (by decide) rfl rfl rfl (pa_cons (pe_makeG0 T.k_Disk (ok_Disk_init T) gd (hr.mono (by decide)) (by rfl) T.m_Disk (b_Disk_init T) .nil pass0) (pa_cons (pe_dnewT) (pa_cons (pe_lst pa_nil) pa_nil))) (by rfl))
      (pss_cons (ps_set (i := 5) sc_law.nd rfl (by first | exact Or.inl rfl | exact Or.inr rfl) (pg_call (ok_Lpick T) gd (hr.mono (by decide)) (by rfl) T.m_Lpick T.f_Lpick.kp (b_Lpick T) .nil pass0 (pa_cons (pv 1) (pa_cons (pe_lst (pa_cons (pe_int) (pa_cons (pe_int) (pa_cons (pe_int) (pa_cons (pe_int) pa_nil))))) pa_nil))))
      (pss_cons (ps_if (PW.pt (pw_or (pt_not (pt_val (pg_call (ok_Lis T) gd (hr.mono (by decide)) (by rfl) T.m_Lis T.f_Lis.kp (b_Lis T) .nil pass0 (pa_cons (pv 2) (pa_cons (pv 3) (pa_cons (pv 4) pa_nil)))))) (pw_or1 (pt_cmpR (op_neX hr.units) (pg_meth (pv 2) T.c_Disk T.mt_Disk_read (ok_Disk_read T) gd (hr.mono (by decide)) (b_Disk_read T) .nil pass0 (pa_cons (pe_int) (pa_cons (pe_int) (pa_cons (pe_int) pa_nil)))) (pe_tup (pa_cons (pe_int) (pa_cons (pe_int) pa_nil))) (nomark _)))))
        (pss_one (ps_ret (pe_bl)))
        pss_nil)
      (pss_cons (ps_for PassesOwn.never rfl (pi_range1 (by rfl) T.z_range (pa_cons (pg_call (ok_Lpick T) gd (hr.mono (by decide)) (by rfl) T.m_Lpick T.f_Lpick.kp (b_Lpick T) .nil pass0 (pa_cons (pv 1) (pa_cons (pe_lst (pa_cons (pe_int) (pa_cons (pe_int) (pa_cons (pe_int) (pa_cons (pe_int) pa_nil))))) pa_nil))) pa_nil)) (pg_name (i := 6) sc_law.nd rfl (by first | exact Or.inl rfl | exact Or.inr rfl))
        (pss_cons (ps_set (i := 4) sc_law.nd rfl (by first | exact Or.inl rfl | exact Or.inr rfl) (pg_call (ok_Ldone T) gd (hr.mono (by decide)) (by rfl) T.m_Ldone T.f_Ldone.kp (b_Ldone T) .nil pass0 (pa_cons (pv 1) (pa_cons (pv 2) (pa_cons (pv 3) (pa_cons (pv 4) (pa_cons (pv 5) pa_nil)))))))
        (pss_cons (ps_if (PW.pt (pw_or (pt_cmpR op_isN (pv 4) (pe_non) (nomark _)) (pw_or1 (pt_not (pt_val (pg_call (ok_Lis T) gd (hr.mono (by decide)) (by rfl) T.m_Lis T.f_Lis.kp (b_Lis T) .nil pass0 (pa_cons (pv 2) (pa_cons (pv 3) (pa_cons (pv 4) pa_nil)))))))))
          (pss_one (ps_ret (pe_bl)))
          pss_nil)
        (pss_cons (ps_asg (pg_call (ok_Lplace T) gd (hr.mono (by decide)) (by rfl) T.m_Lplace T.f_Lplace.kp (b_Lplace T) .nil pass0 (pa_cons (pv 1) (pa_cons (pv 5) pa_nil))) (pg_tup rfl (pgs_cons (pg_name (i := 7) sc_law.nd rfl (by first | exact Or.inl rfl | exact Or.inr rfl)) (pgs_cons (pg_name (i := 8) sc_law.nd rfl (by first | exact Or.inl rfl | exact Or.inr rfl)) pgs_nil))))
        (pss_cons (ps_set (i := 9) sc_law.nd rfl (by first | exact Or.inl rfl | exact Or.inr rfl) (pg_call (ok_Lhaul T) gd (hr.mono (by decide)) (by rfl) T.m_Lhaul T.f_Lhaul.kp (b_Lhaul T) .nil pass0 (pa_cons (pv 1) (pa_cons (pe_int) pa_nil))))
        (pss_cons (ps_if (pt_cmpR op_ne (pe_callB (call_reprX gd hr) (by rfl) T.z_repr (by decide +kernel) (pa_cons (pg_meth (pv 2) T.c_Disk T.mt_Disk_read (ok_Disk_read T) gd (hr.mono (by decide)) (b_Disk_read T) .nil pass0 (pa_cons (pv 7) (pa_cons (pv 8) (pa_cons (pv 9) pa_nil)))) pa_nil)) (pe_callB (call_reprX gd hr) (by rfl) T.z_repr (by decide +kernel) (pa_cons (pg_call (ok_Lreads T) gd (hr.mono (by decide)) (by rfl) T.m_Lreads T.f_Lreads.kp (b_Lreads T) .nil pass0 (pa_cons (pv 3) (pa_cons (pv 4) (pa_cons (pv 7) (pa_cons (pv 8) (pa_cons (pv 9) pa_nil)))))) pa_nil)) (nomark _))
          (pss_one (ps_ret (pe_bl)))
          pss_nil)
        (pss_one (ps_if (pt_cmpR op_ne (pe_callB (call_reprX gd hr) (by rfl) T.z_repr (by decide +kernel) (pa_cons (pg_methK0 (pv 2) T.c_Disk T.mt_Disk_read (ok_Disk_read T) gd (hr.mono (by decide)) (kw_Disk_read_1_many_track_at T) pass0 (pk_cons (pe_int) (pk_cons (pv 7) (pk_cons (pv 5) pk_nil)))) pa_nil)) (pe_callB (call_reprX gd hr) (by rfl) T.z_repr (by decide +kernel) (pa_cons (pg_call (ok_Lreads T) gd (hr.mono (by decide)) (by rfl) T.m_Lreads T.f_Lreads.kp (b_Lreads T) .nil pass0 (pa_cons (pv 3) (pa_cons (pv 4) (pa_cons (pv 7) (pa_cons (pv 5) (pa_cons (pe_int) pa_nil)))))) pa_nil)) (nomark _))
          (pss_one (ps_ret (pe_bl)))
          pss_nil))))))))
      (pss_one (ps_ret (pe_bl))))))))), ?_⟩
    refine ⟨_, rfl, a, ns, rfl, hS, hl, fun p d H1 hp r e1 => ?_⟩
    have t1 : LamX.Tabs cp.T H1 := by
      rw [hT]
      intro q hq
      cases hq
    dsimp only [gName]
    refine law_go (K := K) (cp := cp) (k := 8) (a := .ref a) r t1 rfl k fun c1 hc1 => ?_
    refine DS.seqH fun tR eR => ?_
    refine DS.par3D (DE.makeT ?_)
    walk_at "go"
    intro x
    refine ⟨x, rfl, fun d s1 hnew => ⟨rfl, fun t ht => ?_⟩⟩
    cases ht
    have R0 := RelB.new hnew
    refine ⟨_, rfl, free_of rfl, free_of rfl, free_of rfl, by decide, by decide, by decide, ?_⟩
    walk_at "n"
    subst eR
    show DS K cp XC.q _ [.no, .ow false c1, .dp false d.t, .ow false (lies []), .ow false (.lst []), .no, .no, .no, .no, .no] _ _ _ _
    refine DS.lock (i := 4) rfl ?_
    walk_at "n"
    refine DS.seqH fun tS eS => ?_
    walk_at "go"
    refine ⟨c1, _, 0, rfl, by simp, by simp, hc1, by omega, fun y c2 s2 hy hk2 => ?_⟩
    have : ∃ h : Int, y = .int h ∧ inHome h := by
      simp only [List.mem_cons, List.not_mem_nil, or_false] at hy
      rcases hy with rfl | rfl | rfl | rfl <;> exact ⟨_, rfl, by constructor <;> omega⟩
    obtain ⟨h, rfl, hh⟩ := this
    walk_at "go"
    subst eS
    refine DS.seqH fun tU eU => ?_
    walk_at "go"
    refine ⟨d, [], [], 0, rfl, R0.rel (Nat.le_refl _), by omega, fun s3 => ?_⟩
    walk_at "go"
    refine DE.meth ⟨false, d.x, 0, ["cells", "strokes", "latest", "left"], _, rfl, rfl, by decide, ?_⟩
    walk_at "go"
    refine ⟨d, 0, 2, 9999999, 2, rfl, ⟨by decide, by decide⟩, ⟨by decide, by decide⟩, by decide, by decide, by decide, (R0.rel (n := 0) (Nat.le_refl _)).ok, by decide, fun s4 => ?_⟩
    have hread : ((List.range (2 : Int).toNat).map fun (i : Nat) => D.int (((lookA (d.ls[(2 : Int).toNat]?.elim [] (·.2)) (9999999 + (i : Int))).getD ((lookA (d.cs[(2 : Int).toNat]?.elim [] (·.2)) (9999999 + (i : Int))).getD 0)))) = [.int 0, .int 0] := by
      have e : ∀ i : Nat, ((lookA (d.ls[(2 : Int).toNat]?.elim [] (·.2)) (9999999 + (i : Int))).getD ((lookA (d.cs[(2 : Int).toNat]?.elim [] (·.2)) (9999999 + (i : Int))).getD 0)) = 0 := fun i => by
        rw [read_same R0 ⟨by decide, by decide⟩]; rfl
      simp only [e]; rfl
    rw [hread]
    walk_at "go"
    refine r2_neS (okS_ii _ _) (okS_ii _ _) fun c hc => ?_
    have : c = false := by cases c with | false => rfl | true => exact absurd rfl (hc.mp rfl)
    subst this
    walk_at "go"
    subst eU
    refine DS.seqH fun tE eE => ?_
    refine DS.for ?_
    walk_at "go"
    refine ⟨c2, _, 1, rfl, by simp, by simp, hk2, by omega, fun y c3 s5 hy hk3 => ?_⟩
    have : ∃ n : Nat, y = .int (n : Int) ∧ n ≤ 22 := by
      simp only [List.mem_cons, List.not_mem_nil, or_false] at hy
      rcases hy with rfl | rfl | rfl | rfl
      · exact ⟨9, rfl, by omega⟩
      · exact ⟨14, rfl, by omega⟩
      · exact ⟨22, rfl, by omega⟩
      · exact ⟨5, rfl, by omega⟩
    obtain ⟨n, rfl, hn⟩ := this
    walk_at "go"
    refine ⟨by omega, by omega, fun i ρ => Keep (∃ c d m W a b o6 o7 o8 o9, ρ = [.no, .ow false c, .dp false d.t, .ow false (lies m), .sh (.lst (W.map eW)), .sh (.int h), so o6, so o7, so o8, so o9] ∧ RkD c (400 * i + 10) ∧ RelB d m W a b ∧ a + b ≤ 6 * i), .a ⟨c3, d, [], [], 0, 0, none, none, none, none, rfl, hk3.more (by omega), R0, by omega⟩, ?_, ?_⟩
    · intro i dd _ hi kp
      obtain ⟨c, d, m, W, a, b, o6, o7, o8, o9, rfl, hk, R, hab⟩ := kp.out
      have hi5 : i < n := by
        obtain ⟨h, _⟩ := List.getElem?_eq_some_iff.mp hi
        rw [intD_len] at h; omega
      rw [intD_get (by omega)] at hi
      cases hi
      refine DGo.name (free_so rfl) ?_
      walk_at "n"
      refine DS.seqH fun t1 e1 => ?_
      walk_at "go"
      refine ⟨c, 400 * i + 10, d, m, W, a, b, h, rfl, hk, by omega, R, by omega, hh, fun c4 d4 m4 W4 a4 b4 s6 hk4 R4 hab4 => ?_⟩
      walk_at "go"
      subst e1
      refine DS.seqH fun t2 e2 => ?_
      walk_at "go"
      refine ⟨d4, m4, W4, a4 + b4, rfl, R4.rel (Nat.le_refl _), by omega, fun s7 => ?_⟩
      walk_at "go"
      subst e2
      refine DS.seqH fun t3 e3 => ?_
      walk_at "go"
      refine ⟨c4, h, _, rfl, hh, hk4, by omega, fun t x c5 s8 ht hx hk5 => ?_⟩
      walk_at "go"
      subst e3
      refine DS.seqH fun t4 e4 => ?_
      walk_at "go"
      refine ⟨c5, 7, _, rfl, hk5, by omega, by decide, by decide, fun mm c6 s9 m0 m7 hk6 => ?_⟩
      walk_at "go"
      subst e4
      refine DS.seqH fun t5 e5 => ?_
      have RR := R4.rel (Nat.le_refl _)
      have hx1 : inCe x := ⟨hx.1, by have := hx.2; omega⟩
      have hWl := R4.wl
      have same : ∀ (t x : Int) (n : Nat), inTr t → ((List.range n).map fun (i : Nat) => D.int (((lookA (d4.ls[t.toNat]?.elim [] (·.2)) (x + (i : Int))).getD ((lookA (d4.cs[t.toNat]?.elim [] (·.2)) (x + (i : Int))).getD 0)))) = (List.range n).map fun i => D.int (readL m4 W4 t x i) := fun t x n ht => by
        refine List.map_congr_left fun i _ => ?_
        rw [read_same R4 ht]
      walk_at "go"
      refine DE.meth ⟨false, d4.x, 0, ["cells", "strokes", "latest", "left"], _, rfl, rfl, by decide, ?_⟩
      walk_at "go"
      refine ⟨d4, a4 + b4, t, x, mm, rfl, ht, hx1, m0, by omega, by unfold mostFrom; have := hx.2; split <;> omega, RR.ok, by omega, fun s10 => ?_⟩
      rw [same t x _ ht]
      walk_at "go"
      refine rl_repr (sz_reads R4.iw R4.im (by omega)) (by decide) (by decide) ?_
      obtain ⟨z, hz⟩ : ∃ z, (pyD (.tup ((List.range mm.toNat).map fun i => D.int (readL m4 W4 t x i)))).shown = z := ⟨_, rfl⟩
      rw [hz]
      walk_at "go"
      refine ⟨true, m4, a4 + b4, W4, t, x, mm, rfl, RR.lok, by omega, by omega, hx1, m0, by omega, fun s11 => ?_⟩
      walk_at "go"
      refine rl_repr (sz_reads R4.iw R4.im (by omega)) (by decide) (by decide) ?_
      rw [hz]
      walk_at "go"
      rw [if_neg (by simp)]
      walk_at "go"
      subst e5
      walk_at "go"
      refine DE.methWC ⟨false, d4.x, 0, ["cells", "strokes", "latest", "left"], _, rfl, rfl, by decide, ?_⟩
      walk_at "go"
      refine ⟨?_, ?_⟩
      · intro P vs zs h1 h2
        cases h1 with | cons a1 h1 => (cases h1; cases h2 with | cons b1 h2 => (cases h2 with | cons b2 h2 => (cases h2 with | cons b3 h2 => (cases h2; exact .cons a1 (.cons b2 (.cons b3 (.cons b1 .nil)))))))
      refine ⟨_, rfl, rfl, (show List.Nodup [2] by decide), ?_⟩
      refine ⟨d4, a4 + b4, t, h, 6, rfl, ht, ⟨hh.1, by have := hh.2; omega⟩, by decide, by decide, by unfold mostFrom; have := hh.2; split <;> omega, RR.ok, by omega, fun s12 => ?_⟩
      rw [same t h _ ht]
      dsimp only [g_kw_Disk_read_1_many_track_at]
      walk_at "go"
      refine rl_repr (sz_reads R4.iw R4.im (by decide)) (by decide) (by decide) ?_
      obtain ⟨z2, hz2⟩ : ∃ z, (pyD (.tup ((List.range 6).map fun i => D.int (readL m4 W4 t h i)))).shown = z := ⟨_, rfl⟩
      rw [hz2]
      walk_at "go"
      refine ⟨true, m4, a4 + b4, W4, t, h, 6, rfl, RR.lok, by omega, by omega, ⟨hh.1, by have := hh.2; omega⟩, by decide, by decide, fun s13 => ?_⟩
      walk_at "go"
      refine rl_repr (sz_reads R4.iw R4.im (by decide)) (by decide) (by decide) ?_
      rw [hz2]
      walk_at "go"
      rw [if_neg (by simp)]
      walk_at "go"
      exact .a ⟨c6, d4, m4, W4, a4, b4, some _, some _, some _, some _, rfl, hk6.more (by omega), R4, by omega⟩
    · intro ρ2 kp
      obtain ⟨c, d, m, W, a, b, o6, o7, o8, o9, rfl, hk, R, hab⟩ := kp.out
      subst eE
      walk_at "go"
theorem ok_law (sb : SmB base) {cp0 : Nat → Addr} (T : Txt K mg fs fd tk cp0) : FnG P w K mg base CX0 7 (fs 30) (fd 30) P_law (spLaw K) := ok_lawD (cp := ⟨cp0, cp0, []⟩) rfl T
end
end
end Mine
section
set_option Elab.async false
set_option linter.all false
set_option maxRecDepth 100000
set_option maxHeartbeats 4000000
namespace Mine
open PySem PySem.Spec PyProof.Rows L2 GL DD
theorem all_mk {l : PySem.W.OpenLaw} {w : World} {K : PySem.W.Frag} {h : Heap} {mg : Str → Option Value} {fa : Addr} (X : K.In h) (G : h.Ns mainGlobals mg) (hfa : mg "law" = some (.ref fa))
    {f0 f1 f2 f3 f4 f5 f6 f7 f8 f9 f10 f11 f12 f13 f14 f15 f16 f17 f18 f19 f20 f21 f22 f23 f24 f25 f26 f27 f28 f29 f30 : Addr} {od0 od1 od2 od3 od4 od5 od6 od7 od8 od9 od10 od11 od12 od13 od14 od15 od16 od17 od18 od19 od20 od21 od22 od23 od24 od25 od26 od27 od28 od29 od30 an0 an1 an2 an3 an4 an5 an6 an7 an8 an9 an10 an11 an12 an13 an14 an15 an16 an17 an18 an19 an20 an21 an22 an23 an24 an25 an26 an27 an28 an29 an30 : Option Addr} {sl0 sl1 sl2 sl3 sl4 sl5 sl6 sl7 sl8 sl9 sl10 sl11 sl12 sl13 sl14 sl15 sl16 sl17 sl18 sl19 sl20 sl21 sl22 sl23 sl24 sl25 sl26 sl27 sl28 sl29 sl30 : Array (Option Value)}
    {oc0 kV0 dc0 pm0 cd0 ct0 oc1 kV1 dc1 pm1 cd1 ct1 oc2 kV2 dc2 pm2 cd2 ct2 oc3 kV3 dc3 pm3 cd3 ct3 oc4 kV4 dc4 pm4 cd4 ct4 oc5 kV5 dc5 pm5 cd5 ct5 oc6 kV6 dc6 pm6 cd6 ct6 oc7 kV7 dc7 pm7 cd7 ct7 oc8 kV8 dc8 pm8 cd8 ct8 oc9 kV9 dc9 pm9 cd9 ct9 oc10 kV10 dc10 pm10 cd10 ct10 oc11 kV11 dc11 pm11 cd11 ct11 oc12 kV12 dc12 pm12 cd12 ct12 oc13 kV13 dc13 pm13 cd13 ct13 oc14 kV14 dc14 pm14 cd14 ct14 oc15 kV15 dc15 pm15 cd15 ct15 oc16 kV16 dc16 pm16 cd16 ct16 oc17 kV17 dc17 pm17 cd17 ct17 oc18 kV18 dc18 pm18 cd18 ct18 oc19 kV19 dc19 pm19 cd19 ct19 oc20 kV20 dc20 pm20 cd20 ct20 oc21 kV21 dc21 pm21 cd21 ct21 oc22 kV22 dc22 pm22 cd22 ct22 oc23 kV23 dc23 pm23 cd23 ct23 oc24 kV24 dc24 pm24 cd24 ct24 oc25 kV25 dc25 pm25 cd25 ct25 oc26 kV26 dc26 pm26 cd26 ct26 oc27 kV27 dc27 pm27 cd27 ct27 oc28 kV28 dc28 pm28 cd28 ct28 oc29 kV29 dc29 pm29 cd29 ct29 oc30 kV30 dc30 pm30 cd30 ct30 : Value}
    {t0 t1 t2 t3 : Tok}
    {L0 : Addr}
    (pa0 : PySem.W.nsIn K mainGlobals "Disk" = some (some (.ref L0)))
    (a0 : PySem.W.nsIn K mainGlobals "is_integer" = some (some (.ref f0)))
    (l0 : K.lookup f0 = some ⟨oc0, od0, .func (PySem.W.fnOf "is_integer" "is_integer" (defArgs s_is_integer) (defBody s_is_integer) (defScope s_is_integer) .none kV0 dc0 pm0 an0 cd0 ct0), sl0⟩)
    (c0 : PySem.W.codeIn K cd0 "is_integer" = true)
    (k0 : PySem.W.keepIn K (.ref f0) = true)
    (a1 : PySem.W.nsIn K mainGlobals "is_within" = some (some (.ref f1)))
    (l1 : K.lookup f1 = some ⟨oc1, od1, .func (PySem.W.fnOf "is_within" "is_within" (defArgs s_is_within) (defBody s_is_within) (defScope s_is_within) .none kV1 dc1 pm1 an1 cd1 ct1), sl1⟩)
    (c1 : PySem.W.codeIn K cd1 "is_within" = true)
    (k1 : PySem.W.keepIn K (.ref f1) = true)
    (a2 : PySem.W.nsIn K mainGlobals "are_integers" = some (some (.ref f2)))
    (l2 : K.lookup f2 = some ⟨oc2, od2, .func (PySem.W.fnOf "are_integers" "are_integers" (defArgs s_are_integers) (defBody s_are_integers) (defScope s_are_integers) .none kV2 dc2 pm2 an2 cd2 ct2), sl2⟩)
    (c2 : PySem.W.codeIn K cd2 "are_integers" = true)
    (k2 : PySem.W.keepIn K (.ref f2) = true)
    (a3 : PySem.W.nsIn K mainGlobals "is_lot" = some (some (.ref f3)))
    (l3 : K.lookup f3 = some ⟨oc3, od3, .func (PySem.W.fnOf "is_lot" "is_lot" (defArgs s_is_lot) (defBody s_is_lot) (defScope s_is_lot) .none kV3 dc3 pm3 an3 cd3 ct3), sl3⟩)
    (c3 : PySem.W.codeIn K cd3 "is_lot" = true)
    (k3 : PySem.W.keepIn K (.ref f3) = true)
    (a4 : PySem.W.nsIn K mainGlobals "may_be_held" = some (some (.ref f4)))
    (l4 : K.lookup f4 = some ⟨oc4, od4, .func (PySem.W.fnOf "may_be_held" "may_be_held" (defArgs s_may_be_held) (defBody s_may_be_held) (defScope s_may_be_held) .none kV4 dc4 pm4 an4 cd4 ct4), sl4⟩)
    (c4 : PySem.W.codeIn K cd4 "may_be_held" = true)
    (k4 : PySem.W.keepIn K (.ref f4) = true)
    (a5 : PySem.W.nsIn K mainGlobals "check_track" = some (some (.ref f5)))
    (l5 : K.lookup f5 = some ⟨oc5, od5, .func (PySem.W.fnOf "check_track" "check_track" (defArgs s_check_track) (defBody s_check_track) (defScope s_check_track) .none kV5 dc5 pm5 an5 cd5 ct5), sl5⟩)
    (c5 : PySem.W.codeIn K cd5 "check_track" = true)
    (k5 : PySem.W.keepIn K (.ref f5) = true)
    (a6 : PySem.W.nsIn K mainGlobals "check_cell" = some (some (.ref f6)))
    (l6 : K.lookup f6 = some ⟨oc6, od6, .func (PySem.W.fnOf "check_cell" "check_cell" (defArgs s_check_cell) (defBody s_check_cell) (defScope s_check_cell) .none kV6 dc6 pm6 an6 cd6 ct6), sl6⟩)
    (c6 : PySem.W.codeIn K cd6 "check_cell" = true)
    (k6 : PySem.W.keepIn K (.ref f6) = true)
    (a7 : PySem.W.nsIn K mainGlobals "_most_from" = some (some (.ref f7)))
    (l7 : K.lookup f7 = some ⟨oc7, od7, .func (PySem.W.fnOf "_most_from" "_most_from" (defArgs s_Umost_from) (defBody s_Umost_from) (defScope s_Umost_from) .none kV7 dc7 pm7 an7 cd7 ct7), sl7⟩)
    (c7 : PySem.W.codeIn K cd7 "_most_from" = true)
    (k7 : PySem.W.keepIn K (.ref f7) = true)
    (a8 : PySem.W.nsIn K mainGlobals "_may_be_written" = some (some (.ref f8)))
    (l8 : K.lookup f8 = some ⟨oc8, od8, .func (PySem.W.fnOf "_may_be_written" "_may_be_written" (defArgs s_Umay_be_written) (defBody s_Umay_be_written) (defScope s_Umay_be_written) .none kV8 dc8 pm8 an8 cd8 ct8), sl8⟩)
    (c8 : PySem.W.codeIn K cd8 "_may_be_written" = true)
    (k8 : PySem.W.keepIn K (.ref f8) = true)
    (pf9 : PySem.W.findIn K (.ref L0) "__init__" = some (some (.ref f9)))
    (l9 : K.lookup f9 = some ⟨oc9, od9, .func (PySem.W.fnOf "__init__" "Disk.__init__" (defArgs s_Disk_init) (defBody s_Disk_init) (defScope s_Disk_init) .none kV9 dc9 pm9 an9 cd9 ct9), sl9⟩)
    (c9 : PySem.W.codeIn K cd9 "Disk.__init__" = true)
    (k9 : PySem.W.keepIn K (.ref f9) = true)
    (pf10 : PySem.W.findIn K (.ref L0) "write" = some (some (.ref f10)))
    (l10 : K.lookup f10 = some ⟨oc10, od10, .func (PySem.W.fnOf "write" "Disk.write" (defArgs s_Disk_write) (defBody s_Disk_write) (defScope s_Disk_write) .none kV10 dc10 pm10 an10 cd10 ct10), sl10⟩)
    (c10 : PySem.W.codeIn K cd10 "Disk.write" = true)
    (k10 : PySem.W.keepIn K (.ref f10) = true)
    (pf11 : PySem.W.findIn K (.ref L0) "flush" = some (some (.ref f11)))
    (l11 : K.lookup f11 = some ⟨oc11, od11, .func (PySem.W.fnOf "flush" "Disk.flush" (defArgs s_Disk_flush) (defBody s_Disk_flush) (defScope s_Disk_flush) .none kV11 dc11 pm11 an11 cd11 ct11), sl11⟩)
    (c11 : PySem.W.codeIn K cd11 "Disk.flush" = true)
    (k11 : PySem.W.keepIn K (.ref f11) = true)
    (pf12 : PySem.W.findIn K (.ref L0) "read" = some (some (.ref f12)))
    (l12 : K.lookup f12 = some ⟨oc12, od12, .func (PySem.W.fnOf "read" "Disk.read" (defArgs s_Disk_read) (defBody s_Disk_read) (defScope s_Disk_read) .none kV12 dc12 pm12 an12 cd12 ct12), sl12⟩)
    (c12 : PySem.W.codeIn K cd12 "Disk.read" = true)
    (k12 : PySem.W.keepIn K (.ref f12) = true)
    (pf13 : PySem.W.findIn K (.ref L0) "kept" = some (some (.ref f13)))
    (l13 : K.lookup f13 = some ⟨oc13, od13, .func (PySem.W.fnOf "kept" "Disk.kept" (defArgs s_Disk_kept) (defBody s_Disk_kept) (defScope s_Disk_kept) .none kV13 dc13 pm13 an13 cd13 ct13), sl13⟩)
    (c13 : PySem.W.codeIn K cd13 "Disk.kept" = true)
    (k13 : PySem.W.keepIn K (.ref f13) = true)
    (pf14 : PySem.W.findIn K (.ref L0) "waiting" = some (some (.ref f14)))
    (l14 : K.lookup f14 = some ⟨oc14, od14, .func (PySem.W.fnOf "waiting" "Disk.waiting" (defArgs s_Disk_waiting) (defBody s_Disk_waiting) (defScope s_Disk_waiting) .none kV14 dc14 pm14 an14 cd14 ct14), sl14⟩)
    (c14 : PySem.W.codeIn K cd14 "Disk.waiting" = true)
    (k14 : PySem.W.keepIn K (.ref f14) = true)
    (pf15 : PySem.W.findIn K (.ref L0) "cut" = some (some (.ref f15)))
    (l15 : K.lookup f15 = some ⟨oc15, od15, .func (PySem.W.fnOf "cut" "Disk.cut" (defArgs s_Disk_cut) (defBody s_Disk_cut) (defScope s_Disk_cut) .none kV15 dc15 pm15 an15 cd15 ct15), sl15⟩)
    (c15 : PySem.W.codeIn K cd15 "Disk.cut" = true)
    (k15 : PySem.W.keepIn K (.ref f15) = true)
    (pf16 : PySem.W.findIn K (.ref L0) "_spend" = some (some (.ref f16)))
    (l16 : K.lookup f16 = some ⟨oc16, od16, .func (PySem.W.fnOf "_spend" "Disk._spend" (defArgs s_Disk__spend) (defBody s_Disk__spend) (defScope s_Disk__spend) .none kV16 dc16 pm16 an16 cd16 ct16), sl16⟩)
    (c16 : PySem.W.codeIn K cd16 "Disk._spend" = true)
    (k16 : PySem.W.keepIn K (.ref f16) = true)
    (pf17 : PySem.W.findIn K (.ref L0) "_land" = some (some (.ref f17)))
    (l17 : K.lookup f17 = some ⟨oc17, od17, .func (PySem.W.fnOf "_land" "Disk._land" (defArgs s_Disk__land) (defBody s_Disk__land) (defScope s_Disk__land) .none kV17 dc17 pm17 an17 cd17 ct17), sl17⟩)
    (c17 : PySem.W.codeIn K cd17 "Disk._land" = true)
    (k17 : PySem.W.keepIn K (.ref f17) = true)
    (pf18 : PySem.W.findIn K (.ref L0) "_forget_strokes" = some (some (.ref f18)))
    (l18 : K.lookup f18 = some ⟨oc18, od18, .func (PySem.W.fnOf "_forget_strokes" "Disk._forget_strokes" (defArgs s_Disk__forget_strokes) (defBody s_Disk__forget_strokes) (defScope s_Disk__forget_strokes) .none kV18 dc18 pm18 an18 cd18 ct18), sl18⟩)
    (c18 : PySem.W.codeIn K cd18 "Disk._forget_strokes" = true)
    (k18 : PySem.W.keepIn K (.ref f18) = true)
    (a19 : PySem.W.nsIn K mainGlobals "_law_rig" = some (some (.ref f19)))
    (l19 : K.lookup f19 = some ⟨oc19, od19, .func (PySem.W.fnOf "_law_rig" "_law_rig" (defArgs s_Lrig) (defBody s_Lrig) (defScope s_Lrig) .none kV19 dc19 pm19 an19 cd19 ct19), sl19⟩)
    (c19 : PySem.W.codeIn K cd19 "_law_rig" = true)
    (k19 : PySem.W.keepIn K (.ref f19) = true)
    (a20 : PySem.W.nsIn K mainGlobals "_law_haul" = some (some (.ref f20)))
    (l20 : K.lookup f20 = some ⟨oc20, od20, .func (PySem.W.fnOf "_law_haul" "_law_haul" (defArgs s_Lhaul) (defBody s_Lhaul) (defScope s_Lhaul) .none kV20 dc20 pm20 an20 cd20 ct20), sl20⟩)
    (c20 : PySem.W.codeIn K cd20 "_law_haul" = true)
    (k20 : PySem.W.keepIn K (.ref f20) = true)
    (a21 : PySem.W.nsIn K mainGlobals "_law_pick" = some (some (.ref f21)))
    (l21 : K.lookup f21 = some ⟨oc21, od21, .func (PySem.W.fnOf "_law_pick" "_law_pick" (defArgs s_Lpick) (defBody s_Lpick) (defScope s_Lpick) .none kV21 dc21 pm21 an21 cd21 ct21), sl21⟩)
    (c21 : PySem.W.codeIn K cd21 "_law_pick" = true)
    (k21 : PySem.W.keepIn K (.ref f21) = true)
    (a22 : PySem.W.nsIn K mainGlobals "_law_lot" = some (some (.ref f22)))
    (l22 : K.lookup f22 = some ⟨oc22, od22, .func (PySem.W.fnOf "_law_lot" "_law_lot" (defArgs s_Llot) (defBody s_Llot) (defScope s_Llot) .none kV22 dc22 pm22 an22 cd22 ct22), sl22⟩)
    (c22 : PySem.W.codeIn K cd22 "_law_lot" = true)
    (k22 : PySem.W.keepIn K (.ref f22) = true)
    (a23 : PySem.W.nsIn K mainGlobals "_law_land" = some (some (.ref f23)))
    (l23 : K.lookup f23 = some ⟨oc23, od23, .func (PySem.W.fnOf "_law_land" "_law_land" (defArgs s_Lland) (defBody s_Lland) (defScope s_Lland) .none kV23 dc23 pm23 an23 cd23 ct23), sl23⟩)
    (c23 : PySem.W.codeIn K cd23 "_law_land" = true)
    (k23 : PySem.W.keepIn K (.ref f23) = true)
    (a24 : PySem.W.nsIn K mainGlobals "_law_kept" = some (some (.ref f24)))
    (l24 : K.lookup f24 = some ⟨oc24, od24, .func (PySem.W.fnOf "_law_kept" "_law_kept" (defArgs s_Lkept) (defBody s_Lkept) (defScope s_Lkept) .none kV24 dc24 pm24 an24 cd24 ct24), sl24⟩)
    (c24 : PySem.W.codeIn K cd24 "_law_kept" = true)
    (k24 : PySem.W.keepIn K (.ref f24) = true)
    (a25 : PySem.W.nsIn K mainGlobals "_law_reads" = some (some (.ref f25)))
    (l25 : K.lookup f25 = some ⟨oc25, od25, .func (PySem.W.fnOf "_law_reads" "_law_reads" (defArgs s_Lreads) (defBody s_Lreads) (defScope s_Lreads) .none kV25 dc25 pm25 an25 cd25 ct25), sl25⟩)
    (c25 : PySem.W.codeIn K cd25 "_law_reads" = true)
    (k25 : PySem.W.keepIn K (.ref f25) = true)
    (a26 : PySem.W.nsIn K mainGlobals "_law_is" = some (some (.ref f26)))
    (l26 : K.lookup f26 = some ⟨oc26, od26, .func (PySem.W.fnOf "_law_is" "_law_is" (defArgs s_Lis) (defBody s_Lis) (defScope s_Lis) .none kV26 dc26 pm26 an26 cd26 ct26), sl26⟩)
    (c26 : PySem.W.codeIn K cd26 "_law_is" = true)
    (k26 : PySem.W.keepIn K (.ref f26) = true)
    (a27 : PySem.W.nsIn K mainGlobals "_law_values" = some (some (.ref f27)))
    (l27 : K.lookup f27 = some ⟨oc27, od27, .func (PySem.W.fnOf "_law_values" "_law_values" (defArgs s_Lvalues) (defBody s_Lvalues) (defScope s_Lvalues) .none kV27 dc27 pm27 an27 cd27 ct27), sl27⟩)
    (c27 : PySem.W.codeIn K cd27 "_law_values" = true)
    (k27 : PySem.W.keepIn K (.ref f27) = true)
    (a28 : PySem.W.nsIn K mainGlobals "_law_place" = some (some (.ref f28)))
    (l28 : K.lookup f28 = some ⟨oc28, od28, .func (PySem.W.fnOf "_law_place" "_law_place" (defArgs s_Lplace) (defBody s_Lplace) (defScope s_Lplace) .none kV28 dc28 pm28 an28 cd28 ct28), sl28⟩)
    (c28 : PySem.W.codeIn K cd28 "_law_place" = true)
    (k28 : PySem.W.keepIn K (.ref f28) = true)
    (a29 : PySem.W.nsIn K mainGlobals "_law_done" = some (some (.ref f29)))
    (l29 : K.lookup f29 = some ⟨oc29, od29, .func (PySem.W.fnOf "_law_done" "_law_done" (defArgs s_Ldone) (defBody s_Ldone) (defScope s_Ldone) .none kV29 dc29 pm29 an29 cd29 ct29), sl29⟩)
    (c29 : PySem.W.codeIn K cd29 "_law_done" = true)
    (k29 : PySem.W.keepIn K (.ref f29) = true)
    (a30 : PySem.W.nsIn K mainGlobals "law" = some (some (.ref f30)))
    (l30 : K.lookup f30 = some ⟨oc30, od30, .func (PySem.W.fnOf "law" "law" (defArgs s_law) (defBody s_law) (defScope s_law) .none kV30 dc30 pm30 an30 cd30 ct30), sl30⟩)
    (c30 : PySem.W.codeIn K cd30 "law" = true)
    (k30 : PySem.W.keepIn K (.ref f30) = true)
    (v0 : PySem.W.nsIn K mainGlobals "TRACKS" = some (some (.int 3 t0)))
    (v1 : PySem.W.nsIn K mainGlobals "LAST_CELL" = some (some (.int 10000000 t1)))
    (v2 : PySem.W.nsIn K mainGlobals "GREATEST_VALUE" = some (some (.int 9223372036854775807 t2)))
    (v3 : PySem.W.nsIn K mainGlobals "MOST_AT_ONCE" = some (some (.int 4096 t3)))
    (z0 : PySem.W.nsIn K mainGlobals "abs" = some none)
    (z1 : PySem.W.nsIn K mainGlobals "all" = some none)
    (z2 : PySem.W.nsIn K mainGlobals "bool" = some none)
    (z3 : PySem.W.nsIn K mainGlobals "enumerate" = some none)
    (z4 : PySem.W.nsIn K mainGlobals "int" = some none)
    (z5 : PySem.W.nsIn K mainGlobals "isinstance" = some none)
    (z6 : PySem.W.nsIn K mainGlobals "len" = some none)
    (z7 : PySem.W.nsIn K mainGlobals "list" = some none)
    (z8 : PySem.W.nsIn K mainGlobals "min" = some none)
    (z9 : PySem.W.nsIn K mainGlobals "range" = some none)
    (z10 : PySem.W.nsIn K mainGlobals "repr" = some none)
    (z11 : PySem.W.nsIn K mainGlobals "sorted" = some none)
    (z12 : PySem.W.nsIn K mainGlobals "tuple" = some none)
    (pi0 : insB K L0 = true)
    (pk0 : mkB K L0 = true)
    (pn0 : noA K L0 ["cells", "strokes", "latest", "left"] = true)
    (pg9 : PySem.W.isFn K (.ref f9) = true)
    (pg10 : PySem.W.isFn K (.ref f10) = true)
    (pg11 : PySem.W.isFn K (.ref f11) = true)
    (pg12 : PySem.W.isFn K (.ref f12) = true)
    (pg13 : PySem.W.isFn K (.ref f13) = true)
    (pg14 : PySem.W.isFn K (.ref f14) = true)
    (pg15 : PySem.W.isFn K (.ref f15) = true)
    (pg16 : PySem.W.isFn K (.ref f16) = true)
    (pg17 : PySem.W.isFn K (.ref f17) = true)
    (pg18 : PySem.W.isFn K (.ref f18) = true)
    : ∃ fd : FuncData, (∀ (s : Shared) (v : Value), BindsTo s fd ⟨[v], []⟩ [(P_law.head!, v)]) ∧ ∀ base : Heap, K.In base → base.Ns mainGlobals mg → SmB base → FnG l.prog w K mg base CX0 7 fa fd P_law (spLaw K) := by
  have e := hfa.symm.trans (PySem.W.mg_of X G a30)
  cases e
  have T : Txt K mg (fun i => match i with | 0 => f0 | 1 => f1 | 2 => f2 | 3 => f3 | 4 => f4 | 5 => f5 | 6 => f6 | 7 => f7 | 8 => f8 | 9 => f9 | 10 => f10 | 11 => f11 | 12 => f12 | 13 => f13 | 14 => f14 | 15 => f15 | 16 => f16 | 17 => f17 | 18 => f18 | 19 => f19 | 20 => f20 | 21 => f21 | 22 => f22 | 23 => f23 | 24 => f24 | 25 => f25 | 26 => f26 | 27 => f27 | 28 => f28 | 29 => f29 | 30 => fa | _ => fa) (fun i => match i with | 0 => PySem.W.fnOf "is_integer" "is_integer" (defArgs s_is_integer) (defBody s_is_integer) (defScope s_is_integer) .none kV0 dc0 pm0 an0 cd0 ct0 | 1 => PySem.W.fnOf "is_within" "is_within" (defArgs s_is_within) (defBody s_is_within) (defScope s_is_within) .none kV1 dc1 pm1 an1 cd1 ct1 | 2 => PySem.W.fnOf "are_integers" "are_integers" (defArgs s_are_integers) (defBody s_are_integers) (defScope s_are_integers) .none kV2 dc2 pm2 an2 cd2 ct2 | 3 => PySem.W.fnOf "is_lot" "is_lot" (defArgs s_is_lot) (defBody s_is_lot) (defScope s_is_lot) .none kV3 dc3 pm3 an3 cd3 ct3 | 4 => PySem.W.fnOf "may_be_held" "may_be_held" (defArgs s_may_be_held) (defBody s_may_be_held) (defScope s_may_be_held) .none kV4 dc4 pm4 an4 cd4 ct4 | 5 => PySem.W.fnOf "check_track" "check_track" (defArgs s_check_track) (defBody s_check_track) (defScope s_check_track) .none kV5 dc5 pm5 an5 cd5 ct5 | 6 => PySem.W.fnOf "check_cell" "check_cell" (defArgs s_check_cell) (defBody s_check_cell) (defScope s_check_cell) .none kV6 dc6 pm6 an6 cd6 ct6 | 7 => PySem.W.fnOf "_most_from" "_most_from" (defArgs s_Umost_from) (defBody s_Umost_from) (defScope s_Umost_from) .none kV7 dc7 pm7 an7 cd7 ct7 | 8 => PySem.W.fnOf "_may_be_written" "_may_be_written" (defArgs s_Umay_be_written) (defBody s_Umay_be_written) (defScope s_Umay_be_written) .none kV8 dc8 pm8 an8 cd8 ct8 | 9 => PySem.W.fnOf "__init__" "Disk.__init__" (defArgs s_Disk_init) (defBody s_Disk_init) (defScope s_Disk_init) .none kV9 dc9 pm9 an9 cd9 ct9 | 10 => PySem.W.fnOf "write" "Disk.write" (defArgs s_Disk_write) (defBody s_Disk_write) (defScope s_Disk_write) .none kV10 dc10 pm10 an10 cd10 ct10 | 11 => PySem.W.fnOf "flush" "Disk.flush" (defArgs s_Disk_flush) (defBody s_Disk_flush) (defScope s_Disk_flush) .none kV11 dc11 pm11 an11 cd11 ct11 | 12 => PySem.W.fnOf "read" "Disk.read" (defArgs s_Disk_read) (defBody s_Disk_read) (defScope s_Disk_read) .none kV12 dc12 pm12 an12 cd12 ct12 | 13 => PySem.W.fnOf "kept" "Disk.kept" (defArgs s_Disk_kept) (defBody s_Disk_kept) (defScope s_Disk_kept) .none kV13 dc13 pm13 an13 cd13 ct13 | 14 => PySem.W.fnOf "waiting" "Disk.waiting" (defArgs s_Disk_waiting) (defBody s_Disk_waiting) (defScope s_Disk_waiting) .none kV14 dc14 pm14 an14 cd14 ct14 | 15 => PySem.W.fnOf "cut" "Disk.cut" (defArgs s_Disk_cut) (defBody s_Disk_cut) (defScope s_Disk_cut) .none kV15 dc15 pm15 an15 cd15 ct15 | 16 => PySem.W.fnOf "_spend" "Disk._spend" (defArgs s_Disk__spend) (defBody s_Disk__spend) (defScope s_Disk__spend) .none kV16 dc16 pm16 an16 cd16 ct16 | 17 => PySem.W.fnOf "_land" "Disk._land" (defArgs s_Disk__land) (defBody s_Disk__land) (defScope s_Disk__land) .none kV17 dc17 pm17 an17 cd17 ct17 | 18 => PySem.W.fnOf "_forget_strokes" "Disk._forget_strokes" (defArgs s_Disk__forget_strokes) (defBody s_Disk__forget_strokes) (defScope s_Disk__forget_strokes) .none kV18 dc18 pm18 an18 cd18 ct18 | 19 => PySem.W.fnOf "_law_rig" "_law_rig" (defArgs s_Lrig) (defBody s_Lrig) (defScope s_Lrig) .none kV19 dc19 pm19 an19 cd19 ct19 | 20 => PySem.W.fnOf "_law_haul" "_law_haul" (defArgs s_Lhaul) (defBody s_Lhaul) (defScope s_Lhaul) .none kV20 dc20 pm20 an20 cd20 ct20 | 21 => PySem.W.fnOf "_law_pick" "_law_pick" (defArgs s_Lpick) (defBody s_Lpick) (defScope s_Lpick) .none kV21 dc21 pm21 an21 cd21 ct21 | 22 => PySem.W.fnOf "_law_lot" "_law_lot" (defArgs s_Llot) (defBody s_Llot) (defScope s_Llot) .none kV22 dc22 pm22 an22 cd22 ct22 | 23 => PySem.W.fnOf "_law_land" "_law_land" (defArgs s_Lland) (defBody s_Lland) (defScope s_Lland) .none kV23 dc23 pm23 an23 cd23 ct23 | 24 => PySem.W.fnOf "_law_kept" "_law_kept" (defArgs s_Lkept) (defBody s_Lkept) (defScope s_Lkept) .none kV24 dc24 pm24 an24 cd24 ct24 | 25 => PySem.W.fnOf "_law_reads" "_law_reads" (defArgs s_Lreads) (defBody s_Lreads) (defScope s_Lreads) .none kV25 dc25 pm25 an25 cd25 ct25 | 26 => PySem.W.fnOf "_law_is" "_law_is" (defArgs s_Lis) (defBody s_Lis) (defScope s_Lis) .none kV26 dc26 pm26 an26 cd26 ct26 | 27 => PySem.W.fnOf "_law_values" "_law_values" (defArgs s_Lvalues) (defBody s_Lvalues) (defScope s_Lvalues) .none kV27 dc27 pm27 an27 cd27 ct27 | 28 => PySem.W.fnOf "_law_place" "_law_place" (defArgs s_Lplace) (defBody s_Lplace) (defScope s_Lplace) .none kV28 dc28 pm28 an28 cd28 ct28 | 29 => PySem.W.fnOf "_law_done" "_law_done" (defArgs s_Ldone) (defBody s_Ldone) (defScope s_Ldone) .none kV29 dc29 pm29 an29 cd29 ct29 | 30 => PySem.W.fnOf "law" "law" (defArgs s_law) (defBody s_law) (defScope s_law) .none kV30 dc30 pm30 an30 cd30 ct30 | _ => PySem.W.fnOf "is_integer" "is_integer" (defArgs s_is_integer) (defBody s_is_integer) (defScope s_is_integer) .none kV0 dc0 pm0 an0 cd0 ct0) (fun i => match i with | 0 => t0 | 1 => t1 | 2 => t2 | 3 => t3 | _ => 0) (fun i => match i with | 0 => L0 | _ => L0) :=
    ⟨fun_mk (st := s_is_integer) l0 c0 k0, PySem.W.mg_of X G a0, fun_mk (st := s_is_within) l1 c1 k1, PySem.W.mg_of X G a1, fun_mk (st := s_are_integers) l2 c2 k2, PySem.W.mg_of X G a2, fun_mk (st := s_is_lot) l3 c3 k3, PySem.W.mg_of X G a3, fun_mk (st := s_may_be_held) l4 c4 k4, PySem.W.mg_of X G a4, fun_mk (st := s_check_track) l5 c5 k5, PySem.W.mg_of X G a5, fun_mk (st := s_check_cell) l6 c6 k6, PySem.W.mg_of X G a6, fun_mk (st := s_Umost_from) l7 c7 k7, PySem.W.mg_of X G a7, fun_mk (st := s_Umay_be_written) l8 c8 k8, PySem.W.mg_of X G a8, fun_mk (st := s_Disk_init) l9 c9 k9, fun_mk (st := s_Disk_write) l10 c10 k10, fun_mk (st := s_Disk_flush) l11 c11 k11, fun_mk (st := s_Disk_read) l12 c12 k12, fun_mk (st := s_Disk_kept) l13 c13 k13, fun_mk (st := s_Disk_waiting) l14 c14 k14, fun_mk (st := s_Disk_cut) l15 c15 k15, fun_mk (st := s_Disk__spend) l16 c16 k16, fun_mk (st := s_Disk__land) l17 c17 k17, fun_mk (st := s_Disk__forget_strokes) l18 c18 k18, fun_mk (st := s_Lrig) l19 c19 k19, PySem.W.mg_of X G a19, fun_mk (st := s_Lhaul) l20 c20 k20, PySem.W.mg_of X G a20, fun_mk (st := s_Lpick) l21 c21 k21, PySem.W.mg_of X G a21, fun_mk (st := s_Llot) l22 c22 k22, PySem.W.mg_of X G a22, fun_mk (st := s_Lland) l23 c23 k23, PySem.W.mg_of X G a23, fun_mk (st := s_Lkept) l24 c24 k24, PySem.W.mg_of X G a24, fun_mk (st := s_Lreads) l25 c25 k25, PySem.W.mg_of X G a25, fun_mk (st := s_Lis) l26 c26 k26, PySem.W.mg_of X G a26, fun_mk (st := s_Lvalues) l27 c27 k27, PySem.W.mg_of X G a27, fun_mk (st := s_Lplace) l28 c28 k28, PySem.W.mg_of X G a28, fun_mk (st := s_Ldone) l29 c29 k29, PySem.W.mg_of X G a29, fun_mk (st := s_law) l30 c30 k30, PySem.W.mg_of X G a30, PySem.W.mg_of X G v0, PySem.W.mg_of X G v1, PySem.W.mg_of X G v2, PySem.W.mg_of X G v3, PySem.W.mg_none_of X G z0, PySem.W.mg_none_of X G z1, PySem.W.mg_none_of X G z2, PySem.W.mg_none_of X G z3, PySem.W.mg_none_of X G z4, PySem.W.mg_none_of X G z5, PySem.W.mg_none_of X G z6, PySem.W.mg_none_of X G z7, PySem.W.mg_none_of X G z8, PySem.W.mg_none_of X G z9, PySem.W.mg_none_of X G z10, PySem.W.mg_none_of X G z11, PySem.W.mg_none_of X G z12, PySem.W.mg_of X G pa0, mk_of pk0 pf9 pg9, (ins_of pi0).cl, ins_of pi0, noA_of pn0 (by simp), noA_of pn0 (by simp), noA_of pn0 (by simp), noA_of pn0 (by simp), ⟨pf10, pg10, k10⟩, ⟨pf11, pg11, k11⟩, ⟨pf12, pg12, k12⟩, ⟨pf13, pg13, k13⟩, ⟨pf14, pg14, k14⟩, ⟨pf15, pg15, k15⟩, ⟨pf16, pg16, k16⟩, ⟨pf17, pg17, k17⟩, ⟨pf18, pg18, k18⟩⟩
  exact ⟨PySem.W.fnOf "law" "law" (defArgs s_law) (defBody s_law) (defScope s_law) .none kV30 dc30 pm30 an30 cd30 ct30, fun s v => .of_eq rfl, fun base _ _ sb => ok_law sb T⟩
end Mine
open PySem PySem.W PyProof.Rows
set_option maxRecDepth 100000 in
set_option maxHeartbeats 0 in
theorem PySem.Challenge.cw_priceblind_k03_a_disk_by_an_own_one_holds : PySem.Challenge.rw_priceblind_k03_a_disk_by_an_own_one.Holds := by
  w_on; o_law; k_head; (case hw => w_witness2)
  k_fill
  refine GL.walkG (l := PySem.Challenge.rw_priceblind_k03_a_disk_by_an_own_one) (n := 63) (k := 7) (x := Mine.P_law.head!) (cx := L2.CX0) (sp := fun K => Mine.spLaw K) (by first | rfl | decide +kernel) rfl (by decide) rfl ⟨rfl, by decide, by decide⟩ (fun w h Y => PySem.W.kIn_of Y) ?F (fun K H a ns hl _ hS => Mine.law_pre hl hS) (fun _ _ _ _ z => z)
  case F =>
    intro w mg fa h KX G hmg
    refine' Mine.all_mk KX G hmg ?pa0 ?a0 ?l0 ?c0 ?k0 ?a1 ?l1 ?c1 ?k1 ?a2 ?l2 ?c2 ?k2 ?a3 ?l3 ?c3 ?k3 ?a4 ?l4 ?c4 ?k4 ?a5 ?l5 ?c5 ?k5 ?a6 ?l6 ?c6 ?k6 ?a7 ?l7 ?c7 ?k7 ?a8 ?l8 ?c8 ?k8 ?pf9 ?l9 ?c9 ?k9 ?pf10 ?l10 ?c10 ?k10 ?pf11 ?l11 ?c11 ?k11 ?pf12 ?l12 ?c12 ?k12 ?pf13 ?l13 ?c13 ?k13 ?pf14 ?l14 ?c14 ?k14 ?pf15 ?l15 ?c15 ?k15 ?pf16 ?l16 ?c16 ?k16 ?pf17 ?l17 ?c17 ?k17 ?pf18 ?l18 ?c18 ?k18 ?a19 ?l19 ?c19 ?k19 ?a20 ?l20 ?c20 ?k20 ?a21 ?l21 ?c21 ?k21 ?a22 ?l22 ?c22 ?k22 ?a23 ?l23 ?c23 ?k23 ?a24 ?l24 ?c24 ?k24 ?a25 ?l25 ?c25 ?k25 ?a26 ?l26 ?c26 ?k26 ?a27 ?l27 ?c27 ?k27 ?a28 ?l28 ?c28 ?k28 ?a29 ?l29 ?c29 ?k29 ?a30 ?l30 ?c30 ?k30 ?v0 ?v1 ?v2 ?v3 ?z0 ?z1 ?z2 ?z3 ?z4 ?z5 ?z6 ?z7 ?z8 ?z9 ?z10 ?z11 ?z12 ?pi0 ?pk0 ?pn0 ?pg9 ?pg10 ?pg11 ?pg12 ?pg13 ?pg14 ?pg15 ?pg16 ?pg17 ?pg18
    (case pa0 => k_is)
    (case a0 => k_is)
    (case l0 => k_is)
    (case c0 => k_is)
    (case k0 => k_is)
    (case a1 => k_is)
    (case l1 => k_is)
    (case c1 => k_is)
    (case k1 => k_is)
    (case a2 => k_is)
    (case l2 => k_is)
    (case c2 => k_is)
    (case k2 => k_is)
    (case a3 => k_is)
    (case l3 => k_is)
    (case c3 => k_is)
    (case k3 => k_is)
    (case a4 => k_is)
    (case l4 => k_is)
    (case c4 => k_is)
    (case k4 => k_is)
    (case a5 => k_is)
    (case l5 => k_is)
    (case c5 => k_is)
    (case k5 => k_is)
    (case a6 => k_is)
    (case l6 => k_is)
    (case c6 => k_is)
    (case k6 => k_is)
    (case a7 => k_is)
    (case l7 => k_is)
    (case c7 => k_is)
    (case k7 => k_is)
    (case a8 => k_is)
    (case l8 => k_is)
    (case c8 => k_is)
    (case k8 => k_is)
    (case pf9 => k_is)
    (case l9 => k_is)
    (case c9 => k_is)
    (case k9 => k_is)
    (case pf10 => k_is)
    (case l10 => k_is)
    (case c10 => k_is)
    (case k10 => k_is)
    (case pf11 => k_is)
    (case l11 => k_is)
    (case c11 => k_is)
    (case k11 => k_is)
    (case pf12 => k_is)
    (case l12 => k_is)
    (case c12 => k_is)
    (case k12 => k_is)
    (case pf13 => k_is)
    (case l13 => k_is)
    (case c13 => k_is)
    (case k13 => k_is)
    (case pf14 => k_is)
    (case l14 => k_is)
    (case c14 => k_is)
    (case k14 => k_is)
    (case pf15 => k_is)
    (case l15 => k_is)
    (case c15 => k_is)
    (case k15 => k_is)
    (case pf16 => k_is)
    (case l16 => k_is)
    (case c16 => k_is)
    (case k16 => k_is)
    (case pf17 => k_is)
    (case l17 => k_is)
    (case c17 => k_is)
    (case k17 => k_is)
    (case pf18 => k_is)
    (case l18 => k_is)
    (case c18 => k_is)
    (case k18 => k_is)
    (case a19 => k_is)
    (case l19 => k_is)
    (case c19 => k_is)
    (case k19 => k_is)
    (case a20 => k_is)
    (case l20 => k_is)
    (case c20 => k_is)
    (case k20 => k_is)
    (case a21 => k_is)
    (case l21 => k_is)
    (case c21 => k_is)
    (case k21 => k_is)
    (case a22 => k_is)
    (case l22 => k_is)
    (case c22 => k_is)
    (case k22 => k_is)
    (case a23 => k_is)
    (case l23 => k_is)
    (case c23 => k_is)
    (case k23 => k_is)
    (case a24 => k_is)
    (case l24 => k_is)
    (case c24 => k_is)
    (case k24 => k_is)
    (case a25 => k_is)
    (case l25 => k_is)
    (case c25 => k_is)
    (case k25 => k_is)
    (case a26 => k_is)
    (case l26 => k_is)
    (case c26 => k_is)
    (case k26 => k_is)
    (case a27 => k_is)
    (case l27 => k_is)
    (case c27 => k_is)
    (case k27 => k_is)
    (case a28 => k_is)
    (case l28 => k_is)
    (case c28 => k_is)
    (case k28 => k_is)
    (case a29 => k_is)
    (case l29 => k_is)
    (case c29 => k_is)
    (case k29 => k_is)
    (case a30 => k_is)
    (case l30 => k_is)
    (case c30 => k_is)
    (case k30 => k_is)
    (case v0 => k_is)
    (case v1 => k_is)
    (case v2 => k_is)
    (case v3 => k_is)
    (case z0 => k_is)
    (case z1 => k_is)
    (case z2 => k_is)
    (case z3 => k_is)
    (case z4 => k_is)
    (case z5 => k_is)
    (case z6 => k_is)
    (case z7 => k_is)
    (case z8 => k_is)
    (case z9 => k_is)
    (case z10 => k_is)
    (case z11 => k_is)
    (case z12 => k_is)
    (case pi0 => kernel_rfl)
    (case pk0 => kernel_rfl)
    (case pn0 => kernel_rfl)
    (case pg9 => kernel_rfl)
    (case pg10 => kernel_rfl)
    (case pg11 => kernel_rfl)
    (case pg12 => kernel_rfl)
    (case pg13 => kernel_rfl)
    (case pg14 => kernel_rfl)
    (case pg15 => kernel_rfl)
    (case pg16 => kernel_rfl)
    (case pg17 => kernel_rfl)
    (case pg18 => kernel_rfl)

end
